import PyProof.Rows.All
import Wide.All
import OpenK.AllK
import Wide.FinOn
import Lean
import PyProof.EqAt
import PyProof.EqKinds
import PyProof.TupleCall
import PySem.Challenge.RW_ropetree_k11_no_place
set_option Elab.async false
set_option linter.all false
set_option maxRecDepth 100000
set_option maxHeartbeats 4000000
set_option maxRecDepth 100000
namespace L2
open PySem PySem.Spec PyProof.Rows

/-- a key: an int or a str -/
abbrev Key := Sum Int Str
def keyIs : Key → Value → Bool
  | .inl k, v => Value.isInt k v
  | .inr x, v => Value.isStrOf x v
def keyH (w : World) : Key → Int
  | .inl k => hashInt k
  | .inr x => hashStr w x
theorem keyIs_shape : ∀ {k : Key} {v : Value}, keyIs k v = true → (∃ i t, k = Sum.inl i ∧ v = Value.int i t) ∨ (∃ x t, k = Sum.inr x ∧ v = Value.str x t)
  | .inl i, v, h => by
    obtain ⟨t, e⟩ := Value.isInt_shape (k := i) (v := v) h
    exact .inl ⟨i, t, rfl, e⟩
  | .inr x, v, h => by
    obtain ⟨t, e⟩ := Value.isStrOf_shape (x := x) (v := v) h
    exact .inr ⟨x, t, rfl, e⟩
theorem keyIs_int (i : Int) (t : Tok) : keyIs (.inl i) (.int i t) = true := by simp [keyIs, Value.isInt]
theorem keyIs_str (x : Str) (t : Tok) : keyIs (.inr x) (.str x t) = true := by simp [keyIs, Value.isStrOf]
theorem key_ll (a b : Int) : decide ((Sum.inl a : Key) = Sum.inl b) = (a == b) := by
  by_cases e : a = b
  · subst e; simp
  · have h : ¬ (Sum.inl a : Key) = Sum.inl b := fun q => e (Sum.inl.inj q)
    rw [decide_eq_false h]
    exact (beq_eq_false_iff_ne.mpr e).symm
theorem key_rr (a b : Str) : decide ((Sum.inr a : Key) = Sum.inr b) = decide (a = b) := by
  by_cases e : a = b
  · subst e; simp
  · have h : ¬ (Sum.inr a : Key) = Sum.inr b := fun q => e (Sum.inr.inj q)
    rw [decide_eq_false h, decide_eq_false e]
theorem key_lr (a : Int) (b : Str) : decide ((Sum.inl a : Key) = Sum.inr b) = false := decide_eq_false (fun q => nomatch q)
theorem key_rl (a : Str) (b : Int) : decide ((Sum.inr a : Key) = Sum.inl b) = false := decide_eq_false (fun q => nomatch q)

def mixKind (prog : Program) (w : World) : PySem.KeyKind prog w Key where
  is := keyIs
  hash := keyH w
  inj := fun v a b ha hb => by
    rcases keyIs_shape ha with ⟨i, t, rfl, rfl⟩ | ⟨x, t, rfl, rfl⟩
    · rcases keyIs_shape hb with ⟨j, u, rfl, e⟩ | ⟨y, u, rfl, e⟩
      · injection e with e1 _; rw [e1]
      · exact nomatch e
    · rcases keyIs_shape hb with ⟨j, u, rfl, e⟩ | ⟨y, u, rfl, e⟩
      · exact nomatch e
      · injection e with e1 _; rw [e1]
  byValue := fun k v h => by
    rcases keyIs_shape h with ⟨i, t, rfl, rfl⟩ | ⟨x, t, rfl, rfl⟩ <;> rfl
  pyHash := fun hv h => by
    rcases keyIs_shape hv with ⟨i, t, rfl, rfl⟩ | ⟨x, t, rfl, rfl⟩
    · exact wpAny_pyHash_int h
    · exact wpAny_pyHash_str h
  eqBool := fun hu hv h => by
    rcases keyIs_shape hu with ⟨i, t, rfl, rfl⟩ | ⟨x, t, rfl, rfl⟩
    · rcases keyIs_shape hv with ⟨j, u, rfl, rfl⟩ | ⟨y, u, rfl, rfl⟩
      · rw [key_ll] at h; exact wpAny_eqBool_int h
      · rw [key_lr] at h; exact SeqAt.EqAt.int_str i t y u _ _ _ _ h
    · rcases keyIs_shape hv with ⟨j, u, rfl, rfl⟩ | ⟨y, u, rfl, rfl⟩
      · rw [key_rl] at h; exact SeqAt.EqAt.str_int x t j u _ _ _ _ h
      · rw [key_rr] at h; exact wpAny_eqBool_str h
  «strs» := fun k x t v h => by
    rcases keyIs_shape h with ⟨i, u, rfl, e⟩ | ⟨y, u, rfl, e⟩
    · exact nomatch e
    · injection e with e1 _
      subst e1
      cases v <;> rfl

theorem mixKind_int (prog : Program) (w : World) (i : Int) (t : Tok) : (mixKind prog w).is (.inl i) (.int i t) = true := keyIs_int i t
theorem mixKind_str (prog : Program) (w : World) (x : Str) (t : Tok) : (mixKind prog w).is (.inr x) (.str x t) = true := keyIs_str x t
end L2

namespace L2
open PySem PySem.Spec PyProof.Rows

/-- a value, without the heap -/
inductive V where
  | non | bl (b : Bool) | int (i : Int) | str (x : Str) | byt (b : Array UInt8) | flt (b : UInt64) | ref (a : Addr) | ty (n : String)
  deriving DecidableEq

def RelV : V → Value → Prop
  | .non, u => u = Value.none
  | .bl b, u => u = Value.bool b
  | .int i, u => ∃ t, u = Value.int i t
  | .str x, u => ∃ t, u = Value.str x t
  | .byt b, u => ∃ t, u = Value.bytes b t
  | .flt b, u => ∃ t, u = Value.float b t
  | .ref a, u => u = Value.ref a
  | .ty n, u => u = Value.type n

abbrev Vals : List V → List Value → Prop := Paired RelV
theorem Vals.length {xs : List V} {us : List Value} (r : Vals xs us) : xs.length = us.length := Paired.length r
theorem Vals.get : ∀ {xs : List V} {us : List Value} {i : Nat} {x : V}, Vals xs us → xs[i]? = some x → ∃ u, us[i]? = some u ∧ RelV x u
  | _, _, _, _, .nil, e => by simp at e
  | _, _, 0, _, .cons r _, e => by simp at e; subst e; exact ⟨_, rfl, r⟩
  | _, _, i + 1, x, .cons _ t, e => by
    obtain ⟨u, h1, h2⟩ := Vals.get (i := i) (x := x) t (by simpa using e)
    exact ⟨u, by simpa using h1, h2⟩
theorem Vals.set {x : V} {u : Value} (r : RelV x u) : ∀ {xs : List V} {us : List Value} (i : Nat), Vals xs us → Vals (xs.set i x) (us.set i u)
  | _, _, _, .nil => .nil
  | _, _, 0, .cons _ t => .cons r t
  | _, _, i + 1, .cons q t => .cons q (Vals.set r i t)
theorem Vals.append : ∀ {xs ys : List V} {us ws : List Value}, Vals xs us → Vals ys ws → Vals (xs ++ ys) (us ++ ws)
  | _, _, _, _, .nil, s => s
  | _, _, _, _, .cons r t, s => .cons r (Vals.append t s)
theorem Vals.take : ∀ {xs : List V} {us : List Value} (n : Nat), Vals xs us → Vals (xs.take n) (us.take n)
  | _, _, 0, _ => .nil
  | _, _, _ + 1, .nil => .nil
  | _, _, n + 1, .cons r t => .cons r (Vals.take n t)
theorem Vals.drop : ∀ {xs : List V} {us : List Value} (n : Nat), Vals xs us → Vals (xs.drop n) (us.drop n)
  | _, _, 0, r => r
  | _, _, _ + 1, .nil => .nil
  | _, _, n + 1, .cons _ t => Vals.drop n t
theorem Vals.none_of : ∀ {xs : List V} {us : List Value} {i : Nat}, Vals xs us → xs[i]? = none → us[i]? = none := fun {xs us i} r e => by
  have h1 := r.length
  have h2 : xs.length ≤ i := List.getElem?_eq_none_iff.mp e
  exact List.getElem?_eq_none_iff.mpr (by omega)

def RelO : Option V → Option Value → Prop
  | some v, some u => RelV v u
  | none, none => True
  | _, _ => False
def KV {κ : Type} : List (κ × V) → List (κ × Value) → Prop := Paired fun (p : κ × V) (q : κ × Value) => p.1 = q.1 ∧ RelV p.2 q.2

/-- a key of a dict (00_mix): an int or a text -/
def kV : Key → V
  | .inl i => .int i
  | .inr x => .str x

/-- what stands at a tracked address -/
inductive HO where
  /-- a list -/
  | lst (xs : List V)
  /-- a tuple (never changes) -/
  | tup (xs : List V)
  /-- a dict whose keys are ints and texts; one whose keys are tuples of ints and texts (the empty one is both) -/
  | dK (kvs : List (Key × V)) | dT (kvs : List (List Key × V))
  /-- a set of ints: its members, its size -/
  | set (S : Int → Bool) (n : Nat)
  /-- an instance of the class at C, its dict at dx, its attributes -/
  | ins (C dx : Addr) (fs : List (Str × V))
  /-- the dict of the instance at x -/
  | own (x : Addr)
  /-- the dict of an exception -/
  | xd (fs : List (Str × V))
  /-- a bound method, f of x -/
  | met (f x : Addr)
  /-- a range object lo, lo + 1, .. below hi -/
  | rng (lo hi : Int)
  /-- a thing that is known to the object (the script; a dict while a loop walks it): read, never written while it is so -/
  | frz (o : Obj) (u : HO)
  /-- a code object's table -/
  | tbl (ps : Array Value)
  | cod (q : Str) | ctab (q : Str)
  /-- any other thing, by what is true of its one object (a def of one's own: SetO a S n := HO.ext fun h => ..) -/
  | ext (φ : Heap → Prop)

abbrev Hp := Addr → Option HO
def upd (H : Hp) (a : Addr) (o : HO) : Hp := fun b => if b = a then some o else H b
theorem upd_same {H : Hp} {a : Addr} {o : HO} : upd H a o a = some o := by unfold upd; rw [if_pos rfl]
theorem upd_ne {H : Hp} {a b : Addr} {o : HO} (h : b ≠ a) : upd H a o b = H b := by unfold upd; rw [if_neg h]
theorem upd_upd {H : Hp} {a : Addr} {o u : HO} : upd (upd H a o) a u = upd H a u := by
  funext b; unfold upd; split <;> rfl
/-- two objects of different content stand apart -/
theorem ne_of {H : Hp} {a b : Addr} {o u : HO} (h : H a = some o) (h' : H b = some u) (d : o ≠ u) : a ≠ b := by
  intro e; subst e; rw [h] at h'; exact d (Option.some.inj h')
theorem ne_of_none {H : Hp} {a b : Addr} {o : HO} (h : H a = some o) (h' : H b = none) : a ≠ b := by
  intro e; subst e; rw [h] at h'; cases h'

section
variable (P : Program) (w : World)
def ObjOk (H : Hp) (h : Heap) (a : Addr) : HO → Prop
  | .lst xs => xs.length ≤ sizeLine ∧ ∃ (its : List Value) (n : Nat), Vals xs its ∧ h.get? a = some { cls := .type "list", data := .seq its.toArray n }
  | .tup xs => xs.length ≤ sizeLine ∧ ∃ its : List Value, Vals xs its ∧ IsTup h a its.toArray
  | .dK kvs => kvs.length ≤ sizeLine ∧ (a == sysModules) = false ∧ ∃ vs, KV kvs vs ∧ h.DictOf (mixKind P w) a vs
  | .dT kvs => kvs.length ≤ sizeLine ∧ (a == sysModules) = false ∧ ∃ xs : List (List Key × Addr × Value),
      Paired (fun (p : List Key × V) (q : List Key × Addr × Value) => p.1 = q.1 ∧ H q.2.1 = some (.tup (p.1.map kV)) ∧ RelV p.2 q.2.2) kvs xs ∧
      ∃ o es ep, h.get? a = some o ∧ o.ExactDict ∧ o.data = .dict es ep ∧ es.toList = xs.map (entryOfKey (tupleKind (mixKind P w))) ∧ (xs.map (·.1)).Nodup
  | .set S n => h.SetOf (intKind P w) a S n
  | .ins C dx fs => H dx = some (.own a) ∧ fs.length ≤ 1000 ∧ dx ≠ a ∧ h.get? a = some (PySem.W.instObj C dx) ∧
      ∃ mA, h.Ns1 dx mA ∧ (∀ f, RelO (fs.lookup f) (mA f)) ∧ PySem.Within mA (fs.map (·.1))
  | .own _ => ∃ o, h.get? a = some o
  | .xd fs => ∃ mA, h.Ns1 a mA ∧ ∀ f, RelO (fs.lookup f) (mA f)
  | .rng lo hi => ∃ t u v, h.get? a = some { cls := .type "range", data := .fields #[.int lo t, .int hi u, .int 1 v] }
  | .frz o u => h.get? a = some o ∧ ObjOk H h a u
  | .tbl ps => h.get? a = some { cls := .none, data := .fields ps }
  | .cod q => h.CodeRec (.ref a) q
  | .ctab q => ∃ ps, h.get? a = some (PySem.W.tabObj ps) ∧ TriplesOk ps.toList ∧ ∀ pos v, codeAmong pos ps.toList = some v → ∃ c', v = .ref c' ∧ H c' = some (.cod q)
  | .met f x => h.get? a = some (PySem.W.methodObj (.ref f) (.ref x))
  | .ext φ => φ h ∧ (∃ o, h.get? a = some o) ∧ ∀ h1 h2 : Heap, φ h1 → (∀ o, h1.get? a = some o → h2.get? a = some o) → φ h2
/-- the abstract heap is held -/
def HOk (H : Hp) (h : Heap) : Prop := ∀ a o, H a = some o → ObjOk P w H h a o
end

section
variable {P : Program} {w : World} {H H' : Hp} {h h' : Heap} {a : Addr} {o : HO}
theorem ObjOk.lt (x : ObjOk P w H h a o) : a < h.objs.size := by
  cases o with
  | lst xs => obtain ⟨_, _, _, _, e⟩ := x; exact Heap.lt_size e
  | tup xs => obtain ⟨_, _, _, p⟩ := x; exact p.lt
  | dK kvs => obtain ⟨_, _, _, _, o, _, _, e, _⟩ := x; exact Heap.lt_size e
  | dT kvs => obtain ⟨_, _, _, _, o, _, _, e, _⟩ := x; exact Heap.lt_size e
  | set S n => obtain ⟨o, _, _, _, e, _⟩ := x; exact Heap.lt_size e
  | ins C dx fs => obtain ⟨_, _, _, e, _⟩ := x; exact Heap.lt_size e
  | own y => obtain ⟨_, e⟩ := x; exact Heap.lt_size e
  | xd fs => obtain ⟨_, ⟨_, _, _, e, _⟩, _⟩ := x; exact Heap.lt_size e
  | rng lo hi => obtain ⟨_, _, _, e⟩ := x; exact Heap.lt_size e
  | frz ob u => obtain ⟨e, _⟩ := x; exact Heap.lt_size e
  | tbl ps => exact Heap.lt_size (show h.get? a = some _ from x)
  | cod q => obtain ⟨_, _, _, _, e, g, _⟩ := x; cases e; exact Heap.lt_size g
  | ctab q => obtain ⟨_, e, _⟩ := x; exact Heap.lt_size e
  | met f y => exact Heap.lt_size (show h.get? a = some _ from x)
  | ext φ => obtain ⟨_, ⟨_, e⟩, _⟩ := x; exact Heap.lt_size e
theorem Paired.mapP {α β : Type} {F G : α → β → Prop} : ∀ {l₁ : List α} {l₂ : List β}, Paired F l₁ l₂ → (∀ a b, F a b → G a b) → Paired G l₁ l₂
  | _, _, .nil, _ => .nil
  | _, _, .cons r t, f => .cons (f _ _ r) (Paired.mapP t f)
/-- what an object's description leans on: its own object, its own dict, the tuples -/
theorem ObjOk.stay (x : ObjOk P w H h a o) (k : ∀ b u, (b = a ∨ H b = some (.own a)) → h.get? b = some u → h'.get? b = some u)
    (ho : ∀ b, H b = some (.own a) → H' b = some (.own a)) (ht : ∀ b xs, H b = some (.tup xs) → H' b = some (.tup xs)) (hc : ∀ b q, H b = some (.cod q) → H' b = some (.cod q)) : ObjOk P w H' h' a o := by
  induction o with
  | lst xs => obtain ⟨z, its, n, r, e⟩ := x; exact ⟨z, its, n, r, k _ _ (.inl rfl) e⟩
  | tup xs => obtain ⟨z, its, r, ob, e, c⟩ := x; exact ⟨z, its, r, ob, k _ _ (.inl rfl) e, c⟩
  | dK kvs => obtain ⟨z, y, vs, r, ob, es, ep, e, c⟩ := x; exact ⟨z, y, vs, r, ob, es, ep, k _ _ (.inl rfl) e, c⟩
  | dT kvs =>
    obtain ⟨z, y, xs, r, ob, es, ep, e, c⟩ := x
    exact ⟨z, y, xs, Paired.mapP r fun p q z => ⟨z.1, ht _ _ z.2.1, z.2.2⟩, ob, es, ep, k _ _ (.inl rfl) e, c⟩
  | set S n => obtain ⟨ob, es, ep, t, e, c⟩ := x; exact ⟨ob, es, ep, t, k _ _ (.inl rfl) e, c⟩
  | ins C dx fs =>
    obtain ⟨d, z, ne, e, mA, ⟨od, es, ep, e2, c⟩, r⟩ := x
    exact ⟨ho _ d, z, ne, k _ _ (.inl rfl) e, mA, ⟨od, es, ep, k _ _ (.inr d) e2, c⟩, r⟩
  | own y => obtain ⟨ob, e⟩ := x; exact ⟨ob, k _ _ (.inl rfl) e⟩
  | xd fs => obtain ⟨mA, ⟨od, es, ep, e, c⟩, r⟩ := x; exact ⟨mA, ⟨od, es, ep, k _ _ (.inl rfl) e, c⟩, r⟩
  | rng lo hi => obtain ⟨t, u, v, e⟩ := x; exact ⟨t, u, v, k _ _ (.inl rfl) e⟩
  | frz ob u ih => obtain ⟨e, q⟩ := x; exact ⟨k _ _ (.inl rfl) e, ih q⟩
  | cod q => obtain ⟨c, ob, vs, t, e, g, r⟩ := x; cases e; exact ⟨_, ob, vs, t, rfl, k _ _ (.inl rfl) g, r⟩
  | ctab q => obtain ⟨ps, e, t, r⟩ := x; exact ⟨ps, k _ _ (.inl rfl) e, t, fun pos v z => let ⟨c', e1, e2⟩ := r pos v z; ⟨c', e1, hc _ _ e2⟩⟩
  | tbl ps =>
    have e : h.get? a = some { cls := .none, data := .fields ps } := x
    show h'.get? a = some { cls := .none, data := .fields ps }
    exact k a _ (.inl rfl) e
  | met f y =>
    have e : h.get? a = some (PySem.W.methodObj (.ref f) (.ref y)) := x
    show h'.get? a = some (PySem.W.methodObj (.ref f) (.ref y))
    exact k a _ (.inl rfl) e
  | ext φ => obtain ⟨p, ⟨o, e⟩, st⟩ := x; exact ⟨st _ _ p fun o q => k _ _ (.inl rfl) q, ⟨o, k _ _ (.inl rfl) e⟩, st⟩
theorem HOk.lt (x : HOk P w H h) (e : H a = some o) : a < h.objs.size := (x a o e).lt
theorem HOk.fresh (x : HOk P w H h) (e : h.objs.size ≤ a) : H a = none := by
  cases q : H a with
  | none => rfl
  | some u => exact absurd (Nat.lt_of_lt_of_le (x.lt q) e) (Nat.lt_irrefl _)
/-- every object of the heap is kept -/
theorem HOk.kept (x : HOk P w H h) (k : ∀ b u, h.get? b = some u → h'.get? b = some u) : HOk P w H h' := fun a o e =>
  (x a o e).stay (fun b u _ q => k b u q) (fun _ q => q) (fun _ _ q => q) fun _ _ q => q
/-- a new object is laid and tracked -/
theorem HOk.laid (x : HOk P w H h) (k : ∀ b u, h.get? b = some u → h'.get? b = some u) (hp : h.objs.size ≤ a) (new : ObjOk P w (upd H a o) h' a o) : HOk P w (upd H a o) h' := fun b u e => by
  have hn := x.fresh hp
  by_cases hb : b = a
  · subst hb; rw [upd_same] at e; cases e; exact new
  · rw [upd_ne hb] at e
    exact (x b u e).stay (fun c v _ q => k c v q) (fun c q => by rw [upd_ne (ne_of_none q hn)]; exact q) (fun c xs q => by rw [upd_ne (ne_of_none q hn)]; exact q) fun c xs q => by rw [upd_ne (ne_of_none q hn)]; exact q
end

/-- what may be read as u: it is u, or a known u -/
def Rd (H : Hp) (a : Addr) (u : HO) : Prop := H a = some u ∨ ∃ o, H a = some (.frz o u)
theorem Rd.of {H : Hp} {a : Addr} {u : HO} (h : H a = some u) : Rd H a u := .inl h
theorem Rd.ok {P : Program} {w : World} {H : Hp} {h : Heap} {a : Addr} {u : HO} (r : Rd H a u) (x : HOk P w H h) : ObjOk P w H h a u := by
  rcases r with r | ⟨o, r⟩
  · exact x a u r
  · obtain ⟨_, q⟩ := x a _ r
    exact q
/-- what may be written -/
def Mut : Option HO → Prop
  | some (.lst _) => True
  | some (.dK _) => True
  | some (.dT _) => True
  | some (.set _ _) => True
  | some (.ins _ _ _) => True
  | some (.ext _) => True
  | _ => False
section
variable {P : Program} {w : World} {H : Hp} {h h' : Heap} {x e : Addr} {o' : HO}
/-- the object at e is changed: x itself, or the dict of the instance x -/
theorem HOk.write (ok : HOk P w H h) (mu : Mut (H x)) (he : e = x ∨ H e = some (.own x)) (k : ∀ b u, b ≠ e → h.get? b = some u → h'.get? b = some u) (heo : ∃ u, h'.get? e = some u)
    (new : ObjOk P w (upd H x o') h' x o') : HOk P w (upd H x o') h' := fun b u q => by
  have nown : ∀ c y, H c = some (.own y) → c ≠ x := fun c y r z => by subst z; rw [r] at mu; exact mu
  have ntup : ∀ c xs, H c = some (.tup xs) → c ≠ x := fun c xs r z => by subst z; rw [r] at mu; exact mu
  have ncod : ∀ c q, H c = some (.cod q) → c ≠ x := fun c q r z => by subst z; rw [r] at mu; exact mu
  by_cases hb : b = x
  · subst hb; rw [upd_same] at q; cases q; exact new
  · rw [upd_ne hb] at q
    by_cases hbe : b = e
    · have q' : H b = some (.own x) := by
        rcases he with z | z
        · exact absurd (hbe.trans z) hb
        · rw [hbe]; exact z
      rw [q] at q'; cases q'
      obtain ⟨v, hv⟩ := heo
      exact ⟨v, by rw [hbe]; exact hv⟩
    · refine (ok b u q).stay (fun c v hc r => k c v ?_ r) (fun c r => by rw [upd_ne (nown c b r)]; exact r) (fun c xs r => by rw [upd_ne (ntup c xs r)]; exact r) fun c xs r => by rw [upd_ne (ncod c xs r)]; exact r
      rcases hc with rfl | hc
      · exact hbe
      · rintro rfl
        rcases he with z | z
        · exact nown c b hc z
        · rw [hc] at z; cases z; exact hb rfl
end

structure Un (fs ex : List Addr) (H H' : Hp) (h h' : Heap) : Prop where
  keep : ∀ b o, h.get? b = some o → H b = none → b ∉ fs → b ∉ ex → h'.get? b = some o
  slot : ∀ b o, h.get? b = some o → H b = none → b ∈ fs → b ∉ ex → ∃ sl, h'.get? b = some { o with slots := sl }
  free : ∀ b o, h.get? b = some o → H b = none → b ∉ ex → H' b = none
  there : ∀ b o, h.get? b = some o → b ∉ ex → ∃ o', h'.get? b = some o'
  tups : ∀ b xs, H b = some (.tup xs) → H' b = some (.tup xs)
  frzs : ∀ b o u, H b = some (.frz o u) → H' b = some (.frz o u)
  tbls : ∀ b ps, H b = some (.tbl ps) → ∃ more, H' b = some (.tbl (ps ++ more))
section
variable {fs fs' ex ex' : List Addr} {H H1 H2 : Hp} {h h1 h2 h' : Heap} {a x e : Addr} {o : HO}
theorem Un.any (u : Un fs ex H H1 h h1) {b : Addr} {ob : Obj} (q : h.get? b = some ob) (n : H b = none) (hx : b ∉ ex) : ∃ sl, h1.get? b = some { ob with slots := sl } := by
  by_cases hb : b ∈ fs
  · exact u.slot b ob q n hb hx
  · exact ⟨ob.slots, u.keep b ob q n hb hx⟩
theorem Un.trans (a : Un fs ex H H1 h h1) (b : Un fs ex H1 H2 h1 h2) : Un fs ex H H2 h h2 where
  keep := fun c ob q n hc hx => b.keep c ob (a.keep c ob q n hc hx) (a.free c ob q n hx) hc hx
  slot := fun c ob q n hc hx => by
    obtain ⟨sl, e1⟩ := a.slot c ob q n hc hx
    obtain ⟨sl', e2⟩ := b.slot c _ e1 (a.free c ob q n hx) hc hx
    exact ⟨sl', e2⟩
  free := fun c ob q n hx => by
    obtain ⟨o', e1⟩ := a.there c ob q hx
    exact b.free c o' e1 (a.free c ob q n hx) hx
  there := fun c ob q hx => by
    obtain ⟨o', e1⟩ := a.there c ob q hx
    exact b.there c o' e1 hx
  tups := fun c xs q => b.tups c xs (a.tups c xs q)
  frzs := fun c ob xs q => b.frzs c ob xs (a.frzs c ob xs q)
  tbls := fun c ps q => by
    obtain ⟨m1, e1⟩ := a.tbls c ps q
    obtain ⟨m2, e2⟩ := b.tbls c _ e1
    exact ⟨m1 ++ m2, by rw [e2, Array.append_assoc]⟩
theorem Un.kept (k : ∀ b u, h.get? b = some u → h'.get? b = some u) : Un fs ex H H h h' :=
  ⟨fun b ob q _ _ _ => k b ob q, fun b ob q _ _ _ => ⟨ob.slots, k b ob q⟩, fun _ _ _ n _ => n, fun b ob q _ => ⟨ob, k b ob q⟩, fun _ _ q => q, fun _ _ _ q => q, fun _ ps q => ⟨#[], by rw [q]; simp⟩⟩
theorem Un.refl : Un fs ex H H h h := Un.kept fun _ _ q => q
theorem Un.laid (k : ∀ b u, h.get? b = some u → h'.get? b = some u) (hp : h.objs.size ≤ a) (hn : H a = none) : Un fs ex H (upd H a o) h h' where
  keep := fun b u q _ _ _ => k b u q
  slot := fun b u q _ _ _ => ⟨u.slots, k b u q⟩
  free := fun b u q n _ => by rw [upd_ne (Nat.ne_of_lt (Nat.lt_of_lt_of_le (Heap.lt_size q) hp))]; exact n
  there := fun b u q _ => ⟨u, k b u q⟩
  tups := fun b xs q => by rw [upd_ne (ne_of_none q hn)]; exact q
  frzs := fun b u xs q => by rw [upd_ne (ne_of_none q hn)]; exact q
  tbls := fun b ps q => ⟨#[], by rw [upd_ne (ne_of_none q hn), q]; simp⟩
theorem Un.write (mu : Mut (H x)) (he : e = x ∨ H e = some (.own x)) (k : ∀ b u, b ≠ e → h.get? b = some u → h'.get? b = some u) (heo : ∃ u, h'.get? e = some u) : Un fs ex H (upd H x o) h h' := by
  have hx : ∀ b, H b = none → b ≠ x := fun b n z => by subst z; rw [n] at mu; exact mu
  have hb : ∀ b, H b = none → b ≠ e := fun b n z => by
    subst z
    rcases he with r | r
    · exact hx b n r
    · rw [n] at r; cases r
  have hm : ∀ b u, H b = some u → ¬ Mut (some u) → b ≠ x := fun b u q nm z => by subst z; rw [q] at mu; exact nm mu
  refine ⟨fun b u q n _ _ => k b u (hb b n) q, fun b u q n _ _ => ⟨u.slots, k b u (hb b n) q⟩, fun b u q n _ => by rw [upd_ne (hx b n)]; exact n, fun b u q _ => ?_,
    fun b xs q => by rw [upd_ne (hm b _ q fun z => z)]; exact q, fun b u xs q => by rw [upd_ne (hm b _ q fun z => z)]; exact q, fun b ps q => ⟨#[], by rw [upd_ne (hm b _ q fun z => z), q]; simp⟩⟩
  by_cases hbe : b = e
  · subst hbe; exact heo
  · exact ⟨u, k b u hbe q⟩
theorem Un.mono (u : Un fs ex H H1 h h1) (hs : ∀ b ∈ fs, b ∈ fs') (hx : ∀ b ∈ ex, b ∈ ex') : Un fs' ex' H H1 h h1 :=
  ⟨fun b ob q n hb he => u.keep b ob q n (fun z => hb (hs b z)) fun z => he (hx b z), fun _ _ q n _ he => u.any q n fun z => he (hx _ z), fun b ob q n he => u.free b ob q n fun z => he (hx b z), fun b ob q he => u.there b ob q fun z => he (hx b z), u.tups, u.frzs, u.tbls⟩
end

def trk (h : Heap) (H : Hp) : List Addr := (List.range h.objs.size).filter fun a => (H a).isSome
def hidT (h : Heap) (H : Hp) : Heap := PySem.W.hideAll h (trk h H)
theorem hidT_size (h : Heap) (H : Hp) : (hidT h H).objs.size = h.objs.size := PySem.W.hideAll_size _ _
theorem hidT_get {h : Heap} {H : Hp} {b : Addr} {o : Obj} (e : h.get? b = some o) (n : H b = none) : (hidT h H).get? b = some o :=
  PySem.W.hideAll_get _ e fun hm => by
    have q : (H b).isSome = true := (List.mem_filter.mp hm).2
    rw [n] at q; simp at q
theorem of_hidT {h : Heap} {H : Hp} {b : Addr} {o : Obj} (e : (hidT h H).get? b = some o) : h.get? b = some o ∧ H b = none := by
  have e' : h.get? b = some o := PySem.W.of_hideAll (trk h H) e
  refine ⟨e', ?_⟩
  cases q : H b with
  | none => rfl
  | some x =>
    have hm : b ∈ trk h H := List.mem_filter.mpr ⟨List.mem_range.mpr (Heap.lt_size e'), by simp [q]⟩
    have z : (hidT h H).get? b = none := PySem.W.hideAll_none (trk h H) hm
    rw [z] at e; cases e

def allNews (g h : Heap) (L : Addr) : List (Addr × Obj) := (List.range h.objs.size).filterMap fun a => if a = L ∨ (g.get? a).isSome = true then none else (h.get? a).map fun o => (a, o)
def rest (g h : Heap) (L d : Addr) : List (Addr × Obj) := (allNews g h L).filter fun p => decide (p.1 ≠ d)
end L2

namespace L2
open PySem PySem.Spec PyProof.Rows

/-- the module's facts, over the base: the heap at the law's entry without what is tracked there -/
structure Mod (K : PySem.W.Frag) (mg : Str → Option Value) (base : Heap) : Prop where
  kin : K.In base
  glob : base.Ns mainGlobals mg
  blt : ∃ mb, base.Ns builtinsNs mb ∧ ∀ x : Str, x ≠ "__name__" → mb x = bootBuiltins x
  nolimit : base.NoLimit

/-- the context: a def's body (or a comprehension's block) running. base: fixed through the whole law; s₀, H₀: the entry; outer: the frames whose slots others may change (a def's callers); stack: all frames that run;
   ex: iterators that were made ahead of the entry and are walked here (a comprehension's); fn: the names whose cells were made at the entry (a def: all; a comprehension's block: its own); calm: not within an except suite; pn: pins that every state bears; xe: what is wanted of an exception that leaves the code -/
structure Cx where
  prog : Program
  w : World
  K : PySem.W.Frag
  mg : Str → Option Value
  base : Heap
  A : Around
  N : List Str
  s₀ : Shared
  H₀ : Hp
  env : Env
  outer : List Env
  stack : List Env
  ex : List Addr
  fn : Str → Bool
  calm : Bool
  pn : List (Addr × Obj)
  xe : Value → Shared → Prop
/-- the callers' frames -/
def frs (l : List Env) : List Addr := l.filterMap (·.frame)
abbrev Cx.fs (X : Cx) : List Addr := frs X.outer

def Vis (sc : Scope) (x : Str) : Prop := sc.names.lookup x = some .local ∨ sc.names.lookup x = some .cell ∨ sc.names.lookup x = some .free
def Loc (sc : Scope) (x : Str) : Prop := sc.names.lookup x = some .local ∨ sc.names.lookup x = some .cell
def Look (env : Env) (h : Heap) (m : Str → Option Value) (x : Str) (u : Value) : Prop :=
  (env.kindOf x = some .local ∧ m x = some u) ∨ ((env.kindOf x = some .cell ∨ env.kindOf x = some .free) ∧ ∃ c, env.cells.lookup x = some c ∧ h.IsCell c (some u))

structure Cx.Ok (X : Cx) : Prop where
  mod : Mod X.K X.mg X.base
  kind : X.env.scope.kind = .function
  glob : X.env.globals = mainGlobals
  blt : X.env.builtins = builtinsNs
  above : X.s₀.heap.objs.size ≤ X.env.locals
  inj : ∀ x y c, X.env.cells.lookup x = some c → X.env.cells.lookup y = some c → x = y
  has : ∀ x, (X.env.kindOf x = some .cell ∨ X.env.kindOf x = some .free) → ∃ c, X.env.cells.lookup x = some c
  cab : ∀ x c, X.fn x = true → X.env.cells.lookup x = some c → X.s₀.heap.objs.size ≤ c
  hd : X.calm = true → X.A.handled = none
  frames : X.A.frames = some X.stack
  stk : X.stack = X.outer ∨ (X.stack = X.env :: X.outer ∧ X.env.frame = some X.env.locals)
  exf : ∀ b ∈ X.ex, b ≠ X.env.locals ∧ ∀ x c, X.env.cells.lookup x = some c → c ≠ b
  bs : ∀ b o, X.base.get? b = some o → X.s₀.heap.get? b = some o ∧ X.H₀ b = none
  bsz : X.base.objs.size ≤ X.s₀.heap.objs.size
  noex : ∀ b o, X.base.get? b = some o → b ∉ X.ex
  exfs : ∀ b ∈ X.ex, b ∉ X.fs
  funs : X.s₀.heap.FunFrames X.base X.outer
  frf : ∀ b ∈ X.fs, X.H₀ b = none

structure Inv (X : Cx) (pins : List (Addr × Obj)) (σ : List (Option V)) (H : Hp) (s : Shared) : Prop where
  ok : X.Ok
  os : s.os = X.s₀.os
  bare : AllBare s.gens
  base : Un X.fs X.ex X.H₀ H X.s₀.heap s.heap
  loc : ∃ m, s.heap.Ns X.env.locals m ∧ ∀ (i : Nat) (x : Str) (v : V), X.N[i]? = some x → σ[i]? = some (some v) → Vis X.env.scope x → ∃ u, RelV v u ∧ Look X.env s.heap m x u
  cell : ∀ x c, X.env.cells.lookup x = some c → ∃ v, s.heap.IsCell c v
  free : H X.env.locals = none
  freeC : ∀ x c, X.env.cells.lookup x = some c → H c = none
  pin : ∀ p ∈ X.pn ++ pins, s.heap.get? p.1 = some p.2 ∧ H p.1 = none ∧ p.1 ≠ X.env.locals ∧ p.1 ∉ X.fs ∧ ∀ v, p.2.data ≠ .cell v
  hok : HOk X.prog X.w H s.heap
  len : σ.length = X.N.length

section
variable {X : Cx} {pins : List (Addr × Obj)} {σ : List (Option V)} {H H' : Hp} {s : Shared} {h' : Heap}

theorem Cx.Ok.nofr (ok : X.Ok) {b : Addr} {o : Obj} (e : X.base.get? b = some o) : b ∉ X.fs := fun hb => by
  have := (ok.funs.mem hb).1
  rw [e] at this; cases this
theorem Inv.bs (I : Inv X pins σ H s) : ∀ b o, X.base.get? b = some o → s.heap.get? b = some o ∧ H b = none := fun b o e =>
  ⟨I.base.keep b o (I.ok.bs b o e).1 (I.ok.bs b o e).2 (I.ok.nofr e) (I.ok.noex b o e), I.base.free b o (I.ok.bs b o e).1 (I.ok.bs b o e).2 (I.ok.noex b o e)⟩
theorem Inv.bk (I : Inv X pins σ H s) : ∀ b o, X.base.get? b = some o → s.heap.get? b = some o := fun b o e => (I.bs b o e).1
theorem Inv.mod (I : Inv X pins σ H s) : Mod X.K X.mg X.base := I.ok.mod
theorem Inv.kIn (I : Inv X pins σ H s) : X.K.In s.heap := I.ok.mod.kin.keeps I.bk
theorem Inv.nolimit (I : Inv X pins σ H s) : s.heap.NoLimit := I.ok.mod.nolimit.keeps I.bk
/-- the frame over the base: for OpenK's rules (K.In X.base is I.mod.kin) -/
theorem Inv.fr (I : Inv X pins σ H s) : ∃ m, Fr X.base X.env.locals s.heap m :=
  let ⟨m, hn, _⟩ := I.loc
  ⟨m, hn, I.bk, Nat.le_trans I.ok.bsz I.ok.above⟩
theorem Inv.lt (I : Inv X pins σ H s) : X.env.locals < s.heap.objs.size := let ⟨_, hn, _⟩ := I.loc; hn.lt
theorem Inv.sz (I : Inv X pins σ H s) : X.s₀.heap.objs.size ≤ s.heap.objs.size := Nat.le_trans I.ok.above (Nat.le_of_lt I.lt)
theorem Inv.nofs (I : Inv X pins σ H s) {a : Addr} (h : s.heap.objs.size ≤ a) : a ∉ X.fs := fun hb => by
  obtain ⟨_, o, ho, _⟩ := I.ok.funs.mem hb
  exact absurd (Nat.lt_of_lt_of_le (Heap.lt_size ho) (Nat.le_trans I.sz h)) (Nat.lt_irrefl _)
theorem Inv.cne (I : Inv X pins σ H s) : ∀ x c, X.env.cells.lookup x = some c → c ≠ X.env.locals := fun x c e z => by
  obtain ⟨v, o, ho, hd⟩ := I.cell x c e
  obtain ⟨m, ⟨o', es, ep, ho', hd', _⟩, _⟩ := I.loc
  rw [z, ho'] at ho; cases ho; rw [hd'] at hd; cases hd
theorem Inv.funs (I : Inv X pins σ H s) : s.heap.FunFrames X.base X.outer := by
  have all : ∀ (l : List Env), (∀ b ∈ frs l, b ∈ X.fs) → X.s₀.heap.FunFrames X.base l → s.heap.FunFrames X.base l := by
    intro l
    induction l with
    | nil => intro _ _; trivial
    | cons env r ih =>
      intro hs hl
      obtain ⟨hk, ⟨L, o, hf, hn, ho, hd⟩, hr⟩ := hl
      have hL : L ∈ X.fs := hs L (by unfold frs; rw [List.filterMap_cons, hf]; exact List.mem_cons_self)
      obtain ⟨sl, e⟩ := I.base.slot L o ho (I.ok.frf L hL) hL fun z => I.ok.exfs L z hL
      exact ⟨hk, ⟨L, _, hf, hn, e, hd⟩, ih (fun b hb => hs b (by unfold frs; rw [List.filterMap_cons, hf]; exact List.mem_cons_of_mem _ hb)) hr⟩
  exact all X.outer (fun _ hb => hb) I.ok.funs

/-- the frames that run, for a call -/
theorem Inv.stack (I : Inv X pins σ H s) : s.heap.FunFrames X.base X.stack := by
  rcases I.ok.stk with e | ⟨e, hf⟩
  · rw [e]; exact I.funs
  · rw [e]
    obtain ⟨m, hn, _⟩ := I.loc
    refine .cons (by rw [I.ok.kind]; decide) hf hn ?_ I.funs
    exact Heap.get?_none_of_le (Nat.le_trans I.ok.bsz I.ok.above)
theorem Inv.stkSub (I : Inv X pins σ H s) : ∀ b ∈ frs X.stack, b ∈ X.env.locals :: X.fs := fun b hb => by
  rcases I.ok.stk with e | ⟨e, hf⟩
  · rw [e] at hb; exact List.mem_cons_of_mem _ hb
  · rw [e] at hb
    unfold frs at hb
    rw [List.filterMap_cons, hf] at hb
    exact hb
theorem Inv.stkFree (I : Inv X pins σ H s) : ∀ b ∈ frs X.stack, H b = none := fun b hb => by
  rcases List.mem_cons.mp (I.stkSub b hb) with e | hb
  · rw [e]; exact I.free
  · obtain ⟨_, o, ho, _⟩ := I.ok.funs.mem hb
    exact I.base.free b o ho (I.ok.frf b hb) fun z => I.ok.exfs b z hb

/-- THE STEP: the untracked objects but the frame and the records at ch are kept (the callers' frames up to slots), the frame's map is kept, the new abstract heap is held -/
theorem Inv.step {g' : Array GenState} {t' : Nat} {d' : Drawn} {ch : List Addr} (I : Inv X pins σ H s)
    (hch : ∀ b ∈ ch, (b ∈ X.ex ∨ X.s₀.heap.objs.size ≤ b) ∧ b ≠ X.env.locals ∧ (∀ x c, X.env.cells.lookup x = some c → c ≠ b) ∧ ∀ p ∈ X.pn ++ pins, p.1 ≠ b)
    (keep : ∀ b o, b ≠ X.env.locals → b ∉ X.fs → b ∉ ch → s.heap.get? b = some o → H b = none → h'.get? b = some o)
    (slot : ∀ b o, b ≠ X.env.locals → b ∈ X.fs → b ∉ ch → s.heap.get? b = some o → H b = none → ∃ sl, h'.get? b = some { o with slots := sl }) (free : ∀ b o, b ∉ ch → s.heap.get? b = some o → H b = none → H' b = none)
    (there : ∀ b o, b ∉ ch → s.heap.get? b = some o → ∃ o', h'.get? b = some o')
    (tups : ∀ b xs, H b = some (.tup xs) → H' b = some (.tup xs)) (frzs : ∀ b o u, H b = some (.frz o u) → H' b = some (.frz o u)) (tbls : ∀ b ps, H b = some (.tbl ps) → ∃ more, H' b = some (.tbl (ps ++ more)))
    (ns : ∀ m, s.heap.Ns X.env.locals m → h'.Ns X.env.locals m) (hok : HOk X.prog X.w H' h') (hg : AllBare g') :
    Inv X pins σ H' { s with heap := h', gens := g', drawn := d', toks := t' } := by
  have neL : ∀ b o, X.s₀.heap.get? b = some o → b ≠ X.env.locals := fun b o e => Nat.ne_of_lt (Nat.lt_of_lt_of_le (Heap.lt_size e) I.ok.above)
  have neC : ∀ b o, X.s₀.heap.get? b = some o → b ∉ X.ex → b ∉ ch := fun b o e hx hb => by
    rcases (hch b hb).1 with z | z
    · exact hx z
    · exact absurd (Nat.lt_of_lt_of_le (Heap.lt_size e) z) (Nat.lt_irrefl _)
  have cellK : ∀ x c, X.env.cells.lookup x = some c → ∀ v, s.heap.IsCell c v → h'.IsCell c v := fun x c e v ⟨o, ho, hd⟩ => by
    have nch : c ∉ ch := fun z => (hch c z).2.2.1 x c e rfl
    by_cases hc : c ∈ X.fs
    · obtain ⟨sl, q⟩ := slot c o (I.cne x c e) hc nch ho (I.freeC x c e)
      exact ⟨_, q, hd⟩
    · exact ⟨o, keep c o (I.cne x c e) hc nch ho (I.freeC x c e), hd⟩
  refine ⟨I.ok, I.os, hg, ⟨fun b o e n hb hx => ?_, fun b o e n hb hx => ?_, fun b o e n hx => ?_, fun b o e hx => ?_, fun b xs e => tups b xs (I.base.tups b xs e), fun b o xs e => frzs b o xs (I.base.frzs b o xs e), fun b ps e => ?_⟩, ?_, fun x c e => ?_, ?_, fun x c e => ?_, fun p hp => ?_, hok, I.len⟩
  · exact keep b o (neL b o e) hb (neC b o e hx) (I.base.keep b o e n hb hx) (I.base.free b o e n hx)
  · obtain ⟨sl, e1⟩ := I.base.slot b o e n hb hx
    obtain ⟨sl', e2⟩ := slot b _ (neL b o e) hb (neC b o e hx) e1 (I.base.free b o e n hx)
    exact ⟨sl', e2⟩
  · obtain ⟨o', e1⟩ := I.base.there b o e hx
    exact free b o' (neC b o e hx) e1 (I.base.free b o e n hx)
  · obtain ⟨o', e1⟩ := I.base.there b o e hx
    exact there b o' (neC b o e hx) e1
  · obtain ⟨m1, e1⟩ := I.base.tbls b ps e
    obtain ⟨m2, e2⟩ := tbls b _ e1
    exact ⟨m1 ++ m2, by rw [e2, Array.append_assoc]⟩
  · obtain ⟨m, hn, hl⟩ := I.loc
    refine ⟨m, ns m hn, fun i x v e1 e2 e3 => ?_⟩
    obtain ⟨u, r, l⟩ := hl i x v e1 e2 e3
    refine ⟨u, r, ?_⟩
    rcases l with l | ⟨k, c, e, z⟩
    · exact .inl l
    · exact .inr ⟨k, c, e, cellK x c e _ z⟩
  · obtain ⟨v, z⟩ := I.cell x c e
    exact ⟨v, cellK x c e v z⟩
  · obtain ⟨m, ⟨o, _, _, ho, _⟩, _⟩ := I.loc
    exact free _ o (fun z => (hch _ z).2.1 rfl) ho I.free
  · obtain ⟨v, o, ho, hd⟩ := I.cell x c e
    exact free c o (fun z => (hch c z).2.2.1 x c e rfl) ho (I.freeC x c e)
  · obtain ⟨e, n, ne, nf, d⟩ := I.pin p hp
    have nch : p.1 ∉ ch := fun z => (hch p.1 z).2.2.2 p hp rfl
    exact ⟨keep p.1 p.2 ne nf nch e n, free p.1 p.2 nch e n, ne, nf, d⟩
/-- .. where the frame's own object is kept too -/
theorem Inv.un {t' : Nat} (I : Inv X pins σ H s) (u : Un X.fs [] H H' s.heap h') (hok : HOk X.prog X.w H' h') : Inv X pins σ H' { s with heap := h', toks := t' } := by
  obtain ⟨m, ⟨o, es, ep, ho, r⟩, _⟩ := id I.loc
  obtain ⟨sl, hL⟩ := u.any ho I.free (by simp)
  exact I.step (g' := s.gens) (d' := s.drawn) (ch := []) (fun _ z => nomatch z) (fun b o _ hb _ e n => u.keep b o e n hb (by simp)) (fun b o _ hb _ e n => u.slot b o e n hb (by simp)) (fun b o _ e n => u.free b o e n (by simp)) (fun b o _ e => u.there b o e (by simp)) u.tups u.frzs u.tbls (fun m' hm => by
    obtain ⟨o', es', ep', ho', r'⟩ := hm
    rw [ho] at ho'; cases ho'
    exact ⟨_, es', ep', hL, r'⟩) hok I.bare
/-- behind a call (or a comprehension's block): the slots of this frame may have changed too, the records at ch may have turned -/
theorem Inv.call {g' : Array GenState} {t' : Nat} {d' : Drawn} {ch : List Addr} (I : Inv X pins σ H s) (u : Un (frs X.stack) ch H H' s.heap h') (hok : HOk X.prog X.w H' h') (hg : AllBare g')
    (hch : ∀ b ∈ ch, (b ∈ X.ex ∨ X.s₀.heap.objs.size ≤ b) ∧ b ≠ X.env.locals ∧ (∀ x c, X.env.cells.lookup x = some c → c ≠ b) ∧ ∀ p ∈ X.pn ++ pins, p.1 ≠ b) :
    Inv X pins σ H' { s with heap := h', gens := g', drawn := d', toks := t' } := by
  obtain ⟨m, ⟨o, es, ep, ho, r⟩, _⟩ := id I.loc
  obtain ⟨sl, hL⟩ := u.any ho I.free fun z => (hch _ z).2.1 rfl
  exact I.step (ch := ch) hch (fun b o hL hb hc e n => u.keep b o e n (fun z => (List.mem_cons.mp (I.stkSub b z)).elim hL hb) hc) (fun b o _ _ hc e n => u.any e n hc) (fun b o hc e n => u.free b o e n hc) (fun b o hc e => u.there b o e hc) u.tups u.frzs u.tbls (fun m' hm => by
    obtain ⟨o', es', ep', ho', r'⟩ := hm
    rw [ho] at ho'; cases ho'
    exact ⟨_, es', ep', hL, r'⟩) hok hg
/-- an untracked record of ours (an iterator) has turned -/
theorem Inv.turned {t' : Nat} {it : Addr} (I : Inv X pins σ H s) (k : ∀ b o, b ≠ it → s.heap.get? b = some o → h'.get? b = some o) (hn : H it = none) (hL : it ≠ X.env.locals)
    (h1 : it ∈ X.ex ∨ X.s₀.heap.objs.size ≤ it) (h2 : ∀ x c, X.env.cells.lookup x = some c → c ≠ it) (h3 : ∀ p ∈ X.pn ++ pins, p.1 ≠ it) : Inv X pins σ H { s with heap := h', toks := t' } := by
  have nit : ∀ b u, H b = some u → b ≠ it := fun b u e z => by rw [z, hn] at e; cases e
  refine I.step (g' := s.gens) (d' := s.drawn) (ch := [it]) (fun b hb => ?_) (fun b o _ _ hc e _ => k b o (fun z => hc (by simp [z])) e) (fun b o _ _ hc e _ => ⟨o.slots, k b o (fun z => hc (by simp [z])) e⟩) (fun _ _ _ _ n => n)
    (fun b o hc e => ⟨o, k b o (fun z => hc (by simp [z])) e⟩) (fun _ _ e => e) (fun _ _ _ e => e) (fun b ps e => ⟨#[], by rw [e]; simp⟩) (fun m hm => ?_) (fun b u e => ?_) I.bare
  · have e : b = it := by simpa using hb
    subst e
    exact ⟨h1, hL, h2, h3⟩
  · obtain ⟨o, es, ep, ho, r⟩ := hm
    exact ⟨o, es, ep, k _ o (Ne.symm hL) ho, r⟩
  · refine (I.hok b u e).stay (fun c v hc q => k c v ?_ q) (fun _ q => q) (fun _ _ q => q) fun _ _ q => q
    rcases hc with z | z
    · rw [z]; exact nit b u e
    · exact nit c _ z
theorem Inv.tok (I : Inv X pins σ H s) (t : Nat) : Inv X pins σ H { s with toks := t } := I.un (h' := s.heap) (t' := t) Un.refl I.hok
/-- all objects kept -/
theorem Inv.kept {t' : Nat} (I : Inv X pins σ H s) (k : ∀ b u, s.heap.get? b = some u → h'.get? b = some u) : Inv X pins σ H { s with heap := h', toks := t' } := I.un (Un.kept k) (I.hok.kept k)
/-- a new object laid and tracked -/
theorem Inv.laid {a : Addr} {o : HO} {t' : Nat} (I : Inv X pins σ H s) (k : ∀ b u, s.heap.get? b = some u → h'.get? b = some u) (hp : s.heap.objs.size ≤ a) (new : ObjOk X.prog X.w (upd H a o) h' a o) :
    Inv X pins σ (upd H a o) { s with heap := h', toks := t' } := I.un (Un.laid k hp (I.hok.fresh hp)) (I.hok.laid k hp new)
/-- an object written -/
theorem Inv.write {x e : Addr} {o : HO} {t' : Nat} (I : Inv X pins σ H s) (mu : Mut (H x)) (he : e = x ∨ H e = some (.own x)) (k : ∀ b u, b ≠ e → s.heap.get? b = some u → h'.get? b = some u) (heo : ∃ u, h'.get? e = some u)
    (new : ObjOk X.prog X.w (upd H x o) h' x o) : Inv X pins σ (upd H x o) { s with heap := h', toks := t' } := I.un (Un.write mu he k heo) (I.hok.write mu he k heo new)
/-- forgetting slots, pins -/
theorem Inv.pins_of {pins' : List (Addr × Obj)} (I : Inv X pins σ H s) (h : ∀ p ∈ pins', s.heap.get? p.1 = some p.2 ∧ H p.1 = none ∧ p.1 ≠ X.env.locals ∧ p.1 ∉ X.fs ∧ ∀ v, p.2.data ≠ .cell v) : Inv X pins' σ H s :=
  ⟨I.ok, I.os, I.bare, I.base, I.loc, I.cell, I.free, I.freeC, fun p hp => (List.mem_append.mp hp).elim (fun z => I.pin p (List.mem_append_left _ z)) (h p), I.hok, I.len⟩

theorem nodup_ix {N : List Str} (hN : N.Nodup) {i j : Nat} {x : Str} (a : N[i]? = some x) (b : N[j]? = some x) : i = j := by
  obtain ⟨h1, e1⟩ := List.getElem?_eq_some_iff.mp a
  obtain ⟨h2, e2⟩ := List.getElem?_eq_some_iff.mp b
  exact (List.getElem_inj hN).mp (e1.trans e2.symm)

/-- a name is stored; what changed -/
theorem store_ok2 {M : Model} {A : Around} {E : Value → Shared → Prop} {i : Nat} {x : Str} {v : V} {u : Value} {Q : Unit → Shared → Prop} (I : Inv X pins σ H s) (hN : X.N.Nodup) (hi : X.N[i]? = some x) (hx : Loc X.env.scope x) (r : RelV v u)
    (h : ∀ s', Inv X pins (σ.set i (some v)) H s' → (∃ a, Heap.SameBut a s.heap s'.heap ∧ (a = X.env.locals ∨ X.env.cells.lookup x = some a)) → Q () s') (hf : X.fn x = true ∨ X.env.scope.names.lookup x = some .local := by first | exact .inl rfl | exact .inr rfl | assumption) : wpAny M A (storeName X.env x u) Q E s := by
  obtain ⟨m, hn, hl⟩ := id I.loc
  have hcls : (X.env.scope.kind == .class || (X.env.scope.kind == .module && X.env.locals != X.env.globals)) = false := by rw [I.ok.kind]; rfl
  have hiσ : i < σ.length := by rw [I.len]; exact (List.getElem?_eq_some_iff.mp hi).1
  have cne := I.cne
  have tracked : ∀ {a : Addr} {h' : Heap}, (∃ o, s.heap.get? a = some o ∧ H a = none) → Heap.SameBut a s.heap h' → HOk X.prog X.w H h' := fun {a h'} ha hs b ob e => by
    obtain ⟨_, _, hfree⟩ := ha
    refine (I.hok b ob e).stay (fun c w' hc q => (hs.2 c ?_).trans q) (fun _ q => q) (fun _ _ q => q) fun _ _ q => q
    rintro rfl
    rcases hc with rfl | hc
    · rw [hfree] at e; cases e
    · rw [hfree] at hc; cases hc
  rcases hx with hk | hk
  · refine wpAny_storeName_local hk hn (fun h' hn' hs => ?_) hcls
    obtain ⟨oL, _, _, hoL, _⟩ := id hn
    refine h _ ⟨I.ok, I.os, I.bare, ⟨fun b o e n hb hx => ?_, fun b o e n hb hx => ?_, I.base.free, fun b o e hx => ?_, I.base.tups, I.base.frzs, I.base.tbls⟩, ⟨_, hn', fun j y v' e1 e2 e3 => ?_⟩, fun y c e => ?_, I.free, I.freeC, fun p hp => ?_, tracked ⟨oL, hoL, I.free⟩ hs, by simpa using I.len⟩ ⟨_, hs, .inl rfl⟩
    · exact (hs.2 b (Nat.ne_of_lt (Nat.lt_of_lt_of_le (Heap.lt_size e) I.ok.above))).trans (I.base.keep b o e n hb hx)
    · obtain ⟨sl, e1⟩ := I.base.slot b o e n hb hx
      exact ⟨sl, (hs.2 b (Nat.ne_of_lt (Nat.lt_of_lt_of_le (Heap.lt_size e) I.ok.above))).trans e1⟩
    · obtain ⟨o', e1⟩ := I.base.there b o e hx
      exact ⟨o', (hs.2 b (Nat.ne_of_lt (Nat.lt_of_lt_of_le (Heap.lt_size e) I.ok.above))).trans e1⟩
    · by_cases hj : j = i
      · subst hj
        rw [hi] at e1; cases e1
        rw [List.getElem?_set_self hiσ] at e2
        cases e2
        exact ⟨u, r, .inl ⟨hk, by simp⟩⟩
      · rw [List.getElem?_set_ne (Ne.symm hj)] at e2
        obtain ⟨u', r', q⟩ := hl j y v' e1 e2 e3
        refine ⟨u', r', ?_⟩
        rcases q with ⟨k, e⟩ | ⟨k, c, e, z⟩
        · refine .inl ⟨k, ?_⟩
          have : y ≠ x := fun e => hj (nodup_ix hN e1 (e ▸ hi))
          simp [this, e]
        · exact .inr ⟨k, c, e, z.sameBut hs (cne y c e)⟩
    · obtain ⟨w', z⟩ := I.cell y c e
      exact ⟨w', z.sameBut hs (cne y c e)⟩
    · obtain ⟨e, n, ne, nf, d⟩ := I.pin p hp
      exact ⟨(hs.2 p.1 ne).trans e, n, ne, nf, d⟩
  · have hfn : X.fn x = true := by
      rcases hf with z | z
      · exact z
      · rw [z] at hk; cases hk
    obtain ⟨c, hc⟩ := I.ok.has x (.inl hk)
    obtain ⟨w', z⟩ := I.cell x c hc
    refine wpAny_storeName_cell I.ok.kind hk hc z (fun h' hc' hs => ?_)
    obtain ⟨oc, hoc, hocd⟩ := id z
    refine h { s with heap := h' } ⟨I.ok, I.os, I.bare, ⟨fun b o e n hb hx => ?_, fun b o e n hb hx => ?_, I.base.free, fun b o e hx => ?_, I.base.tups, I.base.frzs, I.base.tbls⟩, ⟨m, hn.sameBut hs (Ne.symm (cne x c hc)), fun j y v' e1 e2 e3 => ?_⟩, fun y c' e => ?_, I.free, I.freeC, fun p hp => ?_, tracked ⟨oc, hoc, I.freeC x c hc⟩ hs, by simpa using I.len⟩ ⟨c, hs, .inr hc⟩
    · exact (hs.2 b (Nat.ne_of_lt (Nat.lt_of_lt_of_le (Heap.lt_size e) (I.ok.cab x c hfn hc)))).trans (I.base.keep b o e n hb hx)
    · obtain ⟨sl, e1⟩ := I.base.slot b o e n hb hx
      exact ⟨sl, (hs.2 b (Nat.ne_of_lt (Nat.lt_of_lt_of_le (Heap.lt_size e) (I.ok.cab x c hfn hc)))).trans e1⟩
    · obtain ⟨o', e1⟩ := I.base.there b o e hx
      exact ⟨o', (hs.2 b (Nat.ne_of_lt (Nat.lt_of_lt_of_le (Heap.lt_size e) (I.ok.cab x c hfn hc)))).trans e1⟩
    · by_cases hj : j = i
      · subst hj
        rw [hi] at e1; cases e1
        rw [List.getElem?_set_self hiσ] at e2
        cases e2
        exact ⟨u, r, .inr ⟨.inl hk, c, hc, hc'⟩⟩
      · rw [List.getElem?_set_ne (Ne.symm hj)] at e2
        obtain ⟨u', r', q⟩ := hl j y v' e1 e2 e3
        refine ⟨u', r', ?_⟩
        rcases q with q | ⟨k, c', e, z'⟩
        · exact .inl q
        · refine .inr ⟨k, c', e, z'.sameBut hs ?_⟩
          rintro rfl
          exact hj (nodup_ix hN e1 (I.ok.inj _ _ _ e hc ▸ hi))
    · by_cases hcc : c' = c
      · subst hcc; exact ⟨_, hc'⟩
      · obtain ⟨w2, z2⟩ := I.cell y c' e
        exact ⟨w2, z2.sameBut hs hcc⟩
    · obtain ⟨e, n, ne, nf, d⟩ := I.pin p hp
      refine ⟨(hs.2 p.1 ?_).trans e, n, ne, nf, d⟩
      intro q
      rw [q, hoc] at e
      have q' : oc = p.2 := Option.some.inj e
      exact d w' (by rw [← q']; exact hocd)
theorem store_ok {M : Model} {A : Around} {E : Value → Shared → Prop} {i : Nat} {x : Str} {v : V} {u : Value} {Q : Unit → Shared → Prop} (I : Inv X pins σ H s) (hN : X.N.Nodup) (hi : X.N[i]? = some x) (hx : Loc X.env.scope x) (r : RelV v u)
    (h : ∀ s', Inv X pins (σ.set i (some v)) H s' → Q () s') (hf : X.fn x = true ∨ X.env.scope.names.lookup x = some .local := by first | exact .inl rfl | exact .inr rfl | assumption) : wpAny M A (storeName X.env x u) Q E s :=
  store_ok2 I hN hi hx r (fun s' I' _ => h s' I') hf
/-- behind a call or a block, the state as it is -/
theorem Inv.call' {s' : Shared} {ch : List Addr} (I : Inv X pins σ H s) (ho : s'.os = s.os) (u : Un (frs X.stack) ch H H' s.heap s'.heap) (hok : HOk X.prog X.w H' s'.heap) (hg : AllBare s'.gens)
    (hch : ∀ b ∈ ch, (b ∈ X.ex ∨ X.s₀.heap.objs.size ≤ b) ∧ b ≠ X.env.locals ∧ (∀ x c, X.env.cells.lookup x = some c → c ≠ b) ∧ ∀ p ∈ X.pn ++ pins, p.1 ≠ b) : Inv X pins σ H' s' := by
  obtain ⟨h', g', d', t', o'⟩ := s'
  have e : o' = s.os := ho
  subst e
  exact I.call (g' := g') (t' := t') (d' := d') u hok hg hch
end

/-- an exception: its class, its own dict's address (where it has one), the abstract heap behind it -/
abbrev XK := Value → Option Addr → Hp → Prop
abbrev St := List (Option V)
abbrev VK := V → Hp → Prop
/-- an expression's reading; a test's; an argument list's -/
abbrev TE := St → Hp → VK → Prop
abbrev TT := St → Hp → (Bool → Hp → Prop) → Prop
abbrev TA := St → Hp → (List V → Hp → Prop) → Prop
/-- what is wanted behind a statement -/
structure Ends where
  nx : St → Hp → Prop
  rt : VK
  bk : St → Hp → Prop := fun _ _ => False
  ct : St → Hp → Prop := fun _ _ => False
abbrev TS := Ends → St → Hp → Prop

def EP (X : Cx) (pins : List (Addr × Obj)) (σ : St) (Q : VK) (u : Value) (s' : Shared) : Prop := ∃ v H', Inv X pins σ H' s' ∧ RelV v u ∧ Q v H'
def TP (X : Cx) (pins : List (Addr × Obj)) (σ : St) (Q : Bool → Hp → Prop) (b : Bool) (s' : Shared) : Prop := ∃ H', Inv X pins σ H' s' ∧ Q b H'
def AP (X : Cx) (pins : List (Addr × Obj)) (σ : St) (Q : List V → Hp → Prop) (us : List Value) (s' : Shared) : Prop := ∃ vs H', Inv X pins σ H' s' ∧ Vals vs us ∧ Q vs H'
def SP (X : Cx) (pins : List (Addr × Obj)) (D : Ends) (f : Flow) (s' : Shared) : Prop :=
  match f with
  | .next => ∃ σ' H', Inv X pins σ' H' s' ∧ D.nx σ' H'
  | .brk => ∃ σ' H', Inv X pins σ' H' s' ∧ D.bk σ' H'
  | .cont => ∃ σ' H', Inv X pins σ' H' s' ∧ D.ct σ' H'
  | .ret u => ∃ v σ' H', Inv X pins σ' H' s' ∧ RelV v u ∧ D.rt v H'

def PE (X : Cx) (e : Expr) (t : TE) : Prop :=
  ∀ (pins : List (Addr × Obj)) (s : Shared) (σ : St) (H : Hp) (Q : VK), Inv X pins σ H s → t σ H Q → wpAny (model X.prog X.w) X.A (eval e X.env) (EP X pins σ Q) X.xe s
def PT (X : Cx) (e : Expr) (t : TT) : Prop :=
  ∀ (pins : List (Addr × Obj)) (s : Shared) (σ : St) (H : Hp) (Q : Bool → Hp → Prop), Inv X pins σ H s → t σ H Q → wpAny (model X.prog X.w) X.A (isTrue e X.env (eval e X.env)) (TP X pins σ Q) X.xe s
/-- a test whatever its 'whole' is (and, or) -/
def PW (X : Cx) (e : Expr) (t : TT) : Prop :=
  ∀ (whole : Sem Value) (pins : List (Addr × Obj)) (s : Shared) (σ : St) (H : Hp) (Q : Bool → Hp → Prop), Inv X pins σ H s → t σ H Q → wpAny (model X.prog X.w) X.A (isTrue e X.env whole) (TP X pins σ Q) X.xe s
theorem PW.pt {X : Cx} {e : Expr} {t : TT} (h : PW X e t) : PT X e t := h _
/-- an argument list (no star), from the left -/
def PA (X : Cx) (es : List Expr) (t : TA) : Prop :=
  ∀ (pos : Pos) (pins : List (Addr × Obj)) (s : Shared) (σ : St) (H : Hp) (Q : List V → Hp → Prop), Inv X pins σ H s → t σ H Q → wpAny (model X.prog X.w) X.A (spliced (backTo pos (starEach es X.env))) (AP X pins σ Q) X.xe s
def PS (X : Cx) (st : Stmt) (t : TS) : Prop :=
  ∀ (pins : List (Addr × Obj)) (s : Shared) (σ : St) (H : Hp) (D : Ends), Inv X pins σ H s → t D σ H → wpAny (model X.prog X.w) X.A (exec st X.env) (SP X pins D) X.xe s
def PSs (X : Cx) (st : List Stmt) (t : TS) : Prop :=
  ∀ (pins : List (Addr × Obj)) (s : Shared) (σ : St) (H : Hp) (D : Ends), Inv X pins σ H s → t D σ H → wpAny (model X.prog X.w) X.A (execs st X.env) (SP X pins D) X.xe s
/-- weaken the end -/
theorem thn {α : Type} {t : Sem α} {Q Q' : α → Shared → Prop} {M : Model} {A : Around} {E : Value → Shared → Prop} {s : Shared} (h : wpAny M A t Q E s) (hQ : ∀ a s, Q a s → Q' a s) : wpAny M A t Q' E s := wpAny_mono h hQ fun _ _ x => x
end L2

namespace L2
open PySem PySem.Spec PyProof.Rows
section
variable {X : Cx}


def tVar (i : Nat) : TE := fun σ H Q => ∃ v, σ[i]? = some (some v) ∧ Q v H
def tC (v : V) : TE := fun _ H Q => Q v H
theorem pe_var {i : Nat} {x : Str} {pos : Pos} (hN : X.N[i]? = some x) (hv : Vis X.env.scope x) (hd : (x == ("__debug__" : Str)) = false := by decide) (hcd : (x == ("__classdict__" : Str)) = false := by decide) : PE X (.Name x pos) (tVar i) := by
  intro pins s σ H Q I h
  obtain ⟨v, e, h⟩ := h
  obtain ⟨m, hn, hl⟩ := I.loc
  obtain ⟨u, r, l⟩ := hl i x v hN e hv
  have fin : EP X pins σ Q u s := ⟨v, H, I, r, h⟩
  rcases l with ⟨hk, hm⟩ | ⟨hk, c, hc, hcell⟩
  · exact wpAny_Name (wpAny_loadName_local I.ok.kind hk hn hm fin) hd
  · rcases hk with hk | hk
    · exact wpAny_Name (wpAny_loadName_cell I.ok.kind hk hc hcell fin) hd
    · exact wpAny_Name (wpAny_loadName_free I.ok.kind hk hc hcell fin hcd) hd
theorem pe_int {i j pos} : PE X (.Constant (.int i) j pos) (tC (.int i)) := fun _ _ _ H _ I h => wpAny_Constant_int ⟨.int i, H, I.tok _, ⟨_, rfl⟩, h⟩
theorem pe_bl {b j pos} : PE X (.Constant (.bool b) j pos) (tC (.bl b)) := fun _ _ _ H _ I h => Constant_bool ⟨.bl b, H, I, rfl, h⟩
theorem pe_non {j pos} : PE X (.Constant .none j pos) (tC .non) := fun _ _ _ H _ I h => Constant_none ⟨.non, H, I, rfl, h⟩
theorem pe_str {x j pos} : PE X (.Constant (.str x) j pos) (tC (.str x)) := fun _ _ _ H _ I h => Calls.Constant_str ⟨.str x, H, I.tok _, ⟨_, rfl⟩, h⟩

/-- a global name of the def -/
def Gl (X : Cx) (x : Str) : Prop := X.env.kindOf x = some .globalImplicit
theorem ld_glob {E : Value → Shared → Prop} {pins : List (Addr × Obj)} {s : Shared} {σ : St} {H : Hp} {x : Str} {u : Value} {pos : Pos} {Q : Value → Shared → Prop} (I : Inv X pins σ H s) (hg : Gl X x) (hm : X.mg x = some u) (h : Q u s)
    (hd : (x == ("__debug__" : Str)) = false := by decide) : wpAny (model X.prog X.w) X.A (eval (.Name x pos) X.env) Q E s :=
  Calls.Name_function_global I.ok.kind hg (Calls.loadGlobal_global (by rw [I.ok.glob]; exact I.mod.glob.keeps I.bk) hm h) hd
theorem ld_blt {E : Value → Shared → Prop} {pins : List (Addr × Obj)} {s : Shared} {σ : St} {H : Hp} {x : Str} {u : Value} {pos : Pos} {Q : Value → Shared → Prop} (I : Inv X pins σ H s) (hg : Gl X x) (hm : X.mg x = none) (hv : bootBuiltins x = some u) (h : Q u s)
    (hn : x ≠ "__name__" := by decide) (hd : (x == ("__debug__" : Str)) = false := by decide) : wpAny (model X.prog X.w) X.A (eval (.Name x pos) X.env) Q E s := by
  obtain ⟨mb, h1, h2⟩ := I.mod.blt
  exact Calls.Name_function_global I.ok.kind hg (Calls.loadGlobal_builtin (by rw [I.ok.glob]; exact I.mod.glob.keeps I.bk) hm (by rw [I.ok.blt]; exact h1.keeps I.bk) ((h2 x hn).trans hv) h) hd
/-- a module's constant, a class, a function, as a value -/
theorem pe_glob {x : Str} {v : V} {u : Value} {pos : Pos} (hg : Gl X x) (hm : X.mg x = some u) (r : RelV v u) (hd : (x == ("__debug__" : Str)) = false := by decide) : PE X (.Name x pos) (tC v) :=
  fun _ _ _ H _ I h => ld_glob I hg hm ⟨v, H, I, r, h⟩ hd
theorem pe_bltn {x : Str} {v : V} {u : Value} {pos : Pos} (hg : Gl X x) (hm : X.mg x = none) (hv : bootBuiltins x = some u) (r : RelV v u) (hn : x ≠ "__name__" := by decide) (hd : (x == ("__debug__" : Str)) = false := by decide) : PE X (.Name x pos) (tC v) :=
  fun _ _ _ H _ I h => ld_blt I hg hm hv ⟨v, H, I, r, h⟩ hn hd

variable {a b : Expr} {ta tb : TE} {pos : Pos}

def PC (X : Cx) (op : CmpOp) (a b : Expr) (t : TE) : Prop :=
  ∀ (pins : List (Addr × Obj)) (s : Shared) (σ : St) (H : Hp) (Q : VK), Inv X pins σ H s → t σ H Q →
    wpAny (model X.prog X.w) X.A (eval a X.env) (fun v s₁ => wpAny (model X.prog X.w) X.A (eval b X.env) (fun u s₂ => wpAny (model X.prog X.w) X.A (compareOp op v u) (EP X pins σ Q) X.xe s₂) X.xe s₁) X.xe s
theorem nobehind (b : Expr) {op : CmpOp} (h : op ≠ .In) (h2 : op ≠ .NotIn) : behindInMarks op b = false := by
  have e1 : (op == CmpOp.In) = false := by cases op <;> first | rfl | exact absurd rfl h
  have e2 : (op == CmpOp.NotIn) = false := by cases op <;> first | rfl | exact absurd rfl h2
  cases b <;> simp [behindInMarks, e1, e2]
/-- is None -/
def tIsN (ta : TE) : TE := fun σ H Q => ta σ H fun x H1 => Q (.bl (decide (x = .non))) H1
def tNotN (ta : TE) : TE := fun σ H Q => ta σ H fun x H1 => Q (.bl (!decide (x = .non))) H1
theorem RelV.none_iff {x : V} {v : Value} (r : RelV x v) : (v == Value.none) = decide (x = .non) := by
  cases x with
  | non => cases r; rfl
  | bl _ => cases r; rfl
  | int _ => obtain ⟨t, rfl⟩ := r; rfl
  | str _ => obtain ⟨t, rfl⟩ := r; rfl
  | byt _ => obtain ⟨t, rfl⟩ := r; rfl
  | flt _ => obtain ⟨t, rfl⟩ := r; rfl
  | ref _ => cases r; rfl
  | ty _ => cases r; rfl
theorem pc_notN {j pos'} (ha : PE X a ta) : PC X .IsNot a (.Constant .none j pos') (tNotN ta) := by
  intro pins s σ H Q I h
  refine thn (ha pins s σ H _ I h) fun v s1 ⟨x, H1, I1, r1, q1⟩ => ?_
  exact Constant_none (isnot_none_gen ⟨.bl _, H1, I1, by rw [r1.none_iff]; rfl, q1⟩)
/-- a comparison as a value, as a test -/
def tB (t : TE) : TT := fun σ H Q => t σ H fun x H1 => ∃ c, x = .bl c ∧ Q c H1
theorem pt_cmp {op : CmpOp} {t : TE} (h : PC X op a b t) (h1 : behindInMarks op b = false := by first | exact nobehind _ (by decide) (by decide) | rfl) : PT X (.Compare a [op] [b] pos) (tB t) := by
  intro pins s σ H Q I hw
  refine wpAny_isTrue_Compare1 (thn (h pins s σ H _ I hw) fun v s1 h1 => thn h1 fun u s2 h2 => thn h2 fun c s3 ⟨x, H1, I1, r1, q1⟩ => ?_) h1
  obtain ⟨d, rfl, q⟩ := q1
  cases r1
  exact wpAny_truthy_bool ⟨H1, I1, q⟩
/-- an expression whose value is a bool, as a test -/
theorem pt_val {e : Expr} {t : TE} (h : PE X e t) (he : ∀ whole, isTrue e X.env whole = (do let v ← whole; standAt e.pos; holding [v] (truthy v)) := by intro _; rfl) : PT X e (tB t) := by
  intro pins s σ H Q I hw
  refine isTrue_plain (thn (h pins s σ H _ I hw) fun v s1 ⟨x, H1, I1, r1, q1⟩ => ?_) (he _)
  obtain ⟨d, rfl, q⟩ := q1
  cases r1
  exact wpAny_truthy_bool ⟨H1, I1, q⟩

variable {tA tB' : TT} {rest : List Expr}
def tAnd (t u : TT) : TT := fun σ H Q => t σ H fun c H1 => if c = true then u σ H1 Q else Q false H1
def tOr (t u : TT) : TT := fun σ H Q => t σ H fun c H1 => if c = true then Q true H1 else u σ H1 Q
def tNot (t : TT) : TT := fun σ H Q => t σ H fun c H1 => Q (!c) H1
theorem pw_and1 (ha : PT X a tA) : PW X (.BoolOp .And [a] pos) tA := by
  intro wh pins s σ H Q I h
  refine isTrue_and (thn (ha pins s σ H Q I h) fun c s1 e => ?_)
  cases c with
  | true => exact isTrue_and_nil e
  | false => exact e
theorem pw_or1 (ha : PT X a tA) : PW X (.BoolOp .Or [a] pos) tA := by
  intro wh pins s σ H Q I h
  refine isTrue_or (thn (ha pins s σ H Q I h) fun c s1 e => ?_)
  cases c with
  | false => exact isTrue_or_nil e
  | true => exact e
theorem pw_and (ha : PT X a tA) (hb : PW X (.BoolOp .And (b :: rest) pos) tB') : PW X (.BoolOp .And (a :: b :: rest) pos) (tAnd tA tB') := by
  intro wh pins s σ H Q I h
  refine isTrue_and (thn (ha pins s σ H _ I h) fun c s1 ⟨H1, I1, q1⟩ => ?_)
  cases c with
  | true => exact hb wh pins s1 σ H1 Q I1 q1
  | false => exact ⟨H1, I1, q1⟩
theorem pw_or (ha : PT X a tA) (hb : PW X (.BoolOp .Or (b :: rest) pos) tB') : PW X (.BoolOp .Or (a :: b :: rest) pos) (tOr tA tB') := by
  intro wh pins s σ H Q I h
  refine isTrue_or (thn (ha pins s σ H _ I h) fun c s1 ⟨H1, I1, q1⟩ => ?_)
  cases c with
  | true => exact ⟨H1, I1, q1⟩
  | false => exact hb wh pins s1 σ H1 Q I1 q1
theorem pt_not (ha : PT X a tA) : PT X (.UnaryOp .Not a pos) (tNot tA) := by
  intro pins s σ H Q I h
  exact isTrue_not (ha pins s σ H (fun c H1 => Q (!c) H1) I h)
/-- .. as values (bools) -/
def tAndV (ta tb : TE) : TE := fun σ H Q => ta σ H fun x H1 => ∃ c, x = .bl c ∧ if c = true then tb σ H1 Q else Q (.bl false) H1
def tOrV (ta tb : TE) : TE := fun σ H Q => ta σ H fun x H1 => ∃ c, x = .bl c ∧ if c = true then Q (.bl true) H1 else tb σ H1 Q
def tNotV (ta : TE) : TE := fun σ H Q => ta σ H fun x H1 => ∃ c, x = .bl c ∧ Q (.bl (!c)) H1
theorem pe_one {op} {t : TE} (h : PE X a t) : PE X (.BoolOp op [a] pos) t := fun pins s σ H Q I hw => BoolOp_one (h pins s σ H Q I hw)
theorem pe_and (ha : PE X a ta) (hb : PE X (.BoolOp .And (b :: rest) pos) tb) : PE X (.BoolOp .And (a :: b :: rest) pos) (tAndV ta tb) := by
  intro pins s σ H Q I h
  refine BoolOp_and (thn (ha pins s σ H _ I h) fun v s1 ⟨x, H1, I1, r1, q1⟩ => ?_)
  obtain ⟨c, rfl, q1⟩ := q1
  cases r1
  refine wpAny_truthy_bool ?_
  cases c with
  | true => exact hb pins s1 σ H1 Q I1 q1
  | false => exact ⟨.bl false, H1, I1, rfl, q1⟩
theorem pe_or (ha : PE X a ta) (hb : PE X (.BoolOp .Or (b :: rest) pos) tb) : PE X (.BoolOp .Or (a :: b :: rest) pos) (tOrV ta tb) := by
  intro pins s σ H Q I h
  refine BoolOp_or (thn (ha pins s σ H _ I h) fun v s1 ⟨x, H1, I1, r1, q1⟩ => ?_)
  obtain ⟨c, rfl, q1⟩ := q1
  cases r1
  refine wpAny_truthy_bool ?_
  cases c with
  | false => exact hb pins s1 σ H1 Q I1 q1
  | true => exact ⟨.bl true, H1, I1, rfl, q1⟩
theorem pe_not (ha : PE X a ta) : PE X (.UnaryOp .Not a pos) (tNotV ta) := by
  intro pins s σ H Q I h
  refine UnaryOp_ (thn (ha pins s σ H _ I h) fun v s1 ⟨x, H1, I1, r1, q1⟩ => ?_)
  obtain ⟨c, rfl, q1⟩ := q1
  cases r1
  exact not_of (wpAny_truthy_bool ⟨.bl (!c), H1, I1, rfl, q1⟩)
/-- a if t else b -/
def tIf (t : TT) (ta tb : TE) : TE := fun σ H Q => t σ H fun c H1 => if c = true then ta σ H1 Q else tb σ H1 Q
theorem pe_ifExp {c : Expr} (hc : PT X c tA) (ha : PE X a ta) (hb : PE X b tb) : PE X (.IfExp c a b pos) (tIf tA ta tb) := by
  intro pins s σ H Q I h
  refine wpAny_IfExp (thn (hc pins s σ H _ I h) fun d s1 ⟨H1, I1, q1⟩ => ?_)
  cases d with
  | true => exact ha pins s1 σ H1 Q I1 q1
  | false => exact hb pins s1 σ H1 Q I1 q1
end
end L2

namespace L2
open PySem PySem.Spec PyProof.Rows

def SqL (K : PySem.W.Frag) (H : Hp) (a : Addr) (xs : List V) : Prop :=
  Rd H a (.lst xs) ∨
    ∃ (o : Obj) (its : Array Value) (n : Nat), K.lookup a = some o ∧ o.cls = .type "list" ∧ o.dict = none ∧ o.data = .seq its n ∧ its.size ≤ sizeLine ∧ Vals xs its.toList
def SqT (K : PySem.W.Frag) (H : Hp) (a : Addr) (xs : List V) : Prop :=
  Rd H a (.tup xs) ∨
    ∃ (o : Obj) (its : Array Value) (n : Nat), K.lookup a = some o ∧ o.cls = .type "tuple" ∧ o.data = .seq its n ∧ its.size ≤ sizeLine ∧ Vals xs its.toList
def absV : Value → Option V
  | .none => some .non
  | .bool b => some (.bl b)
  | .int i _ => some (.int i)
  | .str x _ => some (.str x)
  | .bytes b _ => some (.byt b)
  | .float b _ => some (.flt b)
  | .ref a => some (.ref a)
  | .type n => some (.ty n)
  | _ => none
theorem RelV.abs {x : V} {u : Value} (r : RelV x u) : absV u = some x := by
  cases x with
  | non => cases r; rfl
  | bl _ => cases r; rfl
  | int _ => obtain ⟨t, rfl⟩ := r; rfl
  | str _ => obtain ⟨t, rfl⟩ := r; rfl
  | byt _ => obtain ⟨t, rfl⟩ := r; rfl
  | flt _ => obtain ⟨t, rfl⟩ := r; rfl
  | ref _ => cases r; rfl
  | ty _ => cases r; rfl
theorem RelV.inj {x y : V} {u : Value} (r : RelV x u) (q : RelV y u) : x = y := Option.some.inj (r.abs.symm.trans q.abs)
theorem Vals.inj : ∀ {xs ys : List V} {us : List Value}, Vals xs us → Vals ys us → xs = ys
  | _, _, _, .nil, .nil => rfl
  | _, _, _, .cons r t, .cons r' t' => by rw [r.inj r', Vals.inj t t']
section
variable {X : Cx} {pins : List (Addr × Obj)} {σ : St} {H : Hp} {s : Shared} {a : Addr} {xs ys : List V}
theorem SqL.of {K : PySem.W.Frag} (h : H a = some (.lst xs)) : SqL K H a xs := .inl (.inl h)
theorem SqT.of {K : PySem.W.Frag} (h : H a = some (.tup xs)) : SqT K H a xs := .inl (.inl h)
theorem Inv.list (I : Inv X pins σ H s) (h : SqL X.K H a xs) : ∃ its : List Value, Vals xs its ∧ PlainL s.heap a its.toArray ∧ xs.length ≤ sizeLine := by
  rcases h with h | ⟨o, its, n, hk, hc, hd, hs, hz, r⟩
  · obtain ⟨z, its, n, r, e⟩ := h.ok I.hok
    exact ⟨its, r, ⟨_, n, e, rfl, rfl, rfl⟩, z⟩
  · refine ⟨its.toList, r, ⟨o, n, I.kIn a o hk, hc, hd, by simpa using hs⟩, ?_⟩
    have e := r.length
    simp only [Array.length_toList] at e
    omega
theorem Inv.tuple (I : Inv X pins σ H s) (h : SqT X.K H a xs) : ∃ its : List Value, Vals xs its ∧ IsTup s.heap a its.toArray ∧ xs.length ≤ sizeLine := by
  rcases h with h | ⟨o, its, n, hk, hc, hs, hz, r⟩
  · obtain ⟨z, its, r, p⟩ := h.ok I.hok
    exact ⟨its, r, p, z⟩
  · refine ⟨its.toList, r, ⟨o, I.kIn a o hk, hc, n, by simpa using hs⟩, ?_⟩
    have e := r.length
    simp only [Array.length_toList] at e
    omega
theorem Inv.list_inj (I : Inv X pins σ H s) (h : SqL X.K H a xs) (h' : SqL X.K H a ys) : xs = ys := by
  obtain ⟨its, r, ⟨o, n, e, _, _, d⟩, _⟩ := I.list h
  obtain ⟨its', r', ⟨o', n', e', _, _, d'⟩, _⟩ := I.list h'
  rw [e] at e'; cases e'
  rw [d] at d'
  injection d' with d1 _
  have : its = its' := by simpa using congrArg Array.toList d1
  subst this
  exact r.inj r'
end

abbrev Cx.wish (X : Cx) (E : Value → Shared → Prop) : Cx := { X with xe := E }
/-- no exception leaves -/
abbrev Cx.nox (X : Cx) : Cx := X.wish fun _ _ => False
theorem Cx.Ok.wish {X : Cx} (ok : X.Ok) (E : Value → Shared → Prop) : (X.wish E).Ok :=
  ⟨ok.mod, ok.kind, ok.glob, ok.blt, ok.above, ok.inj, ok.has, ok.cab, ok.hd, ok.frames, ok.stk, ok.exf, ok.bs, ok.bsz, ok.noex, ok.exfs, ok.funs, ok.frf⟩
theorem Cx.Ok.unwish {X : Cx} {E : Value → Shared → Prop} (ok : (X.wish E).Ok) : X.Ok :=
  ⟨ok.mod, ok.kind, ok.glob, ok.blt, ok.above, ok.inj, ok.has, ok.cab, ok.hd, ok.frames, ok.stk, ok.exf, ok.bs, ok.bsz, ok.noex, ok.exfs, ok.funs, ok.frf⟩
section
variable {X : Cx} {pins : List (Addr × Obj)} {σ : St} {H : Hp} {s : Shared} {E : Value → Shared → Prop}
theorem Inv.wish (I : Inv X pins σ H s) (E : Value → Shared → Prop) : Inv (X.wish E) pins σ H s := ⟨I.ok.wish E, I.os, I.bare, I.base, I.loc, I.cell, I.free, I.freeC, I.pin, I.hok, I.len⟩
theorem Inv.unwish (I : Inv (X.wish E) pins σ H s) : Inv X pins σ H s := ⟨I.ok.unwish, I.os, I.bare, I.base, I.loc, I.cell, I.free, I.freeC, I.pin, I.hok, I.len⟩
theorem SP.unwish {D : Ends} {f : Flow} {s' : Shared} (h : SP (X.wish E) pins D f s') : SP X pins D f s' := by
  cases f with
  | next => obtain ⟨σ', H', I, q⟩ := h; exact ⟨σ', H', I.unwish, q⟩
  | brk => obtain ⟨σ', H', I, q⟩ := h; exact ⟨σ', H', I.unwish, q⟩
  | cont => obtain ⟨σ', H', I, q⟩ := h; exact ⟨σ', H', I.unwish, q⟩
  | ret u => obtain ⟨v, σ', H', I, r, q⟩ := h; exact ⟨v, σ', H', I.unwish, r, q⟩
theorem PE.nox {e : Expr} {t : TE} (h : PE X.nox e t) : PE X e t := fun pins s σ H Q I hw =>
  wpAny_mono (h pins s σ H Q (I.wish _) hw) (fun _ _ ⟨v, H', I', r, q⟩ => ⟨v, H', I'.unwish, r, q⟩) fun _ _ z => False.elim z
theorem PT.nox {e : Expr} {t : TT} (h : PT X.nox e t) : PT X e t := fun pins s σ H Q I hw =>
  wpAny_mono (h pins s σ H Q (I.wish _) hw) (fun _ _ ⟨H', I', q⟩ => ⟨H', I'.unwish, q⟩) fun _ _ z => False.elim z
theorem PSs.nox {st : List Stmt} {t : TS} (h : PSs X.nox st t) : PSs X st t := fun pins s σ H D I hw =>
  wpAny_mono (h pins s σ H D (I.wish _) hw) (fun _ _ q => q.unwish) fun _ _ z => False.elim z
end

section
variable {X : Cx} {st : Stmt} {rest : List Stmt} {t u : TS} {e : Expr} {te : TE} {pos : Pos}
def tNext : TS := fun D σ H => D.nx σ H
def tSeq (t u : TS) : TS := fun D σ H => t { D with nx := u D } σ H
theorem pss_nil : PSs X [] tNext := fun _ _ σ H _ I h => wpAny_execs_nil ⟨σ, H, I, h⟩
theorem pss_cons (h1 : PS X st t) (h2 : PSs X rest u) : PSs X (st :: rest) (tSeq t u) := by
  intro pins s σ H D I h
  refine wpAny_execs_cons (thn (h1 pins s σ H { D with nx := u D } I h) fun f s1 q => ?_)
  cases f with
  | next =>
    obtain ⟨σ', H', I', q⟩ := q
    exact h2 pins s1 σ' H' D I' q
  | ret v => exact q
  | brk => exact q
  | cont => exact q
theorem pss_one (h1 : PS X st t) : PSs X [st] t := by
  intro pins s σ H D I h
  refine wpAny_execs_cons (thn (h1 pins s σ H D I h) fun f s1 q => ?_)
  cases f with
  | next => exact wpAny_execs_nil q
  | ret v => exact q
  | brk => exact q
  | cont => exact q
/-- in a def's body nothing is shown -/
theorem Inv.quiet {pins : List (Addr × Obj)} {σ : St} {H : Hp} {s : Shared} (I : Inv X pins σ H s) : interactive X.env = false := by simp [interactive, I.ok.kind]
/-- an expression whose value is dropped -/
def tDrop (te : TE) : TS := fun D σ H => te σ H fun _ H1 => D.nx σ H1
theorem ps_expr (he : PE X e te) (hs : swapsWith e none pos.line X.env = pure false := by rfl) : PS X (.Expr e pos) (tDrop te) := by
  intro pins s σ H D I h
  exact wpAny_Expr_any (thn (he pins s σ H _ I h) fun v s1 ⟨x, H1, I1, r1, q1⟩ => ⟨σ, H1, I1, q1⟩) I.quiet hs
def tRet (te : TE) : TS := fun D σ H => te σ H D.rt
theorem ps_ret (he : PE X e te) : PS X (.Return (some e) pos) (tRet te) := by
  intro pins s σ H D I h
  exact wpAny_Return_some (thn (he pins s σ H _ I h) fun v s1 ⟨x, H1, I1, r1, q1⟩ => ⟨x, σ, H1, I1, r1, q1⟩)
def tRetN : TS := fun D _ H => D.rt .non H
def tIfS (c : TT) (t u : TS) : TS := fun D σ H => c σ H fun b H1 => if b = true then t D σ H1 else u D σ H1
theorem ps_if {c : Expr} {a b : List Stmt} {tc : TT} (hc : PT X c tc) (ha : PSs X a t) (hb : PSs X b u) : PS X (.If c a b pos) (tIfS tc t u) := by
  intro pins s σ H D I h
  refine wpAny_If (thn (hc pins s σ H _ I h) fun d s1 ⟨H1, I1, q1⟩ => ?_)
  cases d with
  | true => exact ha pins s1 σ H1 D I1 q1
  | false => exact hb pins s1 σ H1 D I1 q1
/-- code that the proof never comes to -/
def tNever : TS := fun _ _ _ => False
theorem ps_never : PS X st tNever := fun _ _ _ _ _ _ h => h.elim
theorem pss_never {sts : List Stmt} : PSs X sts tNever := fun _ _ _ _ _ _ h => h.elim
end

abbrev TG := V → St → Hp → (St → Hp → Prop) → Prop
def PG (X : Cx) (target : Expr) (t : TG) : Prop :=
  ∀ (pins : List (Addr × Obj)) (s : Shared) (σ : St) (H : Hp) (v : V) (u : Value) (Q : St → Hp → Prop), Inv X pins σ H s → RelV v u → t v σ H Q →
    wpAny (model X.prog X.w) X.A (assign target X.env u) (fun _ s' => ∃ σ' H', Inv X pins σ' H' s' ∧ Q σ' H') X.xe s
/-- o[i] = v, by values -/
abbrev TSet := V → V → V → Hp → (Hp → Prop) → Prop
section
variable {X : Cx} {pos : Pos}
def gName (i : Nat) : TG := fun v σ H Q => Q (σ.set i (some v)) H
theorem pg_name {i : Nat} {x : Str} (hN : X.N.Nodup) (hi : X.N[i]? = some x) (hx : Loc X.env.scope x) (hf : X.fn x = true ∨ X.env.scope.names.lookup x = some .local := by first | exact .inl rfl | exact .inr rfl | assumption) : PG X (.Name x pos) (gName i) := by
  intro pins s σ H v u Q I r h
  exact wpAny_assign_Name (store_ok I hN hi hx r (fun s' I' => ⟨_, H, I', h⟩) hf)
/-- o[i] = .. -/
def gSub (to ti : TE) (t : TSet) : TG := fun v σ H Q => to σ H fun o H1 => ti σ H1 fun i H2 => t o i v H2 fun H3 => Q σ H3
/-- target = value -/
def tAsg (te : TE) (g : TG) : TS := fun D σ H => te σ H fun x H1 => g x σ H1 D.nx
/-- name = value -/
theorem ps_set {i : Nat} {x : Str} {e : Expr} {te : TE} {pos' : Pos} (hN : X.N.Nodup) (hi : X.N[i]? = some x) (hx : Loc X.env.scope x) (he : PE X e te) (hs : swapsWith e (some (.Name x pos')) pos.line X.env = pure false := by rfl) (hf : X.fn x = true ∨ X.env.scope.names.lookup x = some .local := by first | exact .inl rfl | exact .inr rfl | assumption) :
    PS X (.Assign [.Name x pos'] e pos) (tAsg te (gName i)) := by
  intro pins s σ H D I h
  refine wpAny_Assign_Name (thn (he pins s σ H _ I h) fun v s1 ⟨y, H1, I1, r1, q1⟩ => ?_) hs
  exact store_ok I1 hN hi hx r1 (fun s2 I2 => ⟨_, H1, I2, q1⟩) hf
end

section
variable {X : Cx} {pos : Pos}
/-- the invariant W with its measure -/
def tWhile (c : TT) (tb : TS) : TS := fun D σ H => ∃ W : Nat → St → Hp → Prop, (∃ m, W m σ H) ∧ ∀ m σ H, W m σ H →
  c σ H fun b H1 => if b = true then ∃ N : St → Hp → Prop, (∀ σ' H', N σ' H' → ∃ m', m' < m ∧ W m' σ' H') ∧ tb { D with nx := N, ct := N, bk := D.nx } σ H1 else D.nx σ H1
theorem ps_while {c : Expr} {body : List Stmt} {tc : TT} {tb : TS} (hp : PassesOwn (model X.prog X.w) X.A X.env X.xe) (hc : PT X c tc) (hb : PSs X body tb) : PS X (.While c body [] pos) (tWhile tc tb) := by
  intro pins s σ H D I h
  obtain ⟨W, ⟨m0, w0⟩, turn⟩ := h
  refine wpAny_While (codeAny_whileLoop (fun n s' => ∃ σ' H', Inv X pins σ' H' s' ∧ W n σ' H') ?_ m0 ⟨σ, H, I, w0⟩)
  rintro n s1 ⟨σ1, H1, I1, w1⟩
  refine wpAny_passesOwn hp (thn (hc pins s1 σ1 H1 _ I1 (turn n σ1 H1 w1)) fun b s2 ⟨H2, I2, q2⟩ => ?_)
  cases b with
  | true =>
    obtain ⟨N, hN, q2⟩ := q2
    rw [if_pos rfl]
    refine wpAny_passesOwn hp (thn (hb pins s2 σ1 H2 _ I2 q2) fun f s3 q3 => ?_)
    cases f with
    | next =>
      obtain ⟨σ3, H3, I3, n3⟩ := q3
      obtain ⟨m', hm, w3⟩ := hN σ3 H3 n3
      exact ⟨m', hm, σ3, H3, I3, w3⟩
    | cont =>
      obtain ⟨σ3, H3, I3, n3⟩ := q3
      obtain ⟨m', hm, w3⟩ := hN σ3 H3 n3
      exact ⟨m', hm, σ3, H3, I3, w3⟩
    | brk => exact q3
    | ret v => exact q3
  | false =>
    rw [if_neg Bool.false_ne_true]
    exact wpAny_execs_nil ⟨σ1, H2, I2, q2⟩
end

/-- at turn i: it yields x (the heap may grow), or it stops -/
structure It where
  go : Nat → Hp → Prop
  yld : Nat → Hp → V → Hp → Prop
  stop : Nat → Hp → Prop
/-- the iterator's own objects may turn: they are not the frame's, not pinned, younger than the entry (or a comprehension's own) -/
def FpOk (X : Cx) (pins : List (Addr × Obj)) (H : Hp) (b : Addr) : Prop :=
  H b = none ∧ b ≠ X.env.locals ∧ b ∉ X.fs ∧ (b ∈ X.ex ∨ X.s₀.heap.objs.size ≤ b) ∧ (∀ x c, X.env.cells.lookup x = some c → c ≠ b) ∧ ∀ p ∈ X.pn ++ pins, p.1 ≠ b
theorem Inv.fpOk {X : Cx} {pins : List (Addr × Obj)} {σ : St} {H H' : Hp} {s : Shared} {b : Addr} (I : Inv X pins σ H s) (hb : s.heap.objs.size ≤ b) (hn : H' b = none) : FpOk X pins H' b := by
  refine ⟨hn, Nat.ne_of_gt (Nat.lt_of_lt_of_le I.lt hb), I.nofs hb, .inr (Nat.le_trans I.sz hb), fun x c e z => ?_, fun p hp z => ?_⟩
  · obtain ⟨v, q⟩ := I.cell x c e
    exact absurd (Nat.lt_of_lt_of_le q.lt (by rw [z]; exact hb)) (Nat.lt_irrefl _)
  · exact absurd (Nat.lt_of_lt_of_le (Heap.lt_size (I.pin p hp).1) (by rw [z]; exact hb)) (Nat.lt_irrefl _)
structure Turn (P : Program) (w : World) (K : PySem.W.Frag) (tg : Expr) (J : It) (fp : List Addr) (it : Addr) (tn : Nat → Heap → Prop) : Prop where
  mem : it ∈ fp
  obj : ∀ i h, tn i h → ∀ b ∈ fp, ∃ o, h.get? b = some o ∧ ∀ v, o.data ≠ .cell v
  keep : ∀ i h h', tn i h → (∀ b ∈ fp, ∀ o, h.get? b = some o → h'.get? b = some o) → tn i h'
  item : ∀ (X : Cx), X.prog = P → X.w = w → X.K = K → X.calm = true → ∀ (i : Nat) (pins : List (Addr × Obj)) (s : Shared) (σ : St) (H : Hp) (E : Value → Shared → Prop), Inv X pins σ H s → (∀ b ∈ fp, FpOk X pins H b) → tn i s.heap → J.go i H →
    wpAny (model P w) X.A (pyNext (.ref it)) (fun r s1 => ∃ u, r = some u ∧
      wpAny (model P w) X.A (letOwnedTupleGo tg (.ref it) u) (fun _ s2 => ∃ x H', Inv X pins σ H' s2 ∧ RelV x u ∧ J.yld i H x H' ∧ tn (i + 1) s2.heap ∧ ∀ b ∈ fp, H' b = none) E s1) E s
  done : ∀ (X : Cx), X.prog = P → X.w = w → X.K = K → X.calm = true → ∀ (i : Nat) (pins : List (Addr × Obj)) (s : Shared) (σ : St) (H : Hp) (E : Value → Shared → Prop), Inv X pins σ H s → (∀ b ∈ fp, FpOk X pins H b) → tn i s.heap → J.stop i H →
    wpAny (model P w) X.A (pyNext (.ref it)) (fun r s1 => r = none ∧ Inv X pins σ H s1) E s
  self : ∀ (A : Around) (i : Nat) (s : Shared) (Q : Value → Shared → Prop) (E : Value → Shared → Prop), tn i s.heap → Q (.ref it) s → wpAny (model P w) A (pyIter (.ref it)) Q E s
abbrev TI := St → Hp → (It → Hp → Prop) → Prop
/-- an iterator has come -/
def PIE (X : Cx) (pins : List (Addr × Obj)) (σ : St) (tg : Expr) (R : It → Hp → Prop) (itv : Value) (s2 : Shared) : Prop :=
  ∃ (it : Addr) (fp : List Addr) (tn : Nat → Heap → Prop) (J : It) (H' : Hp), itv = .ref it ∧ Inv X pins σ H' s2 ∧ Turn X.prog X.w X.K tg J fp it tn ∧ tn 0 s2.heap ∧ (∀ b ∈ fp, FpOk X pins H' b) ∧ R J H'
def PI (X : Cx) (tg iter : Expr) (wi : TI) : Prop :=
  ∀ (pins : List (Addr × Obj)) (s : Shared) (σ : St) (H : Hp) (R : It → Hp → Prop), Inv X pins σ H s → wi σ H R →
    wpAny (model X.prog X.w) X.A (eval iter X.env) (fun v s1 => wpAny (model X.prog X.w) X.A (pyIter v) (PIE X pins σ tg R) X.xe s1) X.xe s

/-- the step ahead of the store is nothing for an iterator that keeps no tuple -/
theorem go_of {M : Model} {A : Around} {E : Value → Shared → Prop} {s : Shared} {tg : Expr} {it : Addr} {u : Value} {o : Obj} {n : String} {vs : Array Value} {Q : Unit → Shared → Prop} (ho : s.heap.get? it = some o) (hc : o.cls = .type n) (hd : o.data = .fields vs)
    (hn : ["enumerate", "zip", "dict_itemiterator", "dict_reverseitemiterator", "odict_iterator", "itertools.zip_longest", "itertools.pairwise"].contains n = false) (hQ : Q () s) : wpAny M A (letOwnedTupleGo tg (.ref it) u) Q E s := by
  unfold letOwnedTupleGo
  cases tg <;> first
    | exact wpAny_pure hQ
    | (cases u <;> first
        | exact wpAny_pure hQ
        | (refine wpAny_bind (wpAny_load ho ?_)
           rw [hc, hd]
           show wpAny M A (if (["enumerate", "zip", "dict_itemiterator", "dict_reverseitemiterator", "odict_iterator", "itertools.zip_longest", "itertools.pairwise"].contains n && vs[0]? == some (rawInt _)) = true then _ else _) Q E s
           rw [if_neg (by intro h; rw [hn, Bool.false_and] at h; cases h)]
           exact wpAny_pure hQ))

/-- the list at a, as it stands at each turn (a loop may append to it) -/
def Itl (K : PySem.W.Frag) (a : Addr) : It :=
  ⟨fun i H => ∃ xs x, SqL K H a xs ∧ xs[i]? = some x, fun i H x H' => H' = H ∧ ∀ xs, SqL K H a xs → xs[i]? = some x, fun i H => ∃ xs, SqL K H a xs ∧ xs.length ≤ i⟩
def Itt (K : PySem.W.Frag) (a : Addr) : It :=
  ⟨fun i H => ∃ xs x, SqT K H a xs ∧ xs[i]? = some x, fun i H x H' => H' = H ∧ ∀ xs, SqT K H a xs → xs[i]? = some x, fun i H => ∃ xs, SqT K H a xs ∧ xs.length ≤ i⟩
/-- lo, lo + 1, .. (n of them) -/
def Itr (lo : Int) (n : Nat) : It := ⟨fun i _ => i < n, fun i H x H' => H' = H ∧ x = .int (lo + i), fun i _ => n ≤ i⟩
theorem turn_list {P : Program} {w : World} {K : PySem.W.Frag} {tg : Expr} (a it : Addr) : Turn P w K tg (Itl K a) [it] it (fun i h => h.IsListIter it a i) where
  mem := by simp
  obj := fun i h st b hb => by
    have e : b = it := by simpa using hb
    subst e
    obtain ⟨o, e, c, d⟩ := st
    exact ⟨o, e, fun v z => by rw [d] at z; cases z⟩
  keep := fun i h h' st k => st.at fun o e => k it (by simp) o e
  item := by
    intro X hP hw hK hc i pins s σ H E I hf st hg
    subst hP hw hK
    obtain ⟨xs, x, hq, hx⟩ := hg
    obtain ⟨its, rv, p, hz⟩ := I.list hq
    obtain ⟨u, hu, ru⟩ := rv.get hx
    obtain ⟨f0, f1, f2, f3, f4, f5⟩ := hf it (by simp)
    refine wpAny_pyNext_list_item st p.isList (x := u) (by simpa using hu) fun h' st' sb => ?_
    have I1 : Inv X pins σ H { s with heap := h' } := I.turned (t' := s.toks) (fun b o hb e => (sb.2 b hb).trans e) f0 f1 f3 f4 f5
    obtain ⟨o, e, c, d⟩ := id st'
    exact ⟨u, rfl, go_of (s := { s with heap := h' }) e c d (by decide) ⟨x, H, I1, ru, ⟨rfl, fun ys hy => by rw [I.list_inj hy hq]; exact hx⟩, st', fun b hb => (hf b hb).1⟩⟩
  done := by
    intro X hP hw hK hc i pins s σ H E I hf st hg
    subst hP hw hK
    obtain ⟨xs, hq, hx⟩ := hg
    obtain ⟨its, rv, p, hz⟩ := I.list hq
    obtain ⟨f0, f1, f2, f3, f4, f5⟩ := hf it (by simp)
    have hl := rv.length
    exact wpAny_pyNext_list_end (I.ok.hd hc) st p.isList (by simp; omega) fun h' eb => ⟨rfl, I.turned (t' := s.toks) (fun b o hb e => eb b o hb e) f0 f1 f3 f4 f5⟩
  self := fun _ _ _ _ _ st h => wpAny_pyIter_listiter st h
theorem turn_range {P : Program} {w : World} {K : PySem.W.Frag} {tg : Expr} (it : Addr) (lo : Int) (n : Nat) : Turn P w K tg (Itr lo n) [it] it (fun i h => IsRangeIter h it (lo + (i : Nat) * 1) ((n : Int) - (i : Nat)) 1) where
  mem := by simp
  obj := fun i h st b hb => by
    have e : b = it := by simpa using hb
    subst e
    exact ⟨_, st, fun v z => by
      have z' : Data.fields _ = Data.cell v := z
      cases z'⟩
  keep := fun i h h' st k => k it (by simp) _ st
  item := by
    intro X hP hw hK hc i pins s σ H E I hf st hg
    subst hP hw hK
    obtain ⟨f0, f1, f2, f3, f4, f5⟩ := hf it (by simp)
    have W := Walks.range (prog := X.prog) (w := X.w) (I.ok.hd hc) it lo 1 n
    refine W.item i s _ _ hg st fun v h' tk hv st' kk => ?_
    obtain ⟨t, rfl⟩ := hv
    have I1 : Inv X pins σ H { s with heap := h', toks := tk } := I.turned (fun b o hb e => kk b o (by simpa using hb) e) f0 f1 f3 f4 f5
    refine ⟨_, rfl, go_of (s := { s with heap := h', toks := tk }) (n := "range_iterator") st' rfl rfl (by decide) ⟨.int (lo + i), H, I1, ⟨t, ?_⟩, ⟨rfl, rfl⟩, st', fun b hb => (hf b hb).1⟩⟩
    rw [Int.mul_one]
  done := by
    intro X hP hw hK hc i pins s σ H E I hf st hg
    subst hP hw hK
    obtain ⟨f0, f1, f2, f3, f4, f5⟩ := hf it (by simp)
    exact wpAny_pyNext_range_end (I.ok.hd hc) st (by have : n ≤ i := hg; omega) fun h' eb => ⟨rfl, I.turned (t' := s.toks) (fun b o hb e => eb b o hb e) f0 f1 f3 f4 f5⟩
  self := fun _ _ _ _ _ st h => wpAny_pyIter_rangeiter st h
end L2

namespace L2
open PySem PySem.Spec PyProof.Rows
section
variable {X : Cx} {tg : Expr}
def iList (K : PySem.W.Frag) (tl : TE) : TI := fun σ H R => tl σ H fun x H1 => ∃ a, x = .ref a ∧ (∃ xs, SqL K H1 a xs) ∧ R (Itl K a) H1
def iTup (K : PySem.W.Frag) (tl : TE) : TI := fun σ H R => tl σ H fun x H1 => ∃ a, x = .ref a ∧ (∃ xs, SqT K H1 a xs) ∧ R (Itt K a) H1
theorem pi_list {l : Expr} {tl : TE} (hl : PE X l tl) : PI X tg l (iList X.K tl) := by
  intro pins s σ H R I h
  refine thn (hl pins s σ H _ I h) fun v s1 ⟨x, H1, I1, r1, q1⟩ => ?_
  obtain ⟨a, e, ⟨xs, hq⟩, q⟩ := q1
  subst e
  cases r1
  obtain ⟨its, rv, p, hz⟩ := I1.list hq
  refine wpAny_pyIter_list p.isList ?_
  refine ⟨s1.heap.objs.size, [s1.heap.objs.size], _, _, H1, rfl, I1.kept (t' := s1.toks) fun b o e => Heap.get?_push_of_some _ e, turn_list a _, ⟨_, Heap.get?_push_size _ rfl, rfl, rfl⟩, fun b hb => ?_, q⟩
  have e : b = s1.heap.objs.size := by simpa using hb
  subst e
  exact I1.fpOk (Nat.le_refl _) (I1.hok.fresh (Nat.le_refl _))
/-- a range object just made, walked -/
theorem range_it {pins : List (Addr × Obj)} {σ : St} {H : Hp} {s : Shared} {R : It → Hp → Prop} {E : Value → Shared → Prop} {lo hi : Int} {t u v : Tok} {tk : Nat} (I : Inv X pins σ H s) (h1 : -(2 ^ 62) ≤ lo) (h2 : lo < 2 ^ 62) (h3 : -(2 ^ 62) ≤ hi) (h4 : hi < 2 ^ 62)
    (q : R (Itr lo (hi - lo).toNat) H) : wpAny (model X.prog X.w) X.A (pyIter (.ref s.heap.objs.size)) (PIE X pins σ tg R) E { s with heap := s.heap.push { cls := .type "range", data := .fields #[.int lo t, .int hi u, .int 1 v] }, toks := tk } := by
  refine wpAny_pyIter_range (IsRange.new ..) (small_one h1 h2 h3 h4) ?_
  have I1 : Inv X pins σ H { s with heap := s.heap.push { cls := .type "range", data := .fields #[.int lo t, .int hi u, .int 1 v] }, toks := tk } := I.kept fun b o e => Heap.get?_push_of_some _ e
  refine ⟨(s.heap.push { cls := .type "range", data := .fields #[.int lo t, .int hi u, .int 1 v] }).objs.size, [(s.heap.push { cls := .type "range", data := .fields #[.int lo t, .int hi u, .int 1 v] }).objs.size], _, _, H, rfl,
    I1.kept (t' := tk) fun b o e => Heap.get?_push_of_some _ e, turn_range _ lo (hi - lo).toNat, ?_, fun b hb => ?_, q⟩
  · have e1 : lo + ((0 : Nat) : Int) * 1 = lo := by simp
    have e2 : (((hi - lo).toNat : Nat) : Int) - ((0 : Nat) : Int) = Builtin.Range.rangeSize lo hi 1 := by rw [rangeSize_one]; split <;> omega
    show IsRangeIter _ _ (lo + ((0 : Nat) : Int) * 1) ((((hi - lo).toNat : Nat) : Int) - ((0 : Nat) : Int)) 1
    rw [e1, e2]
    exact Heap.get?_push_size _ rfl
  · have e : b = (s.heap.push { cls := .type "range", data := .fields #[.int lo t, .int hi u, .int 1 v] }).objs.size := by simpa using hb
    subst e
    exact I1.fpOk (Nat.le_refl _) (I1.hok.fresh (Nat.le_refl _))
def iRng1 (ta : TA) : TI := fun σ H R => ta σ H fun vs H1 => ∃ j : Int, vs = [.int j] ∧ -(2 ^ 62) ≤ j ∧ j < 2 ^ 62 ∧ R (Itr 0 j.toNat) H1
theorem pi_range1 {a : Expr} {ta : TA} {p pos : Pos} (hg : Gl X "range") (hm : X.mg "range" = none) (ha : PA X [a] ta) (hs : starEach [a] X.env = [(false, eval a X.env)] := by rfl) : PI X tg (.Call (.Name "range" p) [a] [] pos) (iRng1 ta) := by
  intro pins s σ H R I h
  refine Call_ (ld_blt I hg hm boot_range (PyProof.Rows.callWith_type1 (thn (ha pos pins s σ H _ I h) fun us s1 ⟨vs, H1, I1, r1, q1⟩ => ?_) hs rfl))
  obtain ⟨j, e, q1, q2, q⟩ := q1
  subst e
  cases r1 with
  | cons r rr =>
    cases rr
    obtain ⟨t, rfl⟩ := r
    exact call_range_1 (range_it I1 (by omega) (by omega) q1 q2 (by simpa using q))

/-- W: the invariant by the turn and a measure; N: what the body is to reach -/
def tFor (wi : TI) (g : TG) (tb : TS) : TS := fun D σ H => wi σ H fun J H1 => ∃ W : Nat → Nat → St → Hp → Prop, (∃ m, W 0 m σ H1) ∧ ∀ i m σ H, W i m σ H →
  (J.stop i H ∧ D.nx σ H) ∨ (J.go i H ∧ ∃ N : St → Hp → Prop, (∀ σ' H', N σ' H' → ∃ m', m' < m ∧ W (i + 1) m' σ' H') ∧ ∀ x H', J.yld i H x H' → g x σ H' fun σ2 H2 => tb { D with nx := N, ct := N, bk := D.nx } σ2 H2)
/-- the records at fp as they stand -/
def pinsAt (fp : List Addr) (h : Heap) : List (Addr × Obj) := fp.filterMap fun b => (h.get? b).map fun o => (b, o)
theorem mem_pinsAt {fp : List Addr} {h : Heap} {b : Addr} {o : Obj} (hb : b ∈ fp) (e : h.get? b = some o) : (b, o) ∈ pinsAt fp h := List.mem_filterMap.mpr ⟨b, hb, by rw [e]; rfl⟩
theorem of_pinsAt {fp : List Addr} {h : Heap} {p : Addr × Obj} (hp : p ∈ pinsAt fp h) : p.1 ∈ fp ∧ h.get? p.1 = some p.2 := by
  obtain ⟨b, hb, e⟩ := List.mem_filterMap.mp hp
  cases q : h.get? b with
  | none => rw [q] at e; cases e
  | some o =>
    rw [q] at e
    have e' : (b, o) = p := Option.some.inj e
    subst e'
    exact ⟨hb, q⟩
theorem Inv.pinned {pins : List (Addr × Obj)} {σ : St} {H : Hp} {s : Shared} {fp : List Addr} (I : Inv X pins σ H s) (hf : ∀ b ∈ fp, FpOk X pins H b) (ho : ∀ b ∈ fp, ∃ o, s.heap.get? b = some o ∧ ∀ v, o.data ≠ .cell v) : Inv X (pins ++ pinsAt fp s.heap) σ H s :=
  I.pins_of fun p hp => (List.mem_append.mp hp).elim (fun z => I.pin p (List.mem_append_right _ z)) fun z => by
    obtain ⟨hb, e⟩ := of_pinsAt z
    obtain ⟨f0, f1, f2, _⟩ := hf p.1 hb
    obtain ⟨o, e', d⟩ := ho p.1 hb
    rw [e] at e'; cases e'
    exact ⟨e, f0, f1, f2, d⟩
theorem Inv.unpinned {pins pl : List (Addr × Obj)} {σ : St} {H : Hp} {s : Shared} (I : Inv X (pins ++ pl) σ H s) : Inv X pins σ H s := I.pins_of fun p hp => I.pin p (List.mem_append_right _ (List.mem_append_left _ hp))
theorem ps_for {iter : Expr} {body : List Stmt} {wi : TI} {g : TG} {tb : TS} {pos : Pos} (hp : PassesOwn (model X.prog X.w) X.A X.env X.xe) (hc : X.calm = true) (hi : PI X tg iter wi) (hg : PG X tg g) (hb : PSs X body tb)
    (hs : ∀ x, foldedSetIterable iter X.env x = pure x := by intro _; rfl) : PS X (.For tg iter body [] pos) (tFor wi g tb) := by
  intro pins s σ H D I h
  refine wpAny_For (thn (hi pins s σ H _ I h) fun v s1 h1 => thn h1 fun itv s2 h2 => ?_) hs
  obtain ⟨it, fp, tn, J, H2, e, I2, T, st2, f2, W, ⟨m0, w0⟩, turn⟩ := h2
  subst e
  -- what stays true of the iterator's objects through the loop
  have stat : ∀ {H' : Hp}, (∀ b ∈ fp, H' b = none) → ∀ b ∈ fp, FpOk X pins H' b := fun hn b hb => ⟨hn b hb, (f2 b hb).2⟩
  refine codeAny_forLoop_any (fun n s' => ∃ i σ' H', Inv X pins σ' H' s' ∧ tn i s'.heap ∧ (∀ b ∈ fp, H' b = none) ∧ W i n σ' H') ?_ m0 ⟨0, σ, H2, I2, st2, fun b hb => (f2 b hb).1, w0⟩
  rintro n s3 ⟨i, σ3, H3, I3, st3, fr3, w3⟩
  rcases turn i n σ3 H3 w3 with ⟨stop, qn⟩ | ⟨go, N, hN, step⟩
  · refine wpAny_passesOwn hp (thn (T.done X rfl rfl rfl hc i pins s3 σ3 H3 X.xe I3 (stat fr3) st3 stop) fun r s4 ⟨hr, I4⟩ => ?_)
    subst hr
    exact wpAny_execs_nil ⟨σ3, H3, I4, qn⟩
  · refine wpAny_passesOwn hp (thn (T.item X rfl rfl rfl hc i pins s3 σ3 H3 X.xe I3 (stat fr3) st3 go) fun r s4 ⟨u, hr, h4⟩ => ?_)
    subst hr
    refine wpAny_passesOwn hp (thn h4 fun _ s5 ⟨x, H5, I5, r5, y5, st5, fr5⟩ => ?_)
    have I5' := I5.pinned (stat fr5) (T.obj _ _ st5)
    refine wpAny_passesOwn hp (thn (hg _ s5 σ3 H5 x u _ I5' r5 (step x H5 y5)) fun _ s6 ⟨σ6, H6, I6, q6⟩ => ?_)
    refine wpAny_passesOwn hp (thn (hb _ s6 σ6 H6 _ I6 q6) fun f s7 q7 => ?_)
    have again : ∀ {σ7 : St} {H7 : Hp}, Inv X (pins ++ pinsAt fp s5.heap) σ7 H7 s7 → N σ7 H7 → ∃ m, m < n ∧ ∃ i σ' H', Inv X pins σ' H' s7 ∧ tn i s7.heap ∧ (∀ b ∈ fp, H' b = none) ∧ W i m σ' H' := fun {σ7 H7} I7 n7 => by
      obtain ⟨m', hm, w7⟩ := hN σ7 H7 n7
      refine ⟨m', hm, i + 1, σ7, H7, I7.unpinned, T.keep _ _ _ st5 fun b hb o e => (I7.pin (b, o) (List.mem_append_right _ (List.mem_append_right _ (mem_pinsAt hb e)))).1, fun b hb => ?_, w7⟩
      obtain ⟨o, e, d⟩ := T.obj _ _ st5 b hb
      exact (I7.pin (b, o) (List.mem_append_right _ (List.mem_append_right _ (mem_pinsAt hb e)))).2.1
    cases f with
    | next => obtain ⟨σ7, H7, I7, n7⟩ := q7; exact again I7 n7
    | cont => obtain ⟨σ7, H7, I7, n7⟩ := q7; exact again I7 n7
    | brk => obtain ⟨σ7, H7, I7, q7⟩ := q7; exact ⟨σ7, H7, I7.unpinned, q7⟩
    | ret v => obtain ⟨x7, σ7, H7, I7, r7, q7⟩ := q7; exact ⟨x7, σ7, H7, I7.unpinned, r7, q7⟩
end

/-- over a list that the body leaves as it is -/
theorem for_list {K : PySem.W.Frag} {a : Addr} {xs : List V} {g : TG} {tb : TS} {D : Ends} {σ : St} {H : Hp} (Pv : Nat → St → Hp → Prop) (h0 : Pv 0 σ H) (hl : ∀ i σ H, i ≤ xs.length → Pv i σ H → SqL K H a xs)
    (hs : ∀ i x σ H, xs[i]? = some x → Pv i σ H → g x σ H fun σ2 H2 => tb { D with nx := Pv (i + 1), ct := Pv (i + 1), bk := D.nx } σ2 H2) (hd : ∀ σ H, Pv xs.length σ H → D.nx σ H) :
    ∃ W : Nat → Nat → St → Hp → Prop, (∃ m, W 0 m σ H) ∧ ∀ i m σ H, W i m σ H →
      ((Itl K a).stop i H ∧ D.nx σ H) ∨ ((Itl K a).go i H ∧ ∃ N : St → Hp → Prop, (∀ σ' H', N σ' H' → ∃ m', m' < m ∧ W (i + 1) m' σ' H') ∧ ∀ x H', (Itl K a).yld i H x H' → g x σ H' fun σ2 H2 => tb { D with nx := N, ct := N, bk := D.nx } σ2 H2) := by
  refine ⟨fun i m σ H => m = xs.length - i ∧ i ≤ xs.length ∧ Pv i σ H, ⟨xs.length, by simp, Nat.zero_le _, h0⟩, ?_⟩
  rintro i m σ H ⟨rfl, hi, p⟩
  have q := hl i σ H hi p
  by_cases hlt : i < xs.length
  · refine .inr ⟨⟨xs, xs[i], q, by simp [hlt]⟩, Pv (i + 1), fun σ' H' p' => ⟨xs.length - (i + 1), by omega, rfl, hlt, p'⟩, fun x H' y => ?_⟩
    obtain ⟨e, y⟩ := y
    subst e
    exact hs i x σ _ (y xs q) p
  · have e : i = xs.length := by omega
    subst e
    exact .inl ⟨⟨xs, q, Nat.le_refl _⟩, hd σ H p⟩
theorem for_range {lo : Int} {n : Nat} {g : TG} {tb : TS} {D : Ends} {σ : St} {H : Hp} (Pv : Nat → St → Hp → Prop) (h0 : Pv 0 σ H)
    (hs : ∀ i σ H, i < n → Pv i σ H → g (.int (lo + i)) σ H fun σ2 H2 => tb { D with nx := Pv (i + 1), ct := Pv (i + 1), bk := D.nx } σ2 H2) (hd : ∀ σ H, Pv n σ H → D.nx σ H) :
    ∃ W : Nat → Nat → St → Hp → Prop, (∃ m, W 0 m σ H) ∧ ∀ i m σ H, W i m σ H →
      ((Itr lo n).stop i H ∧ D.nx σ H) ∨ ((Itr lo n).go i H ∧ ∃ N : St → Hp → Prop, (∀ σ' H', N σ' H' → ∃ m', m' < m ∧ W (i + 1) m' σ' H') ∧ ∀ x H', (Itr lo n).yld i H x H' → g x σ H' fun σ2 H2 => tb { D with nx := N, ct := N, bk := D.nx } σ2 H2) := by
  refine ⟨fun i m σ H => m = n - i ∧ i ≤ n ∧ Pv i σ H, ⟨n, by simp, Nat.zero_le _, h0⟩, ?_⟩
  rintro i m σ H ⟨rfl, hi, p⟩
  by_cases hlt : i < n
  · refine .inr ⟨hlt, Pv (i + 1), fun σ' H' p' => ⟨n - (i + 1), by omega, rfl, hlt, p'⟩, fun x H' y => ?_⟩
    obtain ⟨e, y⟩ := y
    subst e y
    exact hs i σ _ hlt p
  · have e : i = n := by omega
    subst e
    exact .inl ⟨Nat.le_refl _, hd σ H p⟩
end L2

namespace L2
open PySem PySem.Spec PyProof.Rows

abbrev R2 := V → V → Hp → VK → Prop
/-- a two-place operation on values: f is binaryOp op, inplaceOp op or compareOp op -/
def OpR (X : Cx) (f : Value → Value → Sem Value) (r : R2) : Prop :=
  ∀ (pins : List (Addr × Obj)) (s : Shared) (σ : St) (H : Hp) (x y : V) (v u : Value) (Q : VK), Inv X pins σ H s → RelV x v → RelV y u → r x y H Q →
    wpAny (model X.prog X.w) X.A (f v u) (EP X pins σ Q) X.xe s
/-- a one-place operation -/
def UnR (X : Cx) (f : Value → Sem Value) (r : V → Hp → VK → Prop) : Prop :=
  ∀ (pins : List (Addr × Obj)) (s : Shared) (σ : St) (H : Hp) (x : V) (v : Value) (Q : VK), Inv X pins σ H s → RelV x v → r x H Q →
    wpAny (model X.prog X.w) X.A (f v) (EP X pins σ Q) X.xe s
/-- a call of a value that is known (a builtin, a type) with values -/
def CallR (X : Cx) (f : Value) (r : List V → Hp → VK → Prop) : Prop :=
  ∀ (pins : List (Addr × Obj)) (s : Shared) (σ : St) (H : Hp) (xs : List V) (us : List Value) (Q : VK), Inv X pins σ H s → Vals xs us → r xs H Q →
    wpAny (model X.prog X.w) X.A (call f us) (EP X pins σ Q) X.xe s
/-- a value's truth -/
def TruR (X : Cx) (r : V → Hp → (Bool → Hp → Prop) → Prop) : Prop :=
  ∀ (pins : List (Addr × Obj)) (s : Shared) (σ : St) (H : Hp) (x : V) (v : Value) (Q : Bool → Hp → Prop), Inv X pins σ H s → RelV x v → r x H Q →
    wpAny (model X.prog X.w) X.A (truthy v) (TP X pins σ Q) X.xe s

def tOp (r : R2) (ta tb : TE) : TE := fun σ H Q => ta σ H fun x H1 => tb σ H1 fun y H2 => r x y H2 Q
def tUn (r : V → Hp → VK → Prop) (ta : TE) : TE := fun σ H Q => ta σ H fun x H1 => r x H1 Q
/-- ints in, under C, and a value out -/
def rI (C : Int → Int → Prop) (g : Int → Int → V) : R2 := fun x y H Q => ∃ i j, x = .int i ∧ y = .int j ∧ C i j ∧ Q (g i j) H
def rI0 (g : Int → Int → V) : R2 := fun x y H Q => ∃ i j, x = .int i ∧ y = .int j ∧ Q (g i j) H
def rU (g : Int → V) : V → Hp → VK → Prop := fun x H Q => ∃ i, x = .int i ∧ Q (g i) H

section
variable {X : Cx} {a b c : Expr} {ta tb tc : TE} {pos : Pos}

theorem binT (ha : PE X a ta) (hb : PE X b tb) {pins : List (Addr × Obj)} {s : Shared} {σ : St} {H : Hp} {R : V → V → Hp → Prop} (I : Inv X pins σ H s)
    (h : ta σ H fun x H1 => tb σ H1 fun y H2 => R x y H2) {Q : Value → Shared → Prop} {f : Value → Value → Sem Value}
    (hf : ∀ v u s2 x y H2, Inv X pins σ H2 s2 → RelV x v → RelV y u → R x y H2 → wpAny (model X.prog X.w) X.A (f v u) Q X.xe s2) :
    wpAny (model X.prog X.w) X.A (eval a X.env) (fun v s₁ => wpAny (model X.prog X.w) X.A (eval b X.env) (fun u s₂ => wpAny (model X.prog X.w) X.A (f v u) Q X.xe s₂) X.xe s₁) X.xe s := by
  refine thn (ha pins s σ H _ I h) fun v s1 ⟨x, H1, I1, r1, q1⟩ => ?_
  refine thn (hb pins s1 σ H1 _ I1 q1) fun u s2 ⟨y, H2, I2, r2, q2⟩ => ?_
  exact hf v u s2 x y H2 I2 r1 r2 q2

theorem pe_op {op : Operator} {r : R2} (ho : OpR X (binaryOp op) r) (ha : PE X a ta) (hb : PE X b tb) : PE X (.BinOp a op b pos) (tOp r ta tb) := by
  intro pins s σ H Q I h
  exact wpAny_BinOp (binT ha hb I h fun v u s2 x y H2 I2 rx ry q => ho pins s2 σ H2 x y v u Q I2 rx ry q)
theorem pe_un {op : UnaryOp} {r : V → Hp → VK → Prop} (ho : UnR X (unaryOp op) r) (ha : PE X a ta) : PE X (.UnaryOp op a pos) (tUn r ta) := by
  intro pins s σ H Q I h
  exact UnaryOp_ (thn (ha pins s σ H _ I h) fun v s1 ⟨x, H1, I1, r1, q1⟩ => ho pins s1 σ H1 x v Q I1 r1 q1)

theorem opI {f : Value → Value → Sem Value} {C : Int → Int → Prop} {g : Int → Int → Int}
    (rule : ∀ (i j : Int) (t u : Tok) (s : Shared) (Q : Value → Shared → Prop) (E : Value → Shared → Prop), C i j → Q (.int (g i j) s.toks) { s with toks := s.toks + 1 } → wpAny (model X.prog X.w) X.A (f (.int i t) (.int j u)) Q E s) :
    OpR X f (rI C fun i j => .int (g i j)) := by
  intro pins s σ H x y v u Q I rx ry h
  obtain ⟨i, j, rfl, rfl, hc, q⟩ := h
  obtain ⟨t, rfl⟩ := rx
  obtain ⟨t', rfl⟩ := ry
  exact rule i j t t' s _ _ hc ⟨.int (g i j), H, I.tok _, ⟨_, rfl⟩, q⟩
theorem opI0 {f : Value → Value → Sem Value} {g : Int → Int → Int}
    (rule : ∀ (i j : Int) (t u : Tok) (s : Shared) (Q : Value → Shared → Prop) (E : Value → Shared → Prop), Q (.int (g i j) s.toks) { s with toks := s.toks + 1 } → wpAny (model X.prog X.w) X.A (f (.int i t) (.int j u)) Q E s) :
    OpR X f (rI0 fun i j => .int (g i j)) := by
  intro pins s σ H x y v u Q I rx ry h
  obtain ⟨i, j, rfl, rfl, q⟩ := h
  obtain ⟨t, rfl⟩ := rx
  obtain ⟨t', rfl⟩ := ry
  exact rule i j t t' s _ _ ⟨.int (g i j), H, I.tok _, ⟨_, rfl⟩, q⟩
theorem opB0 {f : Value → Value → Sem Value} {g : Int → Int → Bool}
    (rule : ∀ (i j : Int) (t u : Tok) (s : Shared) (Q : Value → Shared → Prop) (E : Value → Shared → Prop), Q (.bool (g i j)) s → wpAny (model X.prog X.w) X.A (f (.int i t) (.int j u)) Q E s) :
    OpR X f (rI0 fun i j => .bl (g i j)) := by
  intro pins s σ H x y v u Q I rx ry h
  obtain ⟨i, j, rfl, rfl, q⟩ := h
  obtain ⟨t, rfl⟩ := rx
  obtain ⟨t', rfl⟩ := ry
  exact rule i j t t' s _ _ ⟨.bl (g i j), H, I, rfl, q⟩

def CDiv (i j : Int) : Prop := 0 < j ∧ j < 1073741824
def CPow (i j : Int) : Prop := 0 ≤ j ∧ j ≤ 1000000 ∧ i.natAbs < 2 ^ 64
def CMul (i j : Int) : Prop := (-(2 ^ 64) < i ∧ i < 2 ^ 64) ∨ (-(2 ^ 64) < j ∧ j < 2 ^ 64)
theorem CMul.ok {i j : Int} (h : CMul i j) : IntMulOk i j := by
  rcases h with ⟨h1, h2⟩ | ⟨h1, h2⟩
  · exact .of_left (intBits_le_64 h1 h2)
  · exact .of_right (intBits_le_64 h1 h2)

theorem op_add : OpR X (binaryOp .Add) (rI0 fun i j => .int (i + j)) := opI0 fun _ _ _ _ _ _ _ q => add_int q
theorem op_sub : OpR X (binaryOp .Sub) (rI0 fun i j => .int (i - j)) := opI0 fun _ _ _ _ _ _ _ q => sub_int q
theorem op_mul : OpR X (binaryOp .Mult) (rI CMul fun i j => .int (i * j)) := opI fun _ _ _ _ _ _ _ hc q => mul_int q hc.ok
/-- // by a positive divisor -/
theorem op_fdiv : OpR X (binaryOp .FloorDiv) (rI CDiv fun i j => .int (i / j)) := opI fun i j _ _ _ _ _ hc q => by
  have h1 : (0 : Int) < j := hc.1
  have h2 : j < 1073741824 := hc.2
  exact floordiv_int (by omega) (by rw [Int.fdiv_eq_ediv_of_nonneg i (by omega)]; exact q) (.inl (PyProof.noPylong_small (by omega)))
/-- % by a positive divisor of any size -/
theorem op_mod : OpR X (binaryOp .Mod) (rI (fun _ j => 0 < j) fun i j => .int (i % j)) := opI fun i j _ _ _ _ _ hc q => by
  have h1 : (0 : Int) < j := hc
  exact mod_int' (by omega) (by rw [Int.fmod_eq_emod_of_nonneg i (by omega)]; exact q)
theorem op_pow : OpR X (binaryOp .Pow) (rI CPow fun i j => .int (i ^ j.toNat)) := opI fun _ _ _ _ _ _ _ hc q => pow_int_small hc.1 hc.2.1 hc.2.2 q


theorem unI {f : Value → Sem Value} {g : Int → Int}
    (rule : ∀ (i : Int) (t : Tok) (s : Shared) (Q : Value → Shared → Prop) (E : Value → Shared → Prop), Q (.int (g i) s.toks) { s with toks := s.toks + 1 } → wpAny (model X.prog X.w) X.A (f (.int i t)) Q E s) :
    UnR X f (rU fun i => .int (g i)) := by
  intro pins s σ H x v Q I rx h
  obtain ⟨i, rfl, q⟩ := h
  obtain ⟨t, rfl⟩ := rx
  exact rule i t s _ _ ⟨.int (g i), H, I.tok _, ⟨_, rfl⟩, q⟩
theorem un_neg : UnR X (unaryOp .USub) (rU fun i => .int (-i)) := unI fun _ _ _ _ _ q => neg_int q

end

/-- the scalars that == tells apart as data does -/
def scal : V → V → Bool
  | .non, .non => true | .non, .int _ => true | .int _, .non => true | .non, .bl _ => true | .bl _, .non => true | .non, .str _ => true | .str _, .non => true
  | .int _, .int _ => true | .bl _, .bl _ => true | .str _, .str _ => true | .byt _, .byt _ => true
  | .int _, .str _ => true | .str _, .int _ => true | .bl _, .str _ => true | .str _, .bl _ => true
  | _, _ => false
def rEq : R2 := fun x y H Q => scal x y = true ∧ Q (.bl (decide (x = y))) H
def rNe : R2 := fun x y H Q => scal x y = true ∧ Q (.bl (!decide (x = y))) H

theorem dec_int {i j : Int} : decide (V.int i = V.int j) = (i == j) := by
  rw [Bool.eq_iff_iff]
  simp
theorem dec_bl {i j : Bool} : decide (V.bl i = V.bl j) = (i == j) := by
  rw [Bool.eq_iff_iff]
  simp
theorem dec_str {i j : Str} : decide (V.str i = V.str j) = (i == j) := by
  rw [Bool.eq_iff_iff]
  simp
theorem dec_byt {i j : Array UInt8} : decide (V.byt i = V.byt j) = (i.toList == j.toList) := by
  rw [Bool.eq_iff_iff]
  cases i
  cases j
  simp

section
variable {X : Cx} {a b c : Expr} {ta tb tc : TE} {pos : Pos}
theorem fin_bl {pins : List (Addr × Obj)} {σ : St} {H : Hp} {s : Shared} {Q : VK} {k k' : Bool} (I : Inv X pins σ H s) (q : Q (.bl k) H) (e : k = k') : EP X pins σ Q (.bool k') s := by
  subst e
  exact ⟨.bl k, H, I, rfl, q⟩
theorem op_eq : OpR X (compareOp .Eq) rEq := by
  intro pins s σ H x y v u Q I rx ry h
  obtain ⟨hs, q⟩ := h
  cases x with
  | non =>
    cases rx
    cases y with
    | non => cases ry; exact PySem.EqNone.eq_none_none (fin_bl I q (by simp))
    | bl j => cases ry; exact PySem.EqNone.eq_none_bool (fin_bl I q (by simp))
    | int j => obtain ⟨t', rfl⟩ := ry; exact PySem.EqNone.eq_none_int (fin_bl I q (by simp))
    | str j => obtain ⟨t', rfl⟩ := ry; exact PySem.EqNone.eq_none_str (fin_bl I q (by simp))
    | _ => exact absurd (show false = true from hs) Bool.false_ne_true
  | bl i =>
    cases rx
    cases y with
    | non => cases ry; exact PySem.EqNone.eq_bool_none (fin_bl I q (by simp))
    | bl j => cases ry; exact eq_bool (fin_bl I q dec_bl)
    | str j => obtain ⟨t', rfl⟩ := ry; exact PySem.EqMixed.eq_bool_str (fin_bl I q (by simp))
    | _ => exact absurd (show false = true from hs) Bool.false_ne_true
  | int i =>
    obtain ⟨t, rfl⟩ := rx
    cases y with
    | non => cases ry; exact PySem.EqNone.eq_int_none (fin_bl I q (by simp))
    | int j => obtain ⟨t', rfl⟩ := ry; exact eq_int (fin_bl I q dec_int)
    | str j => obtain ⟨t', rfl⟩ := ry; exact PySem.EqMixed.eq_int_str (fin_bl I q (by simp))
    | _ => exact absurd (show false = true from hs) Bool.false_ne_true
  | str i =>
    obtain ⟨t, rfl⟩ := rx
    cases y with
    | non => cases ry; exact PySem.EqNone.eq_str_none (fin_bl I q (by simp))
    | bl j => cases ry; exact PySem.EqMixed.eq_str_bool (fin_bl I q (by simp))
    | int j => obtain ⟨t', rfl⟩ := ry; exact PySem.EqMixed.eq_str_int (fin_bl I q (by simp))
    | str j => obtain ⟨t', rfl⟩ := ry; exact eq_str (fin_bl I q dec_str)
    | _ => exact absurd (show false = true from hs) Bool.false_ne_true
  | byt i =>
    obtain ⟨t, rfl⟩ := rx
    cases y with
    | byt j => obtain ⟨t', rfl⟩ := ry; exact PySem.W.eq_bytes (fin_bl I q dec_byt)
    | _ => exact absurd (show false = true from hs) Bool.false_ne_true
  | _ => cases y <;> exact absurd (show false = true from hs) Bool.false_ne_true
theorem op_ne : OpR X (compareOp .NotEq) rNe := by
  intro pins s σ H x y v u Q I rx ry h
  obtain ⟨hs, q⟩ := h
  cases x with
  | non =>
    cases rx
    cases y with
    | non => cases ry; exact PySem.EqNone.ne_none_none (fin_bl I q (by simp))
    | bl j => cases ry; exact PySem.EqNone.ne_none_bool (fin_bl I q (by simp))
    | int j => obtain ⟨t', rfl⟩ := ry; exact PySem.EqNone.ne_none_int (fin_bl I q (by simp))
    | str j => obtain ⟨t', rfl⟩ := ry; exact PySem.EqNone.ne_none_str (fin_bl I q (by simp))
    | _ => exact absurd (show false = true from hs) Bool.false_ne_true
  | bl i =>
    cases rx
    cases y with
    | non => cases ry; exact PySem.EqNone.ne_bool_none (fin_bl I q (by simp))
    | bl j => cases ry; exact ne_bool (fin_bl I q (congrArg not dec_bl))
    | str j => obtain ⟨t', rfl⟩ := ry; exact PySem.EqMixed.ne_bool_str (fin_bl I q (by simp))
    | _ => exact absurd (show false = true from hs) Bool.false_ne_true
  | int i =>
    obtain ⟨t, rfl⟩ := rx
    cases y with
    | non => cases ry; exact PySem.EqNone.ne_int_none (fin_bl I q (by simp))
    | int j => obtain ⟨t', rfl⟩ := ry; exact ne_int (fin_bl I q (congrArg not dec_int))
    | str j => obtain ⟨t', rfl⟩ := ry; exact PySem.EqMixed.ne_int_str (fin_bl I q (by simp))
    | _ => exact absurd (show false = true from hs) Bool.false_ne_true
  | str i =>
    obtain ⟨t, rfl⟩ := rx
    cases y with
    | non => cases ry; exact PySem.EqNone.ne_str_none (fin_bl I q (by simp))
    | bl j => cases ry; exact PySem.EqMixed.ne_str_bool (fin_bl I q (by simp))
    | int j => obtain ⟨t', rfl⟩ := ry; exact PySem.EqMixed.ne_str_int (fin_bl I q (by simp))
    | str j => obtain ⟨t', rfl⟩ := ry; exact ne_str (fin_bl I q (congrArg not dec_str))
    | _ => exact absurd (show false = true from hs) Bool.false_ne_true
  | byt i =>
    obtain ⟨t, rfl⟩ := rx
    cases y with
    | byt j => obtain ⟨t', rfl⟩ := ry; exact PySem.W.ne_bytes (fin_bl I q (congrArg not dec_byt))
    | _ => exact absurd (show false = true from hs) Bool.false_ne_true
  | _ => cases y <;> exact absurd (show false = true from hs) Bool.false_ne_true

theorem op_lt : OpR X (compareOp .Lt) (rI0 fun i j => .bl (decide (i < j))) := opB0 fun _ _ _ _ _ _ _ q => lt_int q
theorem op_le : OpR X (compareOp .LtE) (rI0 fun i j => .bl (decide (i ≤ j))) := opB0 fun _ _ _ _ _ _ _ q => le_int q
theorem op_gt : OpR X (compareOp .Gt) (rI0 fun i j => .bl (decide (j < i))) := opB0 fun _ _ _ _ _ _ _ q => gt_int q



/-- two rules for one operation: by cases -/
theorem OpR.or {f : Value → Value → Sem Value} {r r' : R2} (h : OpR X f r) (h' : OpR X f r') : OpR X f (fun x y H Q => r x y H Q ∨ r' x y H Q) := by
  intro pins s σ H x y v u Q I rx ry q
  rcases q with q | q
  · exact h pins s σ H x y v u Q I rx ry q
  · exact h' pins s σ H x y v u Q I rx ry q

theorem nomark (b : Expr) {op : CmpOp} (h : op ≠ .In := by decide) (h2 : op ≠ .NotIn := by decide) : behindInMarks op b = false := by
  have e1 : (op == CmpOp.In) = false := by cases op <;> first | rfl | exact absurd rfl h
  have e2 : (op == CmpOp.NotIn) = false := by cases op <;> first | rfl | exact absurd rfl h2
  cases b <;> simp [behindInMarks, e1, e2]
/-- a comparison as a value; hm: nomark b, or (for in, not in) by with_unfolding_all rfl -/
theorem pe_cmpR {op : CmpOp} {r : R2} (ho : OpR X (compareOp op) r) (ha : PE X a ta) (hb : PE X b tb) (hm : behindInMarks op b = false) : PE X (.Compare a [op] [b] pos) (tOp r ta tb) := by
  intro pins s σ H Q I h
  exact wpAny_Compare1 (binT ha hb I h fun v u s2 x y H2 I2 rx ry q => ho pins s2 σ H2 x y v u Q I2 rx ry q) hm
/-- a reading of a value as a test -/
def tTest (t : TE) : TT := fun σ H Q => t σ H fun x H' => ∃ k, x = .bl k ∧ Q k H'
theorem pt_cmpR {op : CmpOp} {r : R2} (ho : OpR X (compareOp op) r) (ha : PE X a ta) (hb : PE X b tb) (hm : behindInMarks op b = false) : PT X (.Compare a [op] [b] pos) (tTest (tOp r ta tb)) := by
  intro pins s σ H Q I h
  refine wpAny_isTrue_Compare1 (thn (ha pins s σ H _ I h) fun v s1 ⟨x, H1, I1, r1, q1⟩ => thn (hb pins s1 σ H1 _ I1 q1) fun u s2 ⟨y, H2, I2, r2, q2⟩ =>
    thn (ho pins s2 σ H2 x y v u _ I2 r1 r2 q2) fun c s3 ⟨z, H3, I3, r3, k, e, q3⟩ => ?_) hm
  subst e
  cases r3
  exact wpAny_truthy_bool ⟨H3, I3, q3⟩
/-- a op1 b op2 c -/
def tChain (r r' : R2) (ta tb tc : TE) : TE := fun σ H Q => ta σ H fun x H1 => tb σ H1 fun y H2 => r x y H2 fun z H3 => ∃ k, z = .bl k ∧
  (if k = true then tc σ H3 fun w' H4 => r' y w' H4 Q else Q (.bl false) H3)
theorem pe_chain {op op' : CmpOp} {r r' : R2} (ho : OpR X (compareOp op) r) (ho' : OpR X (compareOp op') r') (ha : PE X a ta) (hb : PE X b tb) (hc : PE X c tc)
    (hm : lastMarks [op, op'] [b, c] = false := by with_unfolding_all rfl) : PE X (.Compare a [op, op'] [b, c] pos) (tChain r r' ta tb tc) := by
  intro pins s σ H Q I h
  refine Compare_chain (thn (ha pins s σ H _ I h) fun v s1 ⟨x, H1, I1, r1, q1⟩ => chain_link (thn (hb pins s1 σ H1 _ I1 q1) fun u s2 ⟨y, H2, I2, r2, q2⟩ =>
    thn (ho pins s2 σ H2 x y v u _ I2 r1 r2 q2) fun d s3 ⟨z, H3, I3, r3, k, e, q3⟩ => ?_)) hm
  subst e
  cases r3
  refine wpAny_truthy_bool ?_
  cases k with
  | false => exact ite_ff ⟨.bl false, H3, I3, rfl, q3⟩
  | true => exact ite_tt (chain_last (thn (hc pins s3 σ H3 _ I3 q3) fun w' s4 ⟨z', H4, I4, r4, q4⟩ => ho' pins s4 σ H4 y z' u w' Q I4 r2 r4 q4))
theorem pt_chain {op op' : CmpOp} {r r' : R2} (ho : OpR X (compareOp op) r) (ho' : OpR X (compareOp op') r') (ha : PE X a ta) (hb : PE X b tb) (hc : PE X c tc)
    (hm : lastMarks [op, op'] [b, c] = false := by with_unfolding_all rfl) : PT X (.Compare a [op, op'] [b, c] pos) (tTest (tChain r r' ta tb tc)) := by
  intro pins s σ H Q I h
  refine isTrue_chain (thn (ha pins s σ H _ I h) fun v s1 ⟨x, H1, I1, r1, q1⟩ => test_link (thn (hb pins s1 σ H1 _ I1 q1) fun u s2 ⟨y, H2, I2, r2, q2⟩ =>
    thn (ho pins s2 σ H2 x y v u _ I2 r1 r2 q2) fun d s3 ⟨z, H3, I3, r3, k, e, q3⟩ => ?_)) hm
  subst e
  cases r3
  refine wpAny_truthy_bool ?_
  cases k with
  | false =>
    obtain ⟨k', e', q'⟩ := q3
    cases e'
    exact ite_ff ⟨H3, I3, q'⟩
  | true =>
    refine ite_tt (test_last (thn (hc pins s3 σ H3 _ I3 q3) fun w' s4 ⟨z', H4, I4, r4, q4⟩ => thn (ho' pins s4 σ H4 y z' u w' _ I4 r2 r4 q4) fun d' s5 ⟨z2, H5, I5, r5, k2, e2, q5⟩ => ?_))
    subst e2
    cases r5
    exact wpAny_truthy_bool ⟨H5, I5, q5⟩

/-- a value's truth by the abstract heap -/
def TruV (K : PySem.W.Frag) (x : V) (H : Hp) (k : Bool) : Prop :=
  match x with
  | .non => k = false
  | .bl b => k = b
  | .int i => k = (i != 0)
  | .str y => y.length ≤ sizeLine ∧ k = ((y.length : Int) != 0)
  | .byt y => y.size ≤ sizeLine ∧ k = ((y.size : Int) != 0)
  | .ref p => (∃ xs, SqL K H p xs ∧ k = !xs.isEmpty) ∨ (∃ xs, SqT K H p xs ∧ k = !xs.isEmpty) ∨ ∃ kvs, H p = some (.dK kvs) ∧ k = !kvs.isEmpty
  | _ => False
theorem isEmpty_kv {κ : Type} {kvs : List (κ × V)} {vs : List (κ × Value)} (r : KV kvs vs) : (!vs.isEmpty) = !kvs.isEmpty := by
  cases r <;> rfl
theorem isEmpty_of {xs : List V} {its : List Value} (r : Vals xs its) : (!its.toArray.isEmpty) = !xs.isEmpty := by
  cases r <;> simp
theorem line63 : (sizeLine : Nat) < 2 ^ 63 := by rw [sizeLine_eq]; decide
theorem tru_ok : TruR X (fun x H Q => ∃ k, TruV X.K x H k ∧ Q k H) := by
  intro pins s σ H x v Q I rx h
  obtain ⟨k, e, q⟩ := h
  have hl := line63
  have hs : sizeLine = 16777216 := sizeLine_eq
  cases x with
  | non =>
    cases rx
    have e' : k = false := e
    subst e'
    exact truthy_none ⟨H, I, q⟩
  | bl b =>
    cases rx
    have e' : k = b := e
    subst e'
    exact wpAny_truthy_bool ⟨H, I, q⟩
  | int i =>
    obtain ⟨t, rfl⟩ := rx
    have e' : k = (i != 0) := e
    subst e'
    exact PySem.P.truthy_int ⟨H, I, q⟩
  | str y =>
    obtain ⟨t, rfl⟩ := rx
    obtain ⟨hy, e'⟩ : y.length ≤ sizeLine ∧ k = ((y.length : Int) != 0) := e
    subst e'
    exact PySem.P.truthy_str (by omega) ⟨H, I.tok _, q⟩
  | byt y =>
    obtain ⟨t, rfl⟩ := rx
    obtain ⟨hy, e'⟩ : y.size ≤ sizeLine ∧ k = ((y.size : Int) != 0) := e
    subst e'
    exact PySem.W.truthy_bytes (by omega) ⟨H, I.tok _, q⟩
  | ref p =>
    cases rx
    have e' : (∃ xs, SqL X.K H p xs ∧ k = !xs.isEmpty) ∨ (∃ xs, SqT X.K H p xs ∧ k = !xs.isEmpty) ∨ ∃ kvs, H p = some (.dK kvs) ∧ k = !kvs.isEmpty := e
    rcases e' with ⟨xs, hx, e'⟩ | ⟨xs, hx, e'⟩ | ⟨kvs, hx, e'⟩
    · subst e'
      obtain ⟨its, r, pl, hz⟩ := I.list hx
      have hlen := r.length
      exact wpAny_truthy_list pl.isList (by simp only [List.size_toArray]; omega) ⟨H, I.tok _, by rw [isEmpty_of r]; exact q⟩
    · subst e'
      obtain ⟨its, r, pl, hz⟩ := I.tuple hx
      have hlen := r.length
      exact truthy_tuple pl (by simp only [List.size_toArray]; omega) ⟨H, I.tok _, by rw [isEmpty_of r]; exact q⟩
    · subst e'
      obtain ⟨hz, hS, vs, r, m⟩ : kvs.length ≤ sizeLine ∧ (p == sysModules) = false ∧ ∃ vs, KV kvs vs ∧ s.heap.DictOf (mixKind X.prog X.w) p vs := I.hok p _ hx
      have hlen : kvs.length = vs.length := Paired.length r
      exact wpAny_truthy_dict hS m (by omega) ⟨H, I.tok _, by rw [isEmpty_kv r]; exact q⟩
  | _ => exact (show False from e).elim
/-- any expression whose test is its value's truth (a name, a call, a subscript, a field ..: he by fun _ => rfl) -/
theorem pt_truth (ha : PE X a ta) (he : ∀ whole, isTrue a X.env whole = (do let v ← whole; standAt a.pos; holding [v] (truthy v))) :
    PT X a (fun σ H Q => ta σ H fun x H' => ∃ k, TruV X.K x H' k ∧ Q k H') := by
  intro pins s σ H Q I h
  exact isTrue_plain (thn (ha pins s σ H _ I h) fun v s1 ⟨x, H1, I1, r1, q1⟩ => tru_ok pins s1 σ H1 x v Q I1 r1 q1) (he _)



theorem vals1 {x : V} {us : List Value} (r : Vals [x] us) : ∃ u, us = [u] ∧ RelV x u := by
  cases r with
  | cons r1 r2 => cases r2; exact ⟨_, rfl, r1⟩
theorem vals2 {x y : V} {us : List Value} (r : Vals [x, y] us) : ∃ u w', us = [u, w'] ∧ RelV x u ∧ RelV y w' := by
  cases r with
  | cons r1 r2 =>
    cases r2 with
    | cons r3 r4 => cases r4; exact ⟨_, _, rfl, r1, r3⟩
theorem call_max2 (hc : X.calm = true) : CallR X (.builtin "max") (fun xs H Q => ∃ i j, xs = [.int i, .int j] ∧ Q (.int (if j > i then j else i)) H) := by
  intro pins s σ H xs us Q I r h
  obtain ⟨i, j, rfl, q⟩ := h
  obtain ⟨u, w', rfl, ⟨t, rfl⟩, ⟨t', rfl⟩⟩ := vals2 r
  refine max_two_ints (I.ok.hd hc) fun h' tk k => ⟨_, H, I.kept k, ?_, q⟩
  by_cases hj : j > i
  · rw [if_pos hj, if_pos hj]; exact ⟨_, rfl⟩
  · rw [if_neg hj, if_neg hj]; exact ⟨_, rfl⟩
end
end L2

namespace L2
open PySem PySem.Spec PyProof.Rows

structure ObjM (h : Heap) (x dx C : Addr) (mA : Str → Option Value) : Prop where
  obj : h.get? x = some (PySem.W.instObj C dx)
  ns : h.Ns1 dx mA
  ne : dx ≠ x

theorem lookIn_ns {h : Heap} {dx : Addr} {mA : Str → Option Value} (n : h.Ns1 dx mA) : ∃ od, h.get? dx = some od ∧ ∀ name, PySem.W.lookIn name od = some (mA name) := by
  obtain ⟨o, es, ep, ho, hd, hk, _, hm⟩ := n
  refine ⟨o, ho, fun name => ?_⟩
  have e := hm name
  unfold nsFind findBy at e
  rw [← Array.find?_toList] at e
  unfold PySem.W.lookIn
  rw [hd]
  dsimp only
  split
  · rename_i y q
    rw [q] at e
    exact congrArg some e
  · rename_i q
    rw [q] at e
    have a : es.toList.any (·.refKey) = false := by
      rw [List.any_eq_false]
      intro y hy
      obtain ⟨z, t, hkey⟩ := hk y (Array.mem_toList_iff.mp hy)
      simp [DictEntry.refKey, hkey]
    have a' : ¬ es.toList.any (·.refKey) = true := by rw [a]; exact Bool.false_ne_true
    rw [if_neg a']
    exact congrArg some e

theorem ObjM.look {h : Heap} {x dx C : Addr} {mA : Str → Option Value} (I : ObjM h x dx C mA) : ∃ od, PySem.W.InstAt h x (PySem.W.instObj C dx) C (some od) ∧ ∀ name, PySem.W.lookIn name od = some (mA name) :=
  let ⟨od, ho, hl⟩ := lookIn_ns I.ns
  ⟨od, ⟨I.obj, rfl, rfl, ho⟩, hl⟩

section
variable {prog : Program} {w : World} {A : Around} {E : Value → Shared → Prop} {s : Shared} {K : PySem.W.Frag} {x dx C f : Addr} {mA : Str → Option Value} {name : Str} {v : Value}





end

def putF (f : Str) (v : V) : List (Str × V) → List (Str × V)
  | [] => [(f, v)]
  | (g, x) :: r => if g = f then (g, v) :: r else (g, x) :: putF f v r

theorem RelO.some_of {v : V} {o : Option Value} (r : RelO (some v) o) : ∃ u, o = some u ∧ RelV v u := by
  cases o with
  | none => exact (show False from r).elim
  | some u => exact ⟨u, rfl, r⟩
theorem RelO.none_of {o : Option Value} (r : RelO none o) : o = none := by
  cases o with
  | none => rfl
  | some u => exact (show False from r).elim

section
variable {P : Program} {w : World} {H H' : Hp} {h h' : Heap} {a C dx : Addr} {fs fs' : List (Str × V)}
theorem ins_get (hok : HOk P w H h) (e : H a = some (.ins C dx fs)) : ∃ mA, ObjM h a dx C mA ∧ (∀ f, RelO (fs.lookup f) (mA f)) ∧ PySem.Within mA (fs.map (·.1)) ∧ fs.length ≤ 1000 ∧ H dx = some (.own a) := by
  obtain ⟨d, z, ne, ob, mA, n, r, q⟩ := (show ObjOk P w H h a (.ins C dx fs) from hok a _ e)
  exact ⟨mA, ⟨ob, n, ne⟩, r, q, z, d⟩
end

structure Cls (K : PySem.W.Frag) (C : Addr) : Prop where
  pg : PySem.W.plainGet K C Str.empty = true
  hd : PySem.W.hasDictIn K C = true
  po : PySem.W.plainOver K C = true
  sa : PySem.W.findIn K (.ref C) "__setattr__" = some (some (.builtin "object.__setattr__"))
theorem Cls.get {K : PySem.W.Frag} {C : Addr} (c : Cls K C) (f : Str) : PySem.W.plainGet K C f = true := c.pg
/-- no class of it has the name -/
def NoAttr (K : PySem.W.Frag) (C : Addr) (f : Str) : Prop := PySem.W.findIn K (.ref C) f = some none
/-- a constant of the class -/
structure Con (K : PySem.W.Frag) (C : Addr) (f : Str) (v : V) (u : Value) : Prop where
  at_ : PySem.W.findIn K (.ref C) f = some (some u)
  rel : RelV v u
  get : PySem.W.specialIn K u "__get__" = some none
  cp : PySem.W.copiedNames.contains f = false
/-- a method: a plain def of the class or of one above it -/
structure Meth (K : PySem.W.Frag) (C : Addr) (m : Str) (f : Addr) : Prop where
  at_ : PySem.W.findIn K (.ref C) m = some (some (.ref f))
  fn : PySem.W.isFn K (.ref f) = true
  kp : PySem.W.keepIn K (.ref f) = true

section
variable {X : Cx} {pins : List (Addr × Obj)} {σ : St} {H : Hp} {s : Shared} {a C dx : Addr} {fs : List (Str × V)} {f : Str} {v : V} {A : Around} {E : Value → Shared → Prop}





/-- a new instance, tracked, without attributes -/
theorem Inv.made (I : Inv X pins σ H s) : Inv X pins σ (upd (upd H s.heap.objs.size (.own (s.heap.objs.size + 1))) (s.heap.objs.size + 1) (.ins C s.heap.objs.size []))
    { s with heap := (s.heap.push PySem.W.emptyDict).push (PySem.W.instObj C s.heap.objs.size) } := by
  have e1 : (s.heap.push PySem.W.emptyDict).get? s.heap.objs.size = some PySem.W.emptyDict := Heap.get?_push_size s.heap rfl
  have e2 : ((s.heap.push PySem.W.emptyDict).push (PySem.W.instObj C s.heap.objs.size)).get? (s.heap.objs.size + 1) = some (PySem.W.instObj C s.heap.objs.size) := by
    have := Heap.get?_push_size (s.heap.push PySem.W.emptyDict) (o := PySem.W.instObj C s.heap.objs.size) rfl
    rwa [Heap.size_push] at this
  have e3 : (s.heap.push PySem.W.emptyDict).Ns s.heap.objs.size (fun _ => none) := ⟨PySem.W.emptyDict, #[], _, e1, rfl, (fun e he => absurd he (by simp)), fun _ => rfl⟩
  have I1 := I.laid (a := s.heap.objs.size) (o := .own (s.heap.objs.size + 1)) (h' := s.heap.push PySem.W.emptyDict) (t' := s.toks) (fun b u q => Heap.get?_push_of_some _ q) (Nat.le_refl _) ⟨_, e1⟩
  refine I1.laid (a := s.heap.objs.size + 1) (o := .ins C s.heap.objs.size []) (t' := s.toks) (fun b u q => Heap.get?_push_of_some _ q) (Nat.le_of_eq (Heap.size_push _ _)) ?_
  have ne : s.heap.objs.size ≠ s.heap.objs.size + 1 := Nat.ne_of_lt (Nat.lt_succ_self _)
  refine ⟨by rw [upd_ne ne, upd_same], Nat.zero_le _, ne, e2, fun _ => none, (Heap.Ns1.of_empty e3).at fun o q => Heap.get?_push_of_some _ q, fun _ => True.intro, fun y hy => absurd rfl hy⟩

end

/-- e.f, an attribute of the instance -/
def tFld (K : PySem.W.Frag) (ta : TE) (f : Str) : TE := fun σ H Q => ta σ H fun x H1 => ∃ a C dx fs v, x = .ref a ∧ H1 a = some (.ins C dx fs) ∧ Cls K C ∧ NoAttr K C f ∧ fs.lookup f = some v ∧ Q v H1
/-- e.f = value -/
def sFld (K : PySem.W.Frag) (ta tv : TE) (f : Str) : TS := fun D σ H => tv σ H fun y H1 => ta σ H1 fun x H2 => ∃ a C dx fs, x = .ref a ∧ H2 a = some (.ins C dx fs) ∧ Cls K C ∧ NoAttr K C f ∧ fs.length < 1000 ∧
  D.nx σ (upd H2 a (.ins C dx (putF f y fs)))

section
variable {X : Cx} {o e value : Expr} {f : Str} {pos pos' tpos : Pos} {ta tv : TE}

end

section
variable {X : Cx} {pins : List (Addr × Obj)} {σ : St} {H : Hp} {s : Shared} {A : Around} {E : Value → Shared → Prop} {Q : Value → Shared → Prop} {c : Value} {b : Bool}
/-- the type of a value, as the fragment's deciders take it; for an instance its class -/
inductive TyOf (K : PySem.W.Frag) (H : Hp) : V → Value → Prop where
  | non : TyOf K H .non (.type "NoneType")
  | bl (x : Bool) : TyOf K H (.bl x) (.type "bool")
  | int (i : Int) : TyOf K H (.int i) (.type "int")
  | str (x : Str) : TyOf K H (.str x) (.type "str")
  | flt (x : UInt64) : TyOf K H (.flt x) (.type "float")
  | lst {a : Addr} {xs : List V} (e : H a = some (.lst xs)) : TyOf K H (.ref a) (.type "list")
  | frz {a : Addr} {o : Obj} {xs : List V} (e : H a = some (.frz o (.lst xs))) : TyOf K H (.ref a) (.type "list")
  | tup {a : Addr} {xs : List V} (e : H a = some (.tup xs)) : TyOf K H (.ref a) (.type "tuple")
  | dK {a : Addr} {kvs : List (Key × V)} (e : H a = some (.dK kvs)) : TyOf K H (.ref a) (.type "dict")
  | dT {a : Addr} {kvs : List (List Key × V)} (e : H a = some (.dT kvs)) : TyOf K H (.ref a) (.type "dict")
  | ins {a C dx : Addr} {fs : List (Str × V)} (e : H a = some (.ins C dx fs)) (cl : Cls K C) (ha : PySem.W.findIn K (.ref C) "__class__" = some (some (.builtin "object.__class__")))
      (hn : PySem.W.specialIn K (.builtin "object.__class__") "__get__" = some (some (.builtin "getset_descriptor.__get__"))) (htk : PySem.W.takesIn K (.builtin "object.__class__") = some true)
      (hm : PySem.W.mroIn K C (.type "object") = some true) : TyOf K H (.ref a) (.ref C)
/-- isinstance(x, c) for one class c, a built-in or an own one: kitOne's answer -/
theorem isinst_ok {x : V} {u t : Value} (I : Inv X pins σ H s) (rx : RelV x u) (ty : TyOf X.K H x t) (e : PySem.W.kitOne X.K t c = some b) (h : ∀ tk, Q (.bool b) { s with toks := tk }) :
    wpAny (model X.prog X.w) A (call (.builtin "isinstance") [u, c]) Q E s := by
  cases ty with
  | non => cases (show u = Value.none from rx); exact PySem.W.kia_one PySem.W.kitx_none I.kIn True.intro e (fun z => nomatch z) h
  | bl y => cases (show u = Value.bool y from rx); exact PySem.W.kia_one PySem.W.kitx_bool I.kIn True.intro e (fun z => nomatch z) h
  | int i => obtain ⟨t, q⟩ := (show ∃ t, u = Value.int i t from rx); cases q; exact PySem.W.kia_one PySem.W.kitx_int I.kIn True.intro e (fun z => nomatch z) h
  | str y => obtain ⟨t, q⟩ := (show ∃ t, u = Value.str y t from rx); cases q; exact PySem.W.kia_one PySem.W.kitx_str I.kIn True.intro e (fun z => nomatch z) h
  | flt y => obtain ⟨t, q⟩ := (show ∃ t, u = Value.float y t from rx); cases q; exact PySem.W.kia_one PySem.W.kitx_float I.kIn True.intro e (fun z => nomatch z) h
  | @lst a xs ea =>
    cases (show u = Value.ref a from rx)
    obtain ⟨_, _, n, _, h1⟩ := (show ObjOk X.prog X.w H s.heap a (.lst xs) from I.hok a _ ea)
    exact PySem.W.kia_one PySem.W.kitx_list I.kIn ⟨_, h1, rfl⟩ e (fun z => nomatch z) h
  | @frz a ob xs ea =>
    cases (show u = Value.ref a from rx)
    obtain ⟨_, _, _, n, _, h1⟩ := (show ObjOk X.prog X.w H s.heap a (.frz ob (.lst xs)) from I.hok a _ ea)
    exact PySem.W.kia_one PySem.W.kitx_list I.kIn ⟨_, h1, rfl⟩ e (fun z => nomatch z) h
  | @tup a xs ea =>
    cases (show u = Value.ref a from rx)
    obtain ⟨_, _, _, p⟩ := (show ObjOk X.prog X.w H s.heap a (.tup xs) from I.hok a _ ea)
    obtain ⟨o, h1, h2, _⟩ := p
    exact PySem.W.kia_one PySem.W.kitx_tuple I.kIn ⟨o, h1, h2⟩ e (fun z => nomatch z) h
  | @dK a kvs ea =>
    cases (show u = Value.ref a from rx)
    obtain ⟨_, _, vs, _, p⟩ := (show ObjOk X.prog X.w H s.heap a (.dK kvs) from I.hok a _ ea)
    obtain ⟨o, es, ep, h1, h2, _⟩ := p
    exact PySem.W.kia_one PySem.W.kitx_dict I.kIn ⟨o, h1, h2.1⟩ e (fun z => nomatch z) h
  | @dT a kvs ea =>
    cases (show u = Value.ref a from rx)
    obtain ⟨_, _, xs, _, o, es, ep, h1, h2, _⟩ := (show ObjOk X.prog X.w H s.heap a (.dT kvs) from I.hok a _ ea)
    exact PySem.W.kia_one PySem.W.kitx_dict I.kIn ⟨o, h1, h2.1⟩ e (fun z => nomatch z) h
  | @ins a C dx fs ea cl ha hn htk hm =>
    cases (show u = Value.ref a from rx)
    obtain ⟨mA, O, _⟩ := ins_get I.hok ea
    obtain ⟨od, J, _⟩ := O.look
    exact PySem.W.kia_one (PySem.W.kitx_own (cl.get _) cl.hd ha hn htk hm) I.kIn J e (fun z => nomatch z) h
end
end L2

namespace L2
open PySem PySem.Spec PyProof.Rows

structure Room (k : Nat) (A : Around) : Prop where
  hd : A.handled = none
  dp : A.depth + 3 * k + 5 < recursionLimit
  un : A.units + 16 * k + 200 < cLine
theorem Room.mono {j k : Nat} {A : Around} (r : Room k A) (h : j ≤ k) : Room j A := ⟨r.hd, by have := r.dp; omega, by have := r.un; omega⟩
theorem Room.deeper {k : Nat} {A : Around} (r : Room (k + 1) A) (env : Env) : Room k (A.deeper env) :=
  ⟨r.hd, by have := r.dp; show A.depth + 1 + 3 * k + 5 < _; omega, by have := r.un; show A.units + 3 + 16 * k + 200 < _; omega⟩
theorem Room.in1 {k : Nat} {A : Around} (r : Room (k + 1) A) : Room k A.in1 :=
  ⟨r.hd, by have := r.dp; show A.depth + 3 * k + 5 < _; omega, by have := r.un; show A.units + 1 + 16 * k + 200 < _; omega⟩
theorem make_depth {A : Around} {C : Addr} {us : List Value} {kw : List (Str × Value)} : (A.under (.builtin "type.__call__" ⟨.ref C :: us, kw⟩)).depth = A.depth + 1 := by
  first | rfl | simp [Around.under, Code.weight, Code.isCreation, Code.isGuard, Code.isCaller, Code.frames, Code.isFrame, guardIds]
theorem make_units {A : Around} {C : Addr} {us : List Value} {kw : List (Str × Value)} : (A.under (.builtin "type.__call__" ⟨.ref C :: us, kw⟩)).units = A.units + 1 := by
  first | rfl | simp [Around.under, Code.cUnits, Code.frames, Code.isFrame]
theorem Room.make {k : Nat} {A : Around} (r : Room (k + 1) A) (C : Addr) (us : List Value) (kw : List (Str × Value)) : Room k (A.under (.builtin "type.__call__" ⟨.ref C :: us, kw⟩)) :=
  ⟨r.hd, by have := r.dp; rw [make_depth]; omega, by have := r.un; rw [make_units]; omega⟩
theorem Room.depth {k : Nat} {A : Around} (r : Room k A) : A.depth < recursionLimit := by have := r.dp; omega
theorem Room.units {k : Nat} {A : Around} (r : Room k A) : A.units + 64 < cLine := by have := r.un; omega

def tNil : TA := fun _ H Q => Q [] H
def tCons (ta : TE) (tr : TA) : TA := fun σ H Q => ta σ H fun x H1 => tr σ H1 fun xs H2 => Q (x :: xs) H2
section
variable {X : Cx} {e : Expr} {es : List Expr} {te : TE} {t : TA} {pos : Pos}
theorem pa_nil : PA X [] tNil := fun _ _ _ _ H Q I h => Calls.spliced_nil ⟨[], H, I, .nil, h⟩
theorem pa_cons (ha : PE X e te) (hr : PA X es t) (hs : starEach (e :: es) X.env = (false, eval e X.env) :: starEach es X.env := by rfl) : PA X (e :: es) (tCons te t) := by
  intro pos pins s σ H Q I h
  rw [hs]
  show wpAny _ _ (spliced ((false, eval e X.env) :: backTo pos (starEach es X.env))) _ _ s
  refine Calls.spliced_cons (thn (ha pins s σ H _ I h) fun u s1 ⟨x, H1, I1, r1, q1⟩ => ?_)
  exact thn (hr pos pins s1 σ H1 _ I1 q1) fun us s2 ⟨xs, H2, I2, r2, q2⟩ => ⟨x :: xs, H2, I2, .cons r1 r2, q2⟩

/-- a tuple, a list of written items -/
def tTup (t : TA) : TE := fun σ H Q => t σ H fun xs H1 => xs.length ≤ sizeLine ∧ ∀ p, H1 p = none → Q (.ref p) (upd H1 p (.tup xs))
def tLst (t : TA) : TE := fun σ H Q => t σ H fun xs H1 => xs.length ≤ sizeLine ∧ ∀ p, H1 p = none → Q (.ref p) (upd H1 p (.lst xs))
theorem pe_tup {x1} (h : PA X es t) : PE X (.Tuple es x1 pos) (tTup t) := by
  intro pins s σ H Q I hq
  refine wpAny_Tuple_spliced (thn (h pos pins s σ H _ I hq) fun us s1 ⟨xs, H1, I1, r, z, q⟩ => ⟨by rw [← r.length]; exact z, ?_⟩)
  have hf : H1 s1.heap.objs.size = none := I1.hok.fresh (Nat.le_refl _)
  refine ⟨.ref s1.heap.objs.size, upd H1 s1.heap.objs.size (.tup xs), I1.laid (t' := s1.toks) (fun b u e => Heap.get?_push_of_some _ e) (Nat.le_refl _) ?_, rfl, q _ hf⟩
  exact ⟨z, us, r, ⟨_, Heap.get?_push_size _ rfl, rfl, _, rfl⟩⟩
theorem pe_lst (h : PA X es t) : PE X (.List es pos) (tLst t) := by
  intro pins s σ H Q I hq
  refine wpAny_List_spliced (thn (h pos pins s σ H _ I hq) fun us s1 ⟨xs, H1, I1, r, z, q⟩ => ⟨by rw [← r.length]; exact z, ?_⟩)
  have hf : H1 s1.heap.objs.size = none := I1.hok.fresh (Nat.le_refl _)
  refine ⟨.ref s1.heap.objs.size, upd H1 s1.heap.objs.size (.lst xs), I1.laid (t' := s1.toks) (fun b u e => Heap.get?_push_of_some _ e) (Nat.le_refl _) ?_, rfl, q _ hf⟩
  exact ⟨z, us, 0, r, Heap.get?_push_size _ rfl⟩
end

/-- a def's promise: the bound arguments in the parameters' order, the heap, the wanted end, the wanted exception -/
abbrev Sp := List V → Hp → VK → XK → Prop
/-- how an exception lies behind a call (file 08 gives it): the callers' frames, abstract heap and state ahead of the call, the wish, the exception, the state -/
abbrev CXT := List Env → Hp → Shared → XK → Value → Shared → Prop

/-- the state at a call -/
structure Env0 (P : Program) (w : World) (K : PySem.W.Frag) (mg : Str → Option Value) (base : Heap) (A : Around) (outer : List Env) (s : Shared) (H : Hp) : Prop where
  frames : A.frames = some outer
  mod : Mod K mg base
  bs : ∀ b o, base.get? b = some o → s.heap.get? b = some o ∧ H b = none
  bsz : base.objs.size ≤ s.heap.objs.size
  funs : s.heap.FunFrames base outer
  frf : ∀ b ∈ frs outer, H b = none
  hok : HOk P w H s.heap
  bare : AllBare s.gens
/-- a call's end -/
def CE (outer : List Env) (P : Program) (w : World) (H : Hp) (s : Shared) (Q : VK) (u : Value) (s' : Shared) : Prop :=
  ∃ v H', s'.os = s.os ∧ AllBare s'.gens ∧ Un (frs outer) [] H H' s.heap s'.heap ∧ HOk P w H' s'.heap ∧ RelV v u ∧ Q v H'
def CR (CX : CXT) (outer : List Env) (P : Program) (w : World) (H : Hp) (s : Shared) (Q : VK) (E : XK) (r : Result) (s' : Shared) : Prop :=
  match r with
  | .ok (.ret u) => CE outer P w H s Q u s'
  | .ok _ => False
  | .error e => CX outer H s E e s'
structure FnOk (P : Program) (w : World) (K : PySem.W.Frag) (mg : Str → Option Value) (base : Heap) (CX : CXT) (k : Nat) (f : Addr) (fd : FuncData) (ps : List Str) (sp : Sp) : Prop where
  len : ∀ vs H Q E, sp vs H Q E → vs.length = ps.length
  run : ∀ (A : Around) (outer : List Env) (s : Shared) (H : Hp) (args : Args) (us : List Value) (vs : List V) (Q : VK) (E : XK), Room k A → Env0 P w K mg base A outer s H → BindsTo s fd args (ps.zip us) → Vals vs us → sp vs H Q E →
    codeAny (model P w) A (.call (.ref f) args) (CR CX outer P w H s Q E) s
theorem FnOk.mono {P : Program} {w : World} {K : PySem.W.Frag} {mg : Str → Option Value} {base : Heap} {CX : CXT} {j k : Nat} {f : Addr} {fd : FuncData} {ps : List Str} {sp : Sp} (F : FnOk P w K mg base CX j f fd ps sp) (h : j ≤ k) :
    FnOk P w K mg base CX k f fd ps sp := ⟨F.len, fun A outer s H args us vs Q E hr => F.run A outer s H args us vs Q E (hr.mono h)⟩
/-- a weaker promise -/
theorem FnOk.imp {P : Program} {w : World} {K : PySem.W.Frag} {mg : Str → Option Value} {base : Heap} {CX : CXT} {k : Nat} {f : Addr} {fd : FuncData} {ps : List Str} {sp sp' : Sp} (F : FnOk P w K mg base CX k f fd ps sp)
    (h : ∀ vs H Q E, sp' vs H Q E → sp vs H Q E) : FnOk P w K mg base CX k f fd ps sp' :=
  ⟨fun vs H Q E q => F.len vs H Q E (h _ _ _ _ q), fun A outer s H args us vs Q E hr he hb hv hs => F.run A outer s H args us vs Q E hr he hb hv (h _ _ _ _ hs)⟩

theorem Env0.make {P : Program} {w : World} {K : PySem.W.Frag} {mg : Str → Option Value} {base : Heap} {A : Around} {outer : List Env} {s : Shared} {H : Hp} (e : Env0 P w K mg base A outer s H) (C : Addr) (us : List Value) (kw : List (Str × Value)) :
    Env0 P w K mg base (A.under (.builtin "type.__call__" ⟨.ref C :: us, kw⟩)) outer s H := ⟨by first | exact e.frames | (simpa [Around.under, Code.envs, Code.isFrame, pushEnvs] using e.frames), e.mod, e.bs, e.bsz, e.funs, e.frf, e.hok, e.bare⟩
theorem Env0.in1 {P : Program} {w : World} {K : PySem.W.Frag} {mg : Str → Option Value} {base : Heap} {A : Around} {outer : List Env} {s : Shared} {H : Hp} (e : Env0 P w K mg base A outer s H) :
    Env0 P w K mg base A.in1 outer s H := ⟨e.frames, e.mod, e.bs, e.bsz, e.funs, e.frf, e.hok, e.bare⟩

section
variable {X : Cx} {pins : List (Addr × Obj)} {σ : St} {H : Hp} {s s' : Shared}
/-- from a body: what a callee wants -/
theorem Inv.env0 (I : Inv X pins σ H s) : Env0 X.prog X.w X.K X.mg X.base X.A X.stack s H :=
  ⟨I.ok.frames, I.ok.mod, I.bs, Nat.le_trans I.ok.bsz I.sz, I.stack, I.stkFree, I.hok, I.bare⟩
/-- behind a call -/
theorem Inv.after {Q : VK} {u : Value} (I : Inv X pins σ H s) (h : CE X.stack X.prog X.w H s Q u s') : EP X pins σ Q u s' := by
  obtain ⟨v, H', os, bare, un, hok, r, q⟩ := h
  obtain ⟨hh, g, d, t, os'⟩ := s'
  obtain rfl : os' = s.os := os
  exact ⟨v, H', I.call (h' := hh) (g' := g) (d' := d) (t' := t) (ch := []) un hok bare (fun b z => absurd z (by simp)), r, q⟩
end

/-- f(..): the written arguments, then the defaults dvs; E: what is wanted of an exception -/
def tCall (sp : Sp) (dvs : List V) (E : XK) (t : TA) : TE := fun σ H Q => t σ H fun vs H1 => sp (vs ++ dvs) H1 Q E
/-- o.m(..) of an instance of the class at C -/
def tMeth (C : Addr) (m : Str) (sp : Sp) (dvs : List V) (E : XK) (ta : TE) (t : TA) : TE := fun σ H Q => ta σ H fun x H1 => ∃ a dx fs, x = .ref a ∧ H1 a = some (.ins C dx fs) ∧ fs.lookup m = none ∧
  t σ H1 fun vs H2 => sp (x :: (vs ++ dvs)) H2 Q E
/-- C(..): a new instance and its dict, then __init__ -/
def tMake (C : Addr) (sp : Sp) (dvs : List V) (E : XK) (t : TA) : TE := fun σ H Q => t σ H fun vs H1 => ∀ x dx, H1 x = none → H1 dx = none → dx ≠ x →
  sp (.ref x :: (vs ++ dvs)) (upd (upd H1 dx (.own x)) x (.ins C dx [])) (fun v H2 => v = .non ∧ Q (.ref x) H2) E

/-- how the parameters are bound: us the positional arguments, kw the keywords' values by name, ds the defaults that fill up -/
def Binds (K : PySem.W.Frag) (fd : FuncData) (ps : List Str) (ds : List Value) : Prop :=
  ∀ (s : Shared) (us : List Value), K.In s.heap → (us ++ ds).length = ps.length → BindsTo s fd ⟨us, []⟩ (ps.zip (us ++ ds))
/-- every parameter is given -/
theorem Binds.all {K : PySem.W.Frag} {fd : FuncData} {ps : List Str} (h : ∀ us : List Value, us.length = ps.length → bindArgs fd ⟨us, []⟩ = pure (ps.zip us)) : Binds K fd ps [] := fun s us _ hl => by
  rw [List.append_nil] at hl ⊢
  exact .of_eq (h us hl)

/-- an exception of a callee reaches what this body wants of exceptions -/
def Passes (CX : CXT) (X : Cx) (E : XK) : Prop := ∀ (pins : List (Addr × Obj)) (σ : St) (H : Hp) (s : Shared) (e : Value) (s' : Shared), Inv X pins σ H s → CX X.stack H s E e s' → X.xe e s'

section
variable {X : Cx} {CX : CXT} {k : Nat} {f C : Addr} {fd : FuncData} {ps : List Str} {sp : Sp} {dvs : List V} {ds : List Value} {E : XK} {x m : Str} {p pos apos : Pos} {e o : Expr} {es : List Expr} {ta : TE} {t : TA}

/-- the callee runs -/
theorem run_fn {pins : List (Addr × Obj)} {σ : St} {H : Hp} {s : Shared} {Q : VK} {us : List Value} {vs : List V} (F : FnOk X.prog X.w X.K X.mg X.base CX k f fd ps sp) (hr : Room k X.A) (hb : Binds X.K fd ps ds) (hd : Vals dvs ds) (hx : Passes CX X E)
    (I : Inv X pins σ H s) (r : Vals vs us) (h : sp (vs ++ dvs) H Q E) : wpAny (model X.prog X.w) X.A (call (.ref f) us) (EP X pins σ Q) X.xe s := by
  have r2 : Vals (vs ++ dvs) (us ++ ds) := r.append hd
  have hl : (us ++ ds).length = ps.length := by rw [← r2.length]; exact F.len _ _ _ _ h
  refine wpAny_call (codeAny_mono (F.run X.A X.stack s H ⟨us, []⟩ (us ++ ds) (vs ++ dvs) Q E hr I.env0 (hb s us I.kIn hl) r2 h) fun r s' hq => ?_)
  cases r with
  | error e => exact hx pins σ H s e s' I hq
  | ok fl =>
    cases fl with
    | ret u => exact I.after hq
    | next => exact False.elim hq
    | brk => exact False.elim hq
    | cont => exact False.elim hq

theorem pe_call (F : FnOk X.prog X.w X.K X.mg X.base CX k f fd ps sp) (hr : Room k X.A) (hg : Gl X x) (hm : X.mg x = some (.ref f)) (hk : PySem.W.keepIn X.K (.ref f) = true) (hb : Binds X.K fd ps ds) (hd : Vals dvs ds) (hx : Passes CX X E)
    (ha : PA X (e :: es) t) (hdb : (x == ("__debug__" : Str)) = false := by decide) (he : starEach (e :: es) X.env = (false, eval e X.env) :: starEach es X.env := by rfl) (hpl : (backTo pos (starEach es X.env)).any (·.1) = false := by rfl) :
    PE X (.Call (.Name x p) (e :: es) [] pos) (tCall sp dvs E t) := by
  intro pins s σ H Q I h
  refine wpAny_Call_Name_kw (ld_glob I hg hm ?_ hdb)
  refine PySem.W.callWith_K (h₀ := X.base) I.ok.mod.kin hk (thn (ha pos pins s σ H _ I h) fun us s1 ⟨vs, H1, I1, r, q⟩ => ⟨I1.kIn, ?_⟩) he hpl
  exact run_fn F hr hb hd hx I1 r q


/-- what a class must have to be made -/
structure Mk (K : PySem.W.Frag) (C f : Addr) : Prop where
  makes : PySem.W.makesIn K C = true
  init : PySem.W.findIn K (.ref C) "__init__" = some (some (.ref f))
  fn : PySem.W.isFn K (.ref f) = true
  kp : PySem.W.keepIn K (.ref C) = true

end

section
variable {X : Cx} {CX : CXT} {k : Nat} {f C : Addr} {fd : FuncData} {ps ks : List Str} {sp : Sp} {E : XK} {x m : Str} {p pos apos kpos : Pos} {e o : Expr} {es : List Expr} {kws : List Keyword} {te ta : TE} {t tk : TA} {nm : Option Str}

/-- how a call with keywords binds: g puts the positional values us and the keywords' values ws (names ks) in the parameters' order, defaults among them -/
structure KBinds (K : PySem.W.Frag) (fd : FuncData) (ps ks : List Str) (g : List Value → List Value → List Value) (gV : List V → List V → List V) : Prop where
  to : ∀ (s : Shared) (us ws : List Value), K.In s.heap → (g us ws).length = ps.length → BindsTo s fd ⟨us, ks.zip ws⟩ (ps.zip (g us ws))
  rel : ∀ {vs : List V} {us : List Value} {zs : List V} {ws : List Value}, Vals vs us → Vals zs ws → Vals (gV vs zs) (g us ws)
variable {g : List Value → List Value → List Value} {gV : List V → List V → List V}
end

/-- names: the parameters first -/
structure FnScope (N P : List Str) (sc : Scope) : Prop where
  kind : sc.kind = .function
  co : sc.isCoroutine = false
  gen : sc.isGenerator = false
  nd : N.Nodup
  pre : N.take P.length = P
  par : ∀ x ∈ P, sc.names.lookup x = some .local ∨ sc.names.lookup x = some .cell
  nofree : ∀ y ∈ sc.names, y.2 ≠ .free

theorem bindL_out {kindOf : Str → Option NameKind} {x : Str} : ∀ {binds : List (Str × Value)} {m : Str → Option Value}, (∀ v, (x, v) ∉ binds) → bindL kindOf binds m x = m x
  | [], _, _ => rfl
  | (n, v) :: r, m, h => by
    unfold bindL
    rw [bindL_out fun w hw => h w (List.mem_cons_of_mem _ hw)]
    split
    · have : x ≠ n := by rintro rfl; exact h v List.mem_cons_self
      simp [this]
    · rfl
theorem bindC_out {kindOf : Str → Option NameKind} {x : Str} : ∀ {binds : List (Str × Value)} {m : Str → Option Value}, (∀ v, (x, v) ∉ binds) → bindC kindOf binds m x = m x
  | [], _, _ => rfl
  | (n, v) :: r, m, h => by
    unfold bindC
    rw [bindC_out fun w hw => h w (List.mem_cons_of_mem _ hw)]
    split
    · rfl
    · have : x ≠ n := by rintro rfl; exact h v List.mem_cons_self
      simp [this]
theorem bindL_get {kindOf : Str → Option NameKind} {x : Str} {v : Value} : ∀ {P : List Str} {vs : List Value} {i : Nat} {m : Str → Option Value}, P.Nodup → P[i]? = some x → vs[i]? = some v → kindOf x = some .local →
    bindL kindOf (P.zip vs) m x = some v
  | [], _, _, _, _, h, _, _ => by simp at h
  | _ :: _, [], _, _, _, _, h, _ => by simp at h
  | p :: P, w :: vs, 0, m, nd, h1, h2, hk => by
    simp at h1 h2; subst h1; subst h2
    show bindL kindOf ((p, w) :: P.zip vs) m p = _
    unfold bindL
    rw [bindL_out fun v hv => (List.nodup_cons.mp nd).1 (List.of_mem_zip hv).1, if_pos hk]
    simp
  | p :: P, w :: vs, i + 1, m, nd, h1, h2, hk => by
    show bindL kindOf ((p, w) :: P.zip vs) m x = _
    unfold bindL
    exact bindL_get (i := i) (List.nodup_cons.mp nd).2 (by simpa using h1) (by simpa using h2) hk
theorem bindC_get {kindOf : Str → Option NameKind} {x : Str} {v : Value} : ∀ {P : List Str} {vs : List Value} {i : Nat} {m : Str → Option Value}, P.Nodup → P[i]? = some x → vs[i]? = some v → kindOf x ≠ some .local →
    bindC kindOf (P.zip vs) m x = some v
  | [], _, _, _, _, h, _, _ => by simp at h
  | _ :: _, [], _, _, _, _, h, _ => by simp at h
  | p :: P, w :: vs, 0, m, nd, h1, h2, hk => by
    simp at h1 h2; subst h1; subst h2
    show bindC kindOf ((p, w) :: P.zip vs) m p = _
    unfold bindC
    rw [bindC_out fun v hv => (List.nodup_cons.mp nd).1 (List.of_mem_zip hv).1, if_neg hk]
    simp
  | p :: P, w :: vs, i + 1, m, nd, h1, h2, hk => by
    show bindC kindOf ((p, w) :: P.zip vs) m x = _
    unfold bindC
    exact bindC_get (i := i) (List.nodup_cons.mp nd).2 (by simpa using h1) (by simpa using h2) hk

/-- the names' values at the entry -/
def start (N : List Str) (vs : List V) : St := vs.map some ++ List.replicate (N.length - vs.length) none

/-- the context of a def's body, at its entry; an exception leaves the frame, then lies as CX says -/
def cxOf (CX : CXT) (P : Program) (w : World) (K : PySem.W.Frag) (mg : Str → Option Value) (base : Heap) (N : List Str) (qual : Str) (scope : Scope) (f : Addr) (cd : Value) (A : Around) (outer : List Env) (s : Shared) (H : Hp) (E : XK) : Cx where
  prog := P
  w := w
  K := K
  mg := mg
  base := base
  A := A.deeper (envOfC qual scope s.heap.objs.size f cd)
  N := N
  s₀ := s
  H₀ := H
  env := envOfC qual scope s.heap.objs.size f cd
  outer := outer
  stack := envOfC qual scope s.heap.objs.size f cd :: outer
  ex := []
  calm := true
  fn := fun _ => true
  pn := []
  xe := fun e s' => wpAny (model P w) (A.deeper (envOfC qual scope s.heap.objs.size f cd)) (leaving (envOfC qual scope s.heap.objs.size f cd) e) (fun _ s'' => CX outer H s E e s'') (fun e' s'' => CX outer H s E e' s'') s'

theorem cell_has {sc : Scope} {n : Nat} {x : Str} (h : sc.names.lookup x = some .cell) : ∃ c, (cellsFrom n sc.names []).lookup x = some c := by
  have q := PySem.W.cellsFrom_some sc.names n [] (.inl h)
  exact Option.isSome_iff_exists.mp q

theorem inv_start {CX : CXT} {P : Program} {w : World} {K : PySem.W.Frag} {mg : Str → Option Value} {base : Heap} {N ps : List Str} {qual : Str} {scope : Scope} {f : Addr} {cd : Value} {A : Around} {outer : List Env} {s s1 : Shared} {H : Hp} {E : XK} {us : List Value} {vs : List V}
    (S : FnScope N ps scope) (hd : A.handled = none) (e0 : Env0 P w K mg base A outer s H) (hl : vs.length = ps.length) (r : Vals vs us)
    (x : InCallC s s.heap.objs.size (bindL (envOfC qual scope s.heap.objs.size f cd).kindOf (ps.zip us) fun _ => none) (cellsFrom (s.heap.objs.size + 1) scope.names []) (bindC (envOfC qual scope s.heap.objs.size f cd).kindOf (ps.zip us) fun _ => none) s1) :
    Inv (cxOf CX P w K mg base N qual scope f cd A outer s H E) [] (start N vs) H s1 := by
  have hpl : ps.length ≤ N.length := by have := congrArg List.length S.pre; rw [List.length_take] at this; omega
  obtain ⟨h1, tk, rfl, hk⟩ := x.done
  have noA : ∀ b : Addr, b ∉ (cxOf CX P w K mg base N qual scope f cd A outer s H E).ex := fun b z => absurd (show b ∈ ([] : List Addr) from z) (by simp)
  refine ⟨⟨e0.mod, S.kind, rfl, rfl, Nat.le_refl _, fun y z c h1 h2 => ?_, fun y hy => ?_, fun y c _ h => ?_, fun _ => hd, Around.frames_deeper e0.frames, .inr ⟨rfl, rfl⟩, fun b z => absurd z (noA b), e0.bs, e0.bsz, fun b _ _ => noA b, fun b z => absurd z (noA b), e0.funs, e0.frf⟩,
    rfl, e0.bare, Un.kept hk, ⟨_, x.toInCall.ns, fun i y v h1 h2 h3 => ?_⟩, fun y c h => ⟨_, x.cell y c h⟩, e0.hok.fresh (Nat.le_refl _), fun y c h => ?_, fun p hp => absurd (show p ∈ ([] : List (Addr × Obj)) from hp) (by simp), e0.hok.kept hk, ?_⟩
  · exact name_of_addr x.apart (PySem.mem_of_lookup h1) (PySem.mem_of_lookup h2)
  · have hy : scope.names.lookup y = some .cell ∨ scope.names.lookup y = some .free := hy
    rcases hy with hy | hy
    · exact cell_has hy
    · exact absurd rfl (S.nofree _ (PySem.mem_of_lookup hy))
  · exact Nat.le_of_lt (x.above y c (PySem.mem_of_lookup h))
  · have hi : i < vs.length := by
      unfold start at h2
      by_cases hi : i < vs.length
      · exact hi
      · rw [List.getElem?_append_right (by simpa using hi)] at h2
        rw [List.getElem?_replicate] at h2
        split at h2 <;> cases h2
    have ha : vs[i]? = some v := by
      unfold start at h2
      rw [List.getElem?_append_left (by simpa using hi), List.getElem?_map] at h2
      cases e : vs[i]? with
      | none => rw [e] at h2; cases h2
      | some a => rw [e] at h2; cases h2; rfl
    obtain ⟨u, hu, rv⟩ := r.get ha
    have hp : ps[i]? = some y := by
      rw [← S.pre, List.getElem?_take_of_lt (by omega)]; exact h1
    have ndP : ps.Nodup := by rw [← S.pre]; exact S.nd.sublist (List.take_sublist _ _)
    refine ⟨u, rv, ?_⟩
    rcases S.par y (List.mem_of_getElem? hp) with k | k
    · exact .inl ⟨k, bindL_get ndP hp hu k⟩
    · obtain ⟨c, e⟩ := cell_has (n := s.heap.objs.size + 1) k
      refine .inr ⟨.inl k, c, e, ?_⟩
      have q := x.cell y c e
      rw [bindC_get ndP hp hu (by show scope.names.lookup y ≠ _; rw [k]; decide)] at q
      exact q
  · exact e0.hok.fresh (Nat.le_of_lt (x.above y c (PySem.mem_of_lookup h)))
  · unfold start
    show _ = N.length
    rw [List.length_append, List.length_map, List.length_replicate]
    omega

/-- THE RULE: a def (or a method) of the text, by its body. The body's reading t is chosen for each entry; it is run at the parameters' values -/
theorem fn_of {CX : CXT} {P : Program} {w : World} {K : PySem.W.Frag} {mg : Str → Option Value} {base : Heap} {k : Nat} {f : Addr} {name qual : Str} {params : Arguments} {body : List Stmt} {scope : Scope} {dV kV doc pm cdv ct oc : Value} {an od : Option Addr}
    {osl : Array (Option Value)} {N ps : List Str} {sp : Sp} (lk : K.lookup f = some ⟨oc, od, .func (PySem.W.fnOf name qual params body scope dV kV doc pm an cdv ct), osl⟩) (hcd : PySem.W.codeIn K cdv qual = true) (S : FnScope N ps scope)
    (len : ∀ vs H Q E, sp vs H Q E → vs.length = ps.length)
    (hbody : ∀ (A : Around) (outer : List Env) (s : Shared) (H : Hp) (vs : List V) (Q : VK) (E : XK), Room k (A.deeper (envOfC qual scope s.heap.objs.size f cdv)) → sp vs H Q E →
      ∃ t, PSs (cxOf CX P w K mg base N qual scope f cdv A outer s H E) body t ∧ t { nx := fun _ H' => Q .non H', rt := Q } (start N vs) H) :
    FnOk P w K mg base CX (k + 1) f (PySem.W.fnOf name qual params body scope dV kV doc pm an cdv ct) ps sp := by
  refine ⟨len, fun A outer s H args us vs Q E hr e0 hb r hsp => ?_⟩
  have hl := len _ _ _ _ hsp
  have KX : K.In s.heap := e0.mod.kin.keeps fun b o e => (e0.bs b o e).1
  have lim : s.heap.NoLimit := e0.mod.nolimit.keeps fun b o e => (e0.bs b o e).1
  have hkind : ∀ y ∈ ps.zip us, scope.names.lookup y.1 = some .local ∨ (scope.names.lookup y.1 = some .cell ∧ ((cellsFrom (s.heap.objs.size + 1) scope.names []).lookup y.1).isSome = true) := fun ⟨n, v⟩ hy => by
    rcases S.par n (List.of_mem_zip hy).1 with q | q
    · exact .inl q
    · exact .inr ⟨q, PySem.W.cellsFrom_some _ _ _ (.inl q)⟩
  refine codeAny_call_function hr.depth (KX _ _ lk) rfl S.co S.gen rfl (PySem.W.codeRec_of KX hcd) (hb _ _ _ _ ?_)
  refine wpAny_newFunctionEnv_cells S.kind hkind fun env he s1 x => ?_
  subst he
  refine ⟨lim.keeps x.toInCall.keep, codeAny_func ?_⟩
  obtain ⟨t, ht, hq⟩ := hbody A outer s H vs Q E (hr.deeper _) hsp
  have I : Inv (cxOf CX P w K mg base N qual scope f cdv A outer s H E) [] (start N vs) H s1 := inv_start S hr.hd e0 hl r x
  refine wpAny_mono (ht [] s1 (start N vs) H _ I hq) (fun fl s' hs => ?_) fun e s' hs => hs
  have fin : ∀ {σ' : St} {H' : Hp} {v : V} {u : Value}, Inv (cxOf CX P w K mg base N qual scope f cdv A outer s H E) [] σ' H' s' → RelV v u → Q v H' → CE outer P w H s Q u s' :=
    fun {σ' H' v u} J rv q => ⟨v, H', J.os, J.bare, J.base, J.hok, rv, q⟩
  cases fl with
  | ret u =>
    obtain ⟨v, σ', H', J, rv, q⟩ := hs
    exact fin J rv q
  | next =>
    obtain ⟨σ', H', J, q⟩ := hs
    exact fin (v := V.non) (u := Value.none) J rfl q
  | brk =>
    obtain ⟨_, _, _, q⟩ := hs
    exact False.elim q
  | cont =>
    obtain ⟨_, _, _, q⟩ := hs
    exact False.elim q
end L2

namespace L2
open PySem PySem.Spec PyProof.Rows
section
variable {X : Cx} {x : Str} {p pos : Pos} {e : Expr} {es : List Expr} {t : TA} {id T : String} {r : List V → Hp → VK → Prop}

def tCB (r : List V → Hp → VK → Prop) (t : TA) : TE := fun σ H Q => t σ H fun vs H1 => r vs H1 Q
/-- f(e, ..), f a built-in function -/
theorem pe_callB (hc : CallR X (.builtin id) r) (hg : Gl X x) (hm : X.mg x = none) (hv : bootBuiltins x = some (.builtin id)) (ha : PA X (e :: es) t) (hn : x ≠ "__name__" := by decide) (hdb : (x == ("__debug__" : Str)) = false := by decide)
    (he : starEach (e :: es) X.env = (false, eval e X.env) :: starEach es X.env := by rfl) (hpl : (backTo pos (starEach es X.env)).any (·.1) = false := by rfl) : PE X (.Call (.Name x p) (e :: es) [] pos) (tCB r t) := by
  intro pins s σ H Q I h
  refine wpAny_Call_Name_kw (ld_blt I hg hm hv ?_ hn hdb)
  exact PyProof.Rows.callWith_builtin1 (thn (ha pos pins s σ H _ I h) fun us s1 ⟨vs, H1, I1, r1, q1⟩ => hc pins s1 σ H1 vs us Q I1 r1 q1) he hpl
/-- T(e, ..), T a built-in type -/
theorem pe_callTy (hc : CallR X (.type T) r) (hg : Gl X x) (hm : X.mg x = none) (hv : bootBuiltins x = some (.type T)) (ha : PA X (e :: es) t) (hn : x ≠ "__name__" := by decide) (hdb : (x == ("__debug__" : Str)) = false := by decide)
    (he : starEach (e :: es) X.env = (false, eval e X.env) :: starEach es X.env := by rfl) (hpl : (backTo pos (starEach es X.env)).any (·.1) = false := by rfl) : PE X (.Call (.Name x p) (e :: es) [] pos) (tCB r t) := by
  intro pins s σ H Q I h
  refine wpAny_Call_Name_kw (ld_blt I hg hm hv ?_ hn hdb)
  exact PyProof.Rows.callWith_type1 (thn (ha pos pins s σ H _ I h) fun us s1 ⟨vs, H1, I1, r1, q1⟩ => hc pins s1 σ H1 vs us Q I1 r1 q1) he hpl
end
end L2

namespace HT
open PySem PyProof.Rows

/-- t < u of tuples of ints -/
def lexLt : List Int → List Int → Bool
  | [], [] => false
  | [], _ :: _ => true
  | _ :: _, [] => false
  | x :: xs, y :: ys => if x = y then lexLt xs ys else decide (x < y)
theorem lexLt_cons (x y : Int) (xs ys : List Int) : lexLt (x :: xs) (y :: ys) = if x = y then lexLt xs ys else decide (x < y) := rfl


section
open PySem.SeqAt
open PySem.AutoSeq1 (wpAny_loadPart')
open PySem.MeetsSeq PySem.MeetsSeq2 PySem.MeetsSeq3

end

section
variable {prog : Program} {w : World} {A : Around} {E : Value → Shared → Prop} {s : Shared}



/-- a slice's bound as a place among n (d where it is left out) -/
def sIx (n d : Nat) : Option Int → Nat
  | none => d
  | some v => if v < 0 then (v + (n : Int)).toNat else min v.toNat n
theorem sIx_nat (n d k : Nat) : sIx n d (some (k : Int)) = min k n := by
  show (if (k : Int) < 0 then ((k : Int) + (n : Int)).toNat else min (k : Int).toNat n) = min k n
  rw [if_neg (by omega), Int.toNat_natCast]

end
end HT

namespace L2
open PySem PySem.Spec PyProof.Rows

abbrev TO := St → Hp → (Option Int → Hp → Prop) → Prop
/-- a slice's part (left out, or an int) -/
def PO (X : Cx) (e : Option Expr) (t : TO) : Prop :=
  ∀ (pins : List (Addr × Obj)) (s : Shared) (σ : St) (H : Hp) (Q : Option Int → Hp → Prop), Inv X pins σ H s → t σ H Q →
    wpAny (model X.prog X.w) X.A (evalPart e X.env) (fun u s' => ∃ o H', Inv X pins σ H' s' ∧ IsPart u o ∧ Q o H') X.xe s
def tNoPart : TO := fun _ H Q => Q none H
def tPart (t : TE) : TO := fun σ H Q => t σ H fun x H1 => ∃ i, x = .int i ∧ Q (some i) H1


section
variable {X : Cx} {e : Expr} {te : TE} {lo hi : Option Expr} {tl th : TO} {pos p2 : Pos}

theorem po_none : PO X none tNoPart := by
  intro pins s σ H Q I h
  rw [evalPart_none]
  exact wpAny_pure ⟨none, H, I, .none, h⟩
theorem po_some (h : PE X e te) : PO X (some e) (tPart te) := by
  intro pins s σ H Q I hw
  rw [evalPart_some]
  refine thn (h pins s σ H _ I hw) fun u s1 ⟨x, H1, I1, r1, q1⟩ => ?_
  obtain ⟨i, rfl, q⟩ := q1
  obtain ⟨t, rfl⟩ := r1
  exact ⟨some i, H1, I1, .int i t, q⟩

/-- what a slice of a value is, by values: the slice object stands at sl -/
def SlR (X : Cx) (r : V → Option Int → Option Int → Hp → VK → Prop) : Prop :=
  ∀ (pins : List (Addr × Obj)) (s : Shared) (σ : St) (H : Hp) (x : V) (v vl vu : Value) (lo hi : Option Int) (sl : Addr) (Q : VK), Inv X pins σ H s → RelV x v → s.heap.IsSliceOf sl vl vu .none → IsPart vl lo → IsPart vu hi → r x lo hi H Q →
    ∃ T id, typeLookup (.type T) "__getitem__" = pure (some (.builtin id)) ∧ s.TypeIs v T ∧ wpAny (model X.prog X.w) X.A (getItem v (.ref sl)) (EP X pins σ Q) X.xe s
theorem SlR.or {r r' : V → Option Int → Option Int → Hp → VK → Prop} (h : SlR X r) (h' : SlR X r') : SlR X (fun x lo hi H Q => r x lo hi H Q ∨ r' x lo hi H Q) := by
  intro pins s σ H x v vl vu lo hi sl Q I rx hs pl pu q
  rcases q with q | q
  · exact h pins s σ H x v vl vu lo hi sl Q I rx hs pl pu q
  · exact h' pins s σ H x v vl vu lo hi sl Q I rx hs pl pu q
def tSl (r : V → Option Int → Option Int → Hp → VK → Prop) (te : TE) (tl th : TO) : TE := fun σ H Q => te σ H fun x H1 => tl σ H1 fun l H2 => th σ H2 fun u H3 => r x l u H3 Q
/-- a[lo:hi], any a -/
theorem pe_slice {r : V → Option Int → Option Int → Hp → VK → Prop} (hr : SlR X r) (he : PE X e te) (hl : PO X lo tl) (hu : PO X hi th) : PE X (.Subscript e (.Slice lo hi none p2) pos) (tSl r te tl th) := by
  intro pins s σ H Q I h
  refine Subscript_ (thn (he pins s σ H _ I h) fun v s1 ⟨x, H1, I1, r1, q1⟩ => ?_)
  refine wpAny_Slice (thn (hl pins s1 σ H1 _ I1 q1) fun vl s2 ⟨l, H2, I2, pl, q2⟩ => thn (hu pins s2 σ H2 _ I2 q2) fun vu s3 ⟨u, H3, I3, pu, q3⟩ => ?_)
  rw [evalPart_none]
  refine wpAny_pure ?_
  have I4 : Inv X pins σ H3 { s3 with heap := s3.heap.push { cls := .type "slice", data := .fields #[vl, vu, .none] } } := I3.kept (t' := s3.toks) fun b ob q => Heap.get?_push_of_some _ q
  obtain ⟨T, id, hT, ht, hg⟩ := hr pins { s3 with heap := s3.heap.push { cls := .type "slice", data := .fields #[vl, vu, .none] } } σ H3 x v vl vu l u s3.heap.objs.size Q I4 r1 (Heap.IsSliceOf.new ..) pl pu q3
  show wpAny (model X.prog X.w) X.A (subscriptTail e (.Slice lo hi none p2) v (.ref s3.heap.objs.size)) (EP X pins σ Q) X.xe { s3 with heap := s3.heap.push { cls := .type "slice", data := .fields #[vl, vu, .none] } }
  exact tail_any (ops := [.ref s3.heap.objs.size, v]) ht hT hg (by with_unfolding_all rfl)

/-- the items of xs[lo:hi] -/
def cutV (xs : List V) (lo hi : Option Int) : List V := (xs.drop (HT.sIx xs.length 0 lo)).take (HT.sIx xs.length xs.length hi - HT.sIx xs.length 0 lo)
theorem cutV_length (xs : List V) (lo hi : Option Int) : (cutV xs lo hi).length ≤ xs.length := by
  unfold cutV
  rw [List.length_take, List.length_drop]
  omega

end
end L2

namespace L2
open PySem PySem.Spec PyProof.Rows

/-- the place that an index of any sign means -/
def ixN (n : Nat) (i : Int) : Option Nat := if 0 ≤ i then (if i < n then some i.toNat else none) else if -(n : Int) ≤ i then some (i + n).toNat else none
def atI {α : Type} (xs : List α) (i : Int) : Option α := (ixN xs.length i).bind fun j => xs[j]?
theorem ixN_seq {n : Nat} {i : Int} {j : Nat} (h : ixN n i = some j) : seqIndex? i n = some j ∧ j < n ∧ -(n : Int) ≤ i ∧ i < n := by
  unfold ixN at h
  by_cases h0 : 0 ≤ i
  · rw [if_pos h0] at h
    by_cases h1 : i < n
    · rw [if_pos h1] at h
      have e : i.toNat = j := Option.some.inj h
      exact ⟨by rw [seqIndex_of h0 h1, e], by omega, by omega, h1⟩
    · rw [if_neg h1] at h; cases h
  · rw [if_neg h0] at h
    by_cases h1 : -(n : Int) ≤ i
    · rw [if_pos h1] at h
      have e : (i + n).toNat = j := Option.some.inj h
      exact ⟨by rw [seqIndex_neg (by omega) h1, e], by omega, h1, by omega⟩
    · rw [if_neg h1] at h; cases h
theorem atI_get {α : Type} {xs : List α} {i : Int} {v : α} (h : atI xs i = some v) : ∃ j, seqIndex? i xs.length = some j ∧ xs[j]? = some v ∧ j < xs.length ∧ -(xs.length : Int) ≤ i ∧ i < xs.length := by
  unfold atI at h
  cases e : ixN xs.length i with
  | none => rw [e] at h; cases h
  | some j =>
    rw [e] at h
    obtain ⟨h1, h2, h3, h4⟩ := ixN_seq e
    exact ⟨j, h1, h, h2, h3, h4⟩
theorem atI_nat {α : Type} {xs : List α} {j : Nat} {v : α} (h : xs[j]? = some v) : atI xs (j : Int) = some v := by
  have hj : j < xs.length := (List.getElem?_eq_some_iff.mp h).1
  have e : ixN xs.length (j : Int) = some j := by
    unfold ixN
    rw [if_pos (by omega), if_pos (by omega)]; simp
  unfold atI; rw [e]; exact h

/-- what stands as an index of a plain subscript -/
def PlainIx (b : Expr) : Prop := ∀ o i, subscripted b false o i = operate [o, i] (getItem o i)
/-- a subscript by values -/
def IxR (X : Cx) (r : R2) : Prop :=
  ∀ (value slice : Expr) (pins : List (Addr × Obj)) (s : Shared) (σ : St) (H : Hp) (x y : V) (v u : Value) (Q : VK), Inv X pins σ H s → RelV x v → RelV y u → r x y H Q →
    subscripted slice false v u = operate [v, u] (getItem v u) → wpAny (model X.prog X.w) X.A (subscriptTail value slice v u) (EP X pins σ Q) X.xe s
/-- a call of a builtin's method by values: the receiver, the arguments -/
def MtR (X : Cx) (id : String) (r : V → List V → Hp → VK → Prop) : Prop :=
  ∀ (pins : List (Addr × Obj)) (s : Shared) (σ : St) (H : Hp) (x : V) (xs : List V) (v : Value) (us : List Value) (Q : VK), Inv X pins σ H s → RelV x v → Vals xs us → r x xs H Q →
    wpAny (model X.prog X.w) X.A (call (.builtin id) (v :: us)) (EP X pins σ Q) X.xe s
section
variable {X : Cx} {a b : Expr} {ta tb : TE} {pos : Pos}
theorem IxR.or {r r' : R2} (h : IxR X r) (h' : IxR X r') : IxR X (fun x y H Q => r x y H Q ∨ r' x y H Q) := by
  intro value slice pins s σ H x y v u Q I rx ry q hs
  rcases q with q | q
  · exact h value slice pins s σ H x y v u Q I rx ry q hs
  · exact h' value slice pins s σ H x y v u Q I rx ry q hs
theorem MtR.or {id : String} {r r' : V → List V → Hp → VK → Prop} (h : MtR X id r) (h' : MtR X id r') : MtR X id (fun x xs H Q => r x xs H Q ∨ r' x xs H Q) := by
  intro pins s σ H x xs v us Q I rx rs q
  rcases q with q | q
  · exact h pins s σ H x xs v us Q I rx rs q
  · exact h' pins s σ H x xs v us Q I rx rs q
/-- a[b] -/
theorem pe_ix {r : R2} (hr : IxR X r) (ha : PE X a ta) (hb : PE X b tb) (hs : PlainIx b) : PE X (.Subscript a b pos) (tOp r ta tb) := by
  intro pins s σ H Q I h
  exact Subscript_ (binT ha hb I h fun v u s2 x y H2 I2 rx ry q => hr a b pins s2 σ H2 x y v u Q I2 rx ry q (hs _ _))

def rIxL (K : PySem.W.Frag) : R2 := fun x y H Q => ∃ p xs i v, x = .ref p ∧ y = .int i ∧ SqL K H p xs ∧ atI xs i = some v ∧ Q v H
def rIxT (K : PySem.W.Frag) : R2 := fun x y H Q => ∃ p xs i v, x = .ref p ∧ y = .int i ∧ SqT K H p xs ∧ atI xs i = some v ∧ Q v H
theorem ix_list : IxR X (rIxL X.K) := by
  intro value slice pins s σ H x y v u Q I rx ry h hs
  obtain ⟨p, xs, i, z, rfl, rfl, hq, he, q⟩ := h
  cases rx
  obtain ⟨t, rfl⟩ := ry
  obtain ⟨its, r, pl, hz⟩ := I.list hq
  obtain ⟨j, h1, h2, h3, h4, h5⟩ := atI_get he
  obtain ⟨w, ew, rw'⟩ := r.get h2
  have hl := r.length
  have hn := line63
  have fin : EP X pins σ Q w s := ⟨z, H, I, rw', q⟩
  by_cases h0 : 0 ≤ i
  · have hj : i.toNat = j := by
      rw [seqIndex_of h0 h5] at h1
      exact Option.some.inj h1
    exact item_listR pl.isList h0 (by omega) (by rw [hj]; simpa using ew) fin hs
  · have hj : (i + (its.toArray.size : Int)).toNat = j := by
      rw [seqIndex_neg (by omega) h4] at h1
      rw [List.size_toArray, ← hl]
      exact Option.some.inj h1
    exact subscriptTail_builtinR (x := w) pl.isList.typeIs slot_list_getitem.lookup
      (wpAny_getItem_list_neg (Q := fun r s' => r = w ∧ EP X pins σ Q r s') pl.isList (by omega) (by rw [List.size_toArray] <;> omega) (by omega) (by rw [hj]; simpa using ew) ⟨rfl, fin⟩) hs
theorem ix_tup : IxR X (rIxT X.K) := by
  intro value slice pins s σ H x y v u Q I rx ry h hs
  obtain ⟨p, xs, i, z, rfl, rfl, hq, he, q⟩ := h
  cases rx
  obtain ⟨t, rfl⟩ := ry
  obtain ⟨its, r, pl, hz⟩ := I.tuple hq
  obtain ⟨j, h1, h2, h3, h4, h5⟩ := atI_get he
  obtain ⟨w, ew, rw'⟩ := r.get h2
  have hl := r.length
  have hn := line63
  have fin : EP X pins σ Q w s := ⟨z, H, I, rw', q⟩
  exact subscriptTail_builtinR (x := w) pl.typeIs slot_tuple_getitem.lookup
    (getItem_tuple (j := j) (Q := fun r s' => r = w ∧ EP X pins σ Q r s') pl (by omega) (by omega) (by rw [List.size_toArray, ← hl]; exact h1) (by simpa using ew) ⟨rfl, fin⟩) hs

/-- the list's object behind a store -/
theorem Inv.lst {pins : List (Addr × Obj)} {σ : St} {H : Hp} {s : Shared} {p : Addr} {xs : List V} (I : Inv X pins σ H s) (h : H p = some (.lst xs)) :
    ∃ (its : List Value) (n : Nat), Vals xs its ∧ s.heap.get? p = some { cls := .type "list", data := .seq its.toArray n } ∧ xs.length ≤ sizeLine := by
  obtain ⟨z, its, n, r, e⟩ := I.hok p _ h
  exact ⟨its, n, r, e, z⟩

theorem slice_bounds (lo hi : Option Int) (n : Nat) : (sliceBounds lo hi none n).1 = ((HT.sIx n 0 lo : Nat) : Int) ∧ (sliceBounds lo hi none n).2.1 = ((HT.sIx n n hi : Nat) : Int) ∧ (sliceBounds lo hi none n).2.2 = 1 := by
  refine ⟨?_, ?_, rfl⟩
  · cases lo with
    | none => simp [sliceBounds, HT.sIx]
    | some i =>
      simp only [sliceBounds, HT.sIx, Option.getD_none, show (1 : Int) > 0 by decide, if_true]
      by_cases h : i < 0
      · simp only [h, if_true] <;> omega
      · simp only [h, if_false] <;> omega
  · cases hi with
    | none => simp [sliceBounds, HT.sIx]
    | some i =>
      simp only [sliceBounds, HT.sIx, Option.getD_none, show (1 : Int) > 0 by decide, if_true]
      by_cases h : i < 0
      · simp only [h, if_true] <;> omega
      · simp only [h, if_false] <;> omega
theorem slicePick_cut (its : List Value) (lo hi : Option Int) : slicePick its.toArray lo hi none = ((its.drop (HT.sIx its.length 0 lo)).take (HT.sIx its.length its.length hi - HT.sIx its.length 0 lo)).toArray := by
  obtain ⟨h1, h2, h3⟩ := slice_bounds lo hi its.toArray.size
  unfold slicePick
  rw [h1, h2, h3]
  simp only [sliceRange_one, pick_run, List.size_toArray] <;> rfl
/-- xs[lo:hi] of a list: a new list -/
def rSlL (K : PySem.W.Frag) : V → Option Int → Option Int → Hp → VK → Prop := fun x lo hi H Q => ∃ a xs, x = .ref a ∧ SqL K H a xs ∧ ∀ p, H p = none → Q (.ref p) (upd H p (.lst (cutV xs lo hi)))
theorem sl_list : SlR X (rSlL X.K) := by
  intro pins s σ H x v vl vu lo hi sl Q I rx hs pl pu h
  obtain ⟨a, xs, rfl, hx, q⟩ := h
  cases rx
  obtain ⟨its, r, ht, hz⟩ := I.list hx
  have hlen := r.length
  refine ⟨"list", _, slot_list_getitem.lookup, ht.isList.typeIs, ?_⟩
  refine wpAny_getItem_list_slice ht.isList hs pl pu .none (by simp) ?_ (by rw [List.size_toArray] <;> omega)
  rw [slicePick_cut, ← hlen]
  refine ⟨.ref s.heap.objs.size, _, I.laid (t' := s.toks) (o := .lst (cutV xs lo hi)) (fun b ob q => Heap.get?_push_of_some _ q) (Nat.le_refl _) ?_, rfl, q _ (I.hok.fresh (Nat.le_refl _))⟩
  exact ⟨Nat.le_trans (cutV_length xs lo hi) hz, _, 0, (r.drop (HT.sIx xs.length 0 lo)).take (HT.sIx xs.length xs.length hi - HT.sIx xs.length 0 lo), Heap.get?_push_size _ rfl⟩

def flatV : V → Bool
  | .non => true
  | .bl _ => true
  | .int _ => true
  | .str _ => true
  | _ => false
/-- == of flat values -/
def eqV : V → V → Bool
  | .non, .non => true
  | .bl a, .bl b => a == b
  | .bl a, .int b => (if a then 1 else 0) == b
  | .int a, .bl b => a == (if b then 1 else 0)
  | .int a, .int b => a == b
  | .str a, .str b => a == b
  | _, _ => false
theorem eqAt_V {A : Around} {s : Shared} {y x : V} {u v : Value} (ry : RelV y u) (rx : RelV x v) (fy : flatV y = true) (fx : flatV x = true) : SeqAt.EqAt A s u v (eqV y x) := by
  cases y with
  | non =>
    cases ry
    cases x with
    | non => cases rx; exact SeqAt.EqAt.same _
    | bl b => cases rx; exact SeqAt.EqAt.none_bool b
    | int b => obtain ⟨t, rfl⟩ := rx; exact SeqAt.EqAt.none_int b t
    | str b => obtain ⟨t, rfl⟩ := rx; exact SeqAt.EqAt.none_str b t
    | _ => exact absurd (show false = true from fx) Bool.false_ne_true
  | bl a =>
    cases ry
    cases x with
    | non => cases rx; exact SeqAt.EqAt.bool_none a
    | bl b => cases rx; exact SeqAt.EqAt.bool_bool a b
    | int b => obtain ⟨t, rfl⟩ := rx; exact SeqAt.EqAt.bool_int a b t
    | str b => obtain ⟨t, rfl⟩ := rx; exact SeqAt.EqAt.bool_str a b t
    | _ => exact absurd (show false = true from fx) Bool.false_ne_true
  | int a =>
    obtain ⟨t', rfl⟩ := ry
    cases x with
    | non => cases rx; exact SeqAt.EqAt.int_none a t'
    | bl b => cases rx; exact SeqAt.EqAt.int_bool a t' b
    | int b => obtain ⟨t, rfl⟩ := rx; exact SeqAt.EqAt.int_int a t' b t
    | str b => obtain ⟨t, rfl⟩ := rx; exact SeqAt.EqAt.int_str a t' b t
    | _ => exact absurd (show false = true from fx) Bool.false_ne_true
  | str a =>
    obtain ⟨t', rfl⟩ := ry
    cases x with
    | non => cases rx; exact SeqAt.EqAt.str_none a t'
    | bl b => cases rx; exact SeqAt.EqAt.str_bool a t' b
    | int b => obtain ⟨t, rfl⟩ := rx; exact SeqAt.EqAt.str_int a t' b t
    | str b => obtain ⟨t, rfl⟩ := rx; exact SeqAt.EqAt.str_str a t' b t
    | _ => exact absurd (show false = true from fx) Bool.false_ne_true
  | _ => exact absurd (show false = true from fy) Bool.false_ne_true
/-- the items' answers, read off the values (a value's own answer does not lean on its token) -/
def eqU (x : V) (u : Value) : Bool := match u with
  | .none => eqV .non x
  | .bool b => eqV (.bl b) x
  | .int i _ => eqV (.int i) x
  | .str z _ => eqV (.str z) x
  | _ => false
theorem eqU_of {x y : V} {u : Value} (r : RelV y u) (f : flatV y = true) : eqU x u = eqV y x := by
  cases y with
  | non => cases r; rfl
  | bl b => cases r; rfl
  | int i => obtain ⟨t, rfl⟩ := r; rfl
  | str z => obtain ⟨t, rfl⟩ := r; rfl
  | _ => exact absurd (show false = true from f) Bool.false_ne_true
theorem any_eqU {x : V} : ∀ {xs : List V} {us : List Value}, Vals xs us → xs.all flatV = true → us.any (eqU x) = xs.any fun y => eqV y x
  | _, _, .nil, _ => rfl
  | y :: xs, u :: us, .cons r t, f => by
    rw [List.all_cons, Bool.and_eq_true] at f
    rw [List.any_cons, List.any_cons, eqU_of r f.1, any_eqU t f.2]
theorem mem_eqAt {A : Around} {s : Shared} {x : V} {v : Value} (rx : RelV x v) (fx : flatV x = true) : ∀ {xs : List V} {us : List Value}, Vals xs us → xs.all flatV = true → ∀ u ∈ us, SeqAt.EqAt A s u v (eqU x u)
  | _, _, .nil, _ => fun u hu => by cases hu
  | y :: xs, u :: us, .cons r t, f => fun u' hu => by
    rw [List.all_cons, Bool.and_eq_true] at f
    rcases List.mem_cons.mp hu with rfl | hu
    · rw [eqU_of r f.1]; exact eqAt_V r rx f.1 fx
    · exact mem_eqAt rx fx t f.2 u' hu
def inV (x : V) (xs : List V) : Bool := xs.any fun y => eqV y x
/-- x in a list or tuple of flat items -/
def rIn (K : PySem.W.Frag) (neg : Bool) : R2 := fun x y H Q => ∃ p xs, y = .ref p ∧ (SqL K H p xs ∨ SqT K H p xs) ∧ flatV x = true ∧ xs.all flatV = true ∧ Q (.bl (if neg then !inV x xs else inV x xs)) H
theorem op_in_seq : OpR X (compareOp .In) (rIn X.K false) := by
  intro pins s σ H x y v u Q I rx ry h
  obtain ⟨p, xs, rfl, hq, fx, fs, q⟩ := h
  cases ry
  rcases hq with hq | hq
  · obtain ⟨its, r, pl, hz⟩ := I.list hq
    refine SeqAt.in_listAt (eqU x) pl.isList (fun w hw => mem_eqAt rx fx r fs w (by simpa using hw)) ⟨.bl _, H, I, rfl, ?_⟩
    rw [show its.toArray.any (eqU x) = its.any (eqU x) by simp, any_eqU r fs]
    exact q
  · obtain ⟨its, r, pl, hz⟩ := I.tuple hq
    refine SeqAt.in_tupleAt (eqU x) pl (fun w hw => mem_eqAt rx fx r fs w (by simpa using hw)) ⟨.bl _, H, I, rfl, ?_⟩
    rw [show its.toArray.any (eqU x) = its.any (eqU x) by simp, any_eqU r fs]
    exact q
theorem op_notIn_seq : OpR X (compareOp .NotIn) (rIn X.K true) := by
  intro pins s σ H x y v u Q I rx ry h
  obtain ⟨p, xs, rfl, hq, fx, fs, q⟩ := h
  cases ry
  rcases hq with hq | hq
  · obtain ⟨its, r, pl, hz⟩ := I.list hq
    refine SeqAt.notIn_listAt (eqU x) pl.isList (fun w hw => mem_eqAt rx fx r fs w (by simpa using hw)) ⟨.bl _, H, I, rfl, ?_⟩
    rw [show its.toArray.any (eqU x) = its.any (eqU x) by simp, any_eqU r fs]
    exact q
  · obtain ⟨its, r, pl, hz⟩ := I.tuple hq
    refine SeqAt.notIn_tupleAt (eqU x) pl (fun w hw => mem_eqAt rx fx r fs w (by simpa using hw)) ⟨.bl _, H, I, rfl, ?_⟩
    rw [show its.toArray.any (eqU x) = its.any (eqU x) by simp, any_eqU r fs]
    exact q

theorem call_len_seq : CallR X (.builtin "len") (fun xs H Q => ∃ p ys, xs = [.ref p] ∧ (SqL X.K H p ys ∨ SqT X.K H p ys) ∧ Q (.int ys.length) H) := by
  intro pins s σ H xs us Q I r h
  obtain ⟨p, ys, rfl, hq, q⟩ := h
  obtain ⟨u, rfl, rx⟩ := vals1 r
  cases rx
  have hn := line63
  rcases hq with hq | hq
  · obtain ⟨its, r', pl, hz⟩ := I.list hq
    have hlen := r'.length
    exact Calls.call_len_list pl.isList (by simp only [List.size_toArray] <;> omega) ⟨.int ys.length, H, I.tok _, ⟨s.toks + 1, by rw [List.size_toArray, hlen]⟩, q⟩
  · obtain ⟨its, r', pl, hz⟩ := I.tuple hq
    have hlen := r'.length
    exact len_tuple pl (by simp only [List.size_toArray] <;> omega) ⟨.int ys.length, H, I.tok _, ⟨s.toks + 1, by rw [List.size_toArray, hlen]⟩, q⟩
theorem CallR.or {f : Value} {r r' : List V → Hp → VK → Prop} (h : CallR X f r) (h' : CallR X f r') : CallR X f (fun xs H Q => r xs H Q ∨ r' xs H Q) := by
  intro pins s σ H xs us Q I rs q
  rcases q with q | q
  · exact h pins s σ H xs us Q I rs q
  · exact h' pins s σ H xs us Q I rs q
theorem call_list_of : CallR X (.type "list") (fun xs H Q => ∃ p ys, xs = [.ref p] ∧ (SqL X.K H p ys ∨ SqT X.K H p ys) ∧ ∀ l, H l = none → Q (.ref l) (upd H l (.lst ys))) := by
  intro pins s σ H xs us Q I r h
  obtain ⟨p, ys, rfl, hq, q⟩ := h
  obtain ⟨u, rfl, rx⟩ := vals1 r
  cases rx
  have fin : ∀ (its : List Value), Vals ys its → ys.length ≤ sizeLine → ∀ (h' : Heap) (c' : Nat), (∀ b o', s.heap.get? b = some o' → h'.get? b = some o') →
      h'.get? s.heap.objs.size = some { cls := .type "list", dict := none, data := .seq its.toArray c', slots := #[] } → EP X pins σ Q (.ref s.heap.objs.size) { s with heap := h' } := fun its r' hz h' c' kp e =>
    ⟨.ref s.heap.objs.size, _, I.laid (t' := s.toks) kp (Nat.le_refl _) (show ObjOk X.prog X.w _ h' _ (.lst ys) from ⟨hz, its, c', r', e⟩), rfl, q _ (I.hok.fresh (Nat.le_refl _))⟩
  rcases hq with hq | hq
  · obtain ⟨its, r', pl, hz⟩ := I.list hq
    have hlen := r'.length
    obtain ⟨o, ho, hc, n, hd⟩ := pl.isList
    exact call_list_seq p (.inl rfl) ho hc hd (fun h' c' kp e => fin its r' hz h' c' kp e) (by simp only [List.size_toArray] <;> omega)
  · obtain ⟨its, r', pl, hz⟩ := I.tuple hq
    have hlen := r'.length
    obtain ⟨o, ho, hc, n, hd⟩ := pl
    exact call_list_seq p (.inr rfl) ho hc hd (fun h' c' kp e => fin its r' hz h' c' kp e) (by simp only [List.size_toArray] <;> omega)

/-- the value is of that builtin type -/
def tyV (K : PySem.W.Frag) (T : String) (x : V) (H : Hp) : Prop := match x with
  | .str _ => T = "str"
  | .int _ => T = "int"
  | .ref p => (T = "list" ∧ ∃ xs, SqL K H p xs) ∨ (T = "tuple" ∧ ∃ o, K.lookup p = some o ∧ o.cls = .type "tuple" ∧ o.dict = none) ∨
      (T = "dict" ∧ ((∃ kvs, H p = some (.dK kvs)) ∨ ∃ kvs, H p = some (.dT kvs))) ∨ (T = "set" ∧ ∃ S n, H p = some (.set S n))
  | _ => False
theorem tyV_is {pins : List (Addr × Obj)} {σ : St} {H : Hp} {s : Shared} {T : String} {x : V} {v : Value} (I : Inv X pins σ H s) (r : RelV x v) (ty : tyV X.K T x H) :
    s.TypeIs v T ∧ ∀ a, v = .ref a → ∃ ob, s.heap.get? a = some ob ∧ ob.dict = none := by
  cases x with
  | str z =>
    obtain ⟨t, rfl⟩ := r
    cases (show T = "str" from ty)
    exact ⟨typeIs_str s z t, fun _ e => nomatch e⟩
  | int i =>
    obtain ⟨t, rfl⟩ := r
    cases (show T = "int" from ty)
    exact ⟨typeIs_int s i t, fun _ e => nomatch e⟩
  | ref p =>
    cases r
    rcases ty with ⟨rfl, xs, hq⟩ | ⟨rfl, o, hk, hc, hd⟩ | ⟨rfl, hk⟩ | ⟨rfl, S, n, hk⟩
    · obtain ⟨its, _, pl, _⟩ := I.list hq
      refine ⟨pl.isList.typeIs, fun a e => ?_⟩
      cases e
      obtain ⟨o, n, e, c, hd, _⟩ := pl
      exact ⟨o, e, hd⟩
    · refine ⟨⟨o, I.kIn p o hk, hc⟩, fun a e => ?_⟩
      cases e
      exact ⟨o, I.kIn _ o hk, hd⟩
    · have z : ∃ o, s.heap.get? p = some o ∧ o.ExactDict := by
        rcases hk with ⟨kvs, hk⟩ | ⟨kvs, hk⟩
        · obtain ⟨_, _, _, _, o, _, _, e, ex, _⟩ := I.hok p _ hk
          exact ⟨o, e, ex⟩
        · obtain ⟨_, _, _, _, o, _, _, e, ex, _⟩ := I.hok p _ hk
          exact ⟨o, e, ex⟩
      obtain ⟨o, e, ex⟩ := z
      refine ⟨⟨o, e, ex.1⟩, fun a e2 => ?_⟩
      cases e2
      exact ⟨o, e, ex.2.1⟩
    · obtain ⟨o, _, _, _, e, ex, _⟩ := I.hok p _ hk
      refine ⟨⟨o, e, ex.1⟩, fun a e2 => ?_⟩
      cases e2
      exact ⟨o, e, ex.2.1⟩
  | _ => exact False.elim ty
def tBM0 (K : PySem.W.Frag) (T : String) (r : V → List V → Hp → VK → Prop) (to : TE) : TE := fun σ H Q => to σ H fun x H1 => tyV K T x H1 ∧ r x [] H1 Q
def tBM (K : PySem.W.Frag) (T : String) (r : V → List V → Hp → VK → Prop) (to : TE) (t : TA) : TE := fun σ H Q => to σ H fun x H1 => tyV K T x H1 ∧ t σ H1 fun xs H2 => r x xs H2 Q
variable {o e : Expr} {es : List Expr} {to : TE} {t : TA} {name : Str} {apos cpos : Pos} {T id : String} {r : V → List V → Hp → VK → Prop}
theorem pe_bm0 (pa : PlainAttrs T) (slot : Slot T name id) (hty : typeOf (.builtin id) = pure (.type "method_descriptor")) (hm : MtR X id r) (ho : PE X o to)
    (hbase : attributeBase o name X.env (eval o X.env) = eval o X.env := by rfl) (hline : (apos.endLine == cpos.line) = true := by rfl) : PE X (.Call (.Attribute o name apos) [] [] cpos) (tBM0 X.K T r to) := by
  intro pins s σ H Q I h
  refine wpAny_Call_method0_late hbase hline (thn (ho pins s σ H _ I h) fun v s1 ⟨x, H1, I1, r1, ty, q1⟩ => ?_)
  obtain ⟨h1, h2⟩ := tyV_is I1 r1 ty
  exact ⟨T, id, pa, slot, hty, h1, h2, Calls.callWith_builtin rfl (PySem.evalArgs_none (hm pins s1 σ H1 x [] v [] Q I1 r1 .nil q1))⟩
theorem pe_bm (pa : PlainAttrs T) (slot : Slot T name id) (hty : typeOf (.builtin id) = pure (.type "method_descriptor")) (hm : MtR X id r) (ho : PE X o to) (ha : PA X (e :: es) t)
    (hbase : attributeBase o name X.env (eval o X.env) = eval o X.env := by rfl)
    (hfew : ((backTo cpos (starEach (e :: es) X.env)).all (fun x => !x.1) && (backToKw cpos (keywordEach [] X.env)).all (fun x => x.1.isSome)
      && decide ((e :: es).length + ([] : List Keyword).length + (if ([] : List Keyword).isEmpty then 0 else 1) < 30)) = true := by rfl)
    (hline : (apos.endLine == cpos.line) = true := by rfl) (hs : starEach (e :: es) X.env = (false, eval e X.env) :: starEach es X.env := by rfl) (hplain : (backTo cpos (starEach es X.env)).any (·.1) = false := by rfl) :
    PE X (.Call (.Attribute o name apos) (e :: es) [] cpos) (tBM X.K T r to t) := by
  intro pins s σ H Q I h
  refine wpAny_Call_method_late hbase hfew hline rfl (thn (ho pins s σ H _ I h) fun v s1 ⟨x, H1, I1, r1, ty, q1⟩ => ?_)
  obtain ⟨h1, h2⟩ := tyV_is I1 r1 ty
  refine ⟨T, id, pa, slot, hty, h1, h2, ?_⟩
  have hA := ha cpos pins s1 σ H1 _ I1 q1
  rw [hs] at hA ⊢
  refine Calls.callWith_builtin (by show (false || (backTo cpos (starEach es X.env)).any (·.1)) = false; rw [hplain] <;> rfl) (Calls.evalArgs_plain ?_)
  exact thn hA fun us s2 ⟨vs, H2, I2, r2, q2⟩ => hm pins s2 σ H2 x vs v us Q I2 r1 r2 q2
/- xs.append(e), list.index on a module's tuple .. are MtR facts of 06m -/
end
end L2

namespace L2
open PySem PySem.Spec PyProof.Rows

def MtM (X : Cx) (id : String) (r : V → List V → Hp → VK → Prop) : Prop :=
  ∀ (pins : List (Addr × Obj)) (s : Shared) (σ : St) (H : Hp) (x : V) (xs : List V) (v : Value) (us : List Value) (Q : VK), Inv X pins σ H s → RelV x v → Vals xs us → r x xs H Q →
    wpAny (model X.prog X.w) X.A (call (.builtin id) (v :: us)) (EP X pins σ Q) X.xe s

theorem Vals.one : ∀ {x : V} {us : List Value}, Vals [x] us → ∃ u, us = [u] ∧ RelV x u
  | _, _, .cons r .nil => ⟨_, rfl, r⟩
theorem Vals.two : ∀ {x y : V} {us : List Value}, Vals [x, y] us → ∃ u v, us = [u, v] ∧ RelV x u ∧ RelV y v
  | _, _, _, .cons r (.cons q .nil) => ⟨_, _, rfl, r, q⟩
theorem Vals.zero : ∀ {us : List Value}, Vals [] us → us = []
  | _, .nil => rfl
theorem Vals.dropLast {xs : List V} {us : List Value} (h : Vals xs us) : Vals xs.dropLast us.dropLast := by
  induction h with
  | nil => exact .nil
  | cons r t ih =>
    cases t with
    | nil => exact .nil
    | cons q t' => exact .cons r ih
theorem Vals.eraseIdx : ∀ {xs : List V} {us : List Value} (i : Nat), Vals xs us → Vals (xs.eraseIdx i) (us.eraseIdx i)
  | _, _, _, .nil => .nil
  | _, _, 0, .cons _ t => t
  | _, _, i + 1, .cons r t => .cons r (Vals.eraseIdx i t)
theorem Vals.reverse {xs : List V} {us : List Value} (h : Vals xs us) : Vals xs.reverse us.reverse := by
  induction h with
  | nil => exact .nil
  | cons r t ih => rw [List.reverse_cons, List.reverse_cons]; exact Vals.append ih (.cons r .nil)
theorem Vals.rep {xs : List V} {us : List Value} (h : Vals xs us) : ∀ k : Nat, Vals (List.replicate k xs).flatten (List.replicate k us).flatten
  | 0 => .nil
  | k + 1 => by
    rw [List.replicate_succ, List.replicate_succ, List.flatten_cons, List.flatten_cons]
    exact Vals.append h (Vals.rep h k)
theorem erase_last {α : Type} (l : List α) : l.eraseIdx (l.length - 1) = l.dropLast := by
  induction l with
  | nil => rfl
  | cons a r ih =>
    cases r with
    | nil => rfl
    | cons b r =>
      have e : (a :: b :: r).length - 1 = ((b :: r).length - 1) + 1 := by
        have h1 : (a :: b :: r).length = r.length + 2 := rfl
        have h2 : (b :: r).length = r.length + 1 := rfl
        omega
      rw [e, List.eraseIdx_cons_succ, ih]
      all_goals rfl

section
variable {X : Cx} {pins : List (Addr × Obj)} {σ : St} {H : Hp} {s : Shared} {l b : Addr} {xs ys zs : List V}

theorem Inv.lset {its its' : List Value} {n : Nat} {f : Array Value → Array Value} {t' : Nat} (I : Inv X pins σ H s) (hH : H l = some (.lst xs))
    (e : s.heap.get? l = some { cls := .type "list", data := .seq its.toArray n }) (hf : f its.toArray = its'.toArray) (hv : Vals ys its') (hz : ys.length ≤ sizeLine) :
    Inv X pins σ (upd H l (.lst ys)) { s with heap := s.heap.update l (Obj.mapSeq f), toks := t' } := by
  have q := PySem.IsL.update e f
  rw [hf] at q
  refine I.write (x := l) (e := l) (by rw [hH]; exact trivial) (.inl rfl) (fun b' u hb hu => (Heap.get?_update_other s.heap (Obj.mapSeq f) (Ne.symm hb)).trans hu) ⟨_, q⟩ ?_
  exact ⟨hz, its', _, hv, q⟩
theorem Inv.lnew {its : List Value} {t' : Nat} (I : Inv X pins σ H s) (hv : Vals ys its) (hz : ys.length ≤ sizeLine) :
    Inv X pins σ (upd H s.heap.objs.size (.lst ys)) { s with heap := s.heap.push { cls := .type "list", data := .seq its.toArray }, toks := t' } :=
  I.laid (fun _ _ q => Heap.get?_push_of_some _ q) (Nat.le_refl _) ⟨hz, its, 0, hv, Heap.get?_push_size _ rfl⟩
theorem Inv.fresh (I : Inv X pins σ H s) : H s.heap.objs.size = none := I.hok.fresh (Nat.le_refl _)
theorem Inv.lstM (I : Inv X pins σ H s) (hH : H l = some (.lst xs)) : xs.length ≤ sizeLine ∧ ∃ (its : List Value) (n : Nat), Vals xs its ∧ xs.length = its.length ∧ s.heap.get? l = some { cls := .type "list", data := .seq its.toArray n } := by
  obtain ⟨z, its, n, r, e⟩ := I.hok l _ hH
  exact ⟨z, its, n, r, r.length, e⟩

end

section
variable {X : Cx}

def rAppend : V → List V → Hp → VK → Prop := fun x vs H Q => ∃ l xs y, x = .ref l ∧ vs = [y] ∧ H l = some (.lst xs) ∧ xs.length < sizeLine ∧ Q .non (upd H l (.lst (xs ++ [y])))
theorem mt_append : MtM X "list.append" rAppend := by
  intro pins s σ H x vs v us Q I rx rv h
  obtain ⟨l, xs, y, rfl, rfl, hH, hz, q⟩ := h
  cases rx
  obtain ⟨u, rfl, ru⟩ := rv.one
  obtain ⟨z, its, n, r, hl, e⟩ := I.lstM hH
  refine call_meets F.slot_list_append ⟨_, e, rfl⟩ F.entry_list_append (F.args_list_append_2 _ _) (PySem.list_append l its.toArray n u (by rw [List.size_toArray]; omega)) ⟨e, ?_⟩
  refine ⟨.non, _, I.lset (its' := its ++ [u]) hH e (by simp) (r.append (.cons ru .nil)) ?_, rfl, q⟩
  rw [List.length_append, List.length_singleton]
  omega


def rPop : V → List V → Hp → VK → Prop := fun x vs H Q => ∃ l xs y, x = .ref l ∧ vs = [] ∧ H l = some (.lst xs) ∧ xs[xs.length - 1]? = some y ∧ Q y (upd H l (.lst xs.dropLast))
theorem mt_pop : MtM X "list.pop" rPop := by
  intro pins s σ H x vs v us Q I rx rv h
  obtain ⟨l, xs, y, rfl, rfl, hH, hy, q⟩ := h
  cases rx
  have hus := rv.zero
  subst hus
  obtain ⟨z, its, n, r, hl, e⟩ := I.lstM hH
  obtain ⟨u, hu, ru⟩ := r.get hy
  have hy' : its.toArray[its.toArray.size - 1]? = some u := by
    show its.toArray[its.length - 1]? = some u
    rw [← Array.getElem?_toList, ← hl]
    exact hu
  refine call_meets F.slot_list_pop ⟨_, e, rfl⟩ F.entry_list_pop (F.args_list_pop_1 _) (MeetsSeq.list_pop_last l its.toArray n u hy' (by rw [List.size_toArray]; omega)) ⟨e, ?_⟩
  refine ⟨y, _, I.lset (its' := its.dropLast) hH e ?_ r.dropLast ?_, ru, q⟩
  · show its.toArray.eraseIdxIfInBounds (its.toArray.size - 1) = its.dropLast.toArray
    rw [List.size_toArray, List.eraseIdxIfInBounds_toArray, erase_last]
  · rw [List.length_dropLast]
    omega




def rCat : R2 := fun x y H Q => ∃ l b xs zs, x = .ref l ∧ y = .ref b ∧ H l = some (.lst xs) ∧ H b = some (.lst zs) ∧ xs.length + zs.length ≤ sizeLine ∧ ∀ p, H p = none → Q (.ref p) (upd H p (.lst (xs ++ zs)))
theorem op_cat : OpR X (binaryOp .Add) rCat := by
  intro pins s σ H x y v u Q I rx ry h
  obtain ⟨l, b, xs, zs, rfl, rfl, hH, hB, hz, q⟩ := h
  cases rx
  cases ry
  obtain ⟨z, its, n, r, hl, e⟩ := I.lstM hH
  obtain ⟨z2, its2, n2, r2, hl2, e2⟩ := I.lstM hB
  refine PySem.P.add_list e e2 ?_ (by rw [List.size_toArray, List.size_toArray]; omega)
  have ea : its.toArray ++ its2.toArray = (its ++ its2).toArray := by simp
  rw [ea]
  exact ⟨.ref _, _, I.lnew (t' := s.toks) (r.append r2) (by rw [List.length_append]; omega), rfl, q _ I.fresh⟩

end

section
variable {prog : Program} {w : World} {A : Around} {E : Value → Shared → Prop} {s : Shared}
set_option maxRecDepth 100000 in
end

section
variable {X : Cx}
end
end L2

namespace L2
open PySem PySem.Spec PyProof.Rows

section
variable {κ : Type} [DecidableEq κ]
def valV (kvs : List (κ × V)) (k : κ) : Option V := (kvs.find? fun kv => decide (kv.1 = k)).map (·.2)
/-- in its place, or at the end -/
def putK (kvs : List (κ × V)) (k : κ) (v : V) : List (κ × V) :=
  if (kvs.any fun kv => decide (kv.1 = k)) = true then kvs.map (fun kv => if kv.1 = k then (kv.1, v) else kv) else kvs ++ [(k, v)]
def dropK (kvs : List (κ × V)) (k : κ) : List (κ × V) := kvs.filter fun kv => decide (kv.1 ≠ k)

theorem valV_pos {p : κ × V} {r : List (κ × V)} {k : κ} (e : p.1 = k) : valV (p :: r) k = some p.2 := by simp [valV, List.find?_cons, e]
theorem valV_neg {p : κ × V} {r : List (κ × V)} {k : κ} (e : ¬ p.1 = k) : valV (p :: r) k = valV r k := by simp [valV, List.find?_cons, e]
theorem valV_any (k : κ) : ∀ kvs : List (κ × V), (kvs.any fun kv => decide (kv.1 = k)) = (valV kvs k).isSome
  | [] => rfl
  | p :: r => by
    rw [List.any_cons]
    by_cases e : p.1 = k
    · simp only [valV_pos e, decide_eq_true e, Bool.true_or, Option.isSome_some]
    · rw [valV_neg e, decide_eq_false e, Bool.false_or]; exact valV_any k r
theorem length_putK (kvs : List (κ × V)) (k : κ) (v : V) : (putK kvs k v).length ≤ kvs.length + 1 := by
  unfold putK
  split
  · rw [List.length_map]; omega
  · rw [List.length_append, List.length_cons, List.length_nil]; omega
theorem putK_new {kvs : List (κ × V)} {k : κ} (v : V) (h : valV kvs k = none) : putK kvs k v = kvs ++ [(k, v)] := by
  unfold putK
  rw [valV_any, h]
  exact if_neg (by decide)

theorem RelO.isSome_eq {o : Option V} {u : Option Value} (r : RelO o u) : o.isSome = u.isSome := by
  cases o with
  | none => cases u with
    | none => rfl
    | some _ => exact (show False from r).elim
  | some _ => cases u with
    | none => exact (show False from r).elim
    | some _ => rfl
theorem RelO.getD {o : Option V} {u : Option Value} {d : V} {d' : Value} (r : RelO o u) (rd : RelV d d') : RelV (o.getD d) (u.getD d') := by
  cases o with
  | none => cases u with
    | none => exact rd
    | some _ => exact (show False from r).elim
  | some _ => cases u with
    | none => exact (show False from r).elim
    | some _ => exact r

/-- raw tables of the same keys -/
theorem KV.val {kvs : List (κ × V)} {vs : List (κ × Value)} (r : KV kvs vs) (k : κ) : RelO (valV kvs k) (valueAt vs k) := by
  unfold KV at r
  induction r with
  | nil => exact True.intro
  | @cons p q ps qs h t ih =>
    obtain ⟨h1, h2⟩ := h
    by_cases e : p.1 = k
    · have e' : q.1 = k := h1.symm.trans e
      have b : valueAt (q :: qs) k = some q.2 := by simp [valueAt, List.find?_cons, e']
      rw [valV_pos e, b]; exact h2
    · have e' : ¬ q.1 = k := fun z => e (h1.trans z)
      have b : valueAt (q :: qs) k = valueAt qs k := by simp [valueAt, List.find?_cons, e']
      rw [valV_neg e, b]; exact ih
theorem KV.any {kvs : List (κ × V)} {vs : List (κ × Value)} (r : KV kvs vs) (k : κ) : (kvs.any fun kv => decide (kv.1 = k)) = vs.any fun kv => decide (kv.1 = k) := by
  unfold KV at r
  induction r with
  | nil => rfl
  | cons h t ih => rw [List.any_cons, List.any_cons, ih, h.1]
theorem KV.repl {kvs : List (κ × V)} {vs : List (κ × Value)} (r : KV kvs vs) (k : κ) {y : V} {u : Value} (ry : RelV y u) :
    KV (kvs.map fun kv => if kv.1 = k then (kv.1, y) else kv) (vs.map fun kv => if kv.1 = k then (kv.1, u) else kv) := by
  unfold KV at r ⊢
  induction r with
  | nil => exact .nil
  | @cons p q ps qs h t ih =>
    rw [List.map_cons, List.map_cons]
    refine .cons ?_ ih
    obtain ⟨h1, h2⟩ := h
    by_cases e : p.1 = k
    · rw [if_pos e, if_pos (h1.symm.trans e)]; exact ⟨h1, ry⟩
    · rw [if_neg e, if_neg (fun z => e (h1.trans z))]; exact ⟨h1, h2⟩
theorem KV.put {kvs : List (κ × V)} {vs : List (κ × Value)} (r : KV kvs vs) (k : κ) {y : V} {u : Value} (ry : RelV y u) : KV (putK kvs k y) (stored vs k u) := by
  unfold putK stored
  rw [r.any k]
  by_cases e : (vs.any fun kv => decide (kv.1 = k)) = true
  · rw [if_pos e, if_pos e]; exact r.repl k ry
  · rw [if_neg e, if_neg e]; exact Paired.snoc r ⟨rfl, ry⟩
theorem KV.drop {kvs : List (κ × V)} {vs : List (κ × Value)} (r : KV kvs vs) (k : κ) : KV (dropK kvs k) (without vs k) := by
  unfold KV at r ⊢
  unfold dropK without
  induction r with
  | nil => exact .nil
  | @cons p q ps qs h t ih =>
    obtain ⟨h1, h2⟩ := h
    rw [List.filter_cons, List.filter_cons]
    by_cases e : p.1 = k
    · have a : ¬ decide (p.1 ≠ k) = true := by simp [e]
      have b : ¬ decide (q.1 ≠ k) = true := by simp [h1.symm.trans e]
      rw [if_neg a, if_neg b]; exact ih
    · have e' : ¬ q.1 = k := fun z => e (h1.trans z)
      have a : decide (p.1 ≠ k) = true := by simp [e]
      have b : decide (q.1 ≠ k) = true := by simp [e']
      rw [if_pos a, if_pos b]; exact .cons ⟨h1, h2⟩ ih
theorem KV.keys {kvs : List (κ × V)} {vs : List (κ × Value)} (r : KV kvs vs) : kvs.map (·.1) = vs.map (·.1) := by
  unfold KV at r
  induction r with
  | nil => rfl
  | cons h t ih => rw [List.map_cons, List.map_cons, ih, h.1]
theorem KV.length {kvs : List (κ × V)} {vs : List (κ × Value)} (r : KV kvs vs) : kvs.length = vs.length := Paired.length r
end


theorem kV_is {P : Program} {w : World} {k : Key} {u : Value} (r : RelV (kV k) u) : (mixKind P w).is k u = true := by
  cases k with
  | inl i => obtain ⟨t, e⟩ := (show ∃ t, u = Value.int i t from r); subst e; exact mixKind_int P w i t
  | inr x => obtain ⟨t, e⟩ := (show ∃ t, u = Value.str x t from r); subst e; exact mixKind_str P w x t
theorem items_are {P : Program} {w : World} : ∀ {ks : List Key} {us : List Value}, Vals (ks.map kV) us → ItemsAre (mixKind P w) ks us
  | [], _, r => by rw [List.map_nil] at r; cases r; exact .nil
  | k :: ks, _, r => by
    rw [List.map_cons] at r
    cases r with
    | cons h t => exact .cons (kV_is h) (items_are t)

/-- raw entries of a dict with tuple keys -/
abbrev KT (H : Hp) : List (List Key × V) → List (List Key × Addr × Value) → Prop := Paired fun p q => p.1 = q.1 ∧ H q.2.1 = some (.tup (p.1.map kV)) ∧ RelV p.2 q.2.2
theorem KT.val {H : Hp} {kvs : List (List Key × V)} {xs : List (List Key × Addr × Value)} (r : KT H kvs xs) (k : List Key) : RelO (valV kvs k) ((atKey xs k).map (·.2)) := by
  induction r with
  | nil => exact True.intro
  | @cons p q ps qs h t ih =>
    obtain ⟨h1, _, h2⟩ := h
    by_cases e : p.1 = k
    · have e' : q.1 = k := h1.symm.trans e
      have b : atKey (q :: qs) k = some q.2 := by simp [atKey, List.find?_cons, e']
      rw [valV_pos e, b]; exact h2
    · have e' : ¬ q.1 = k := fun z => e (h1.trans z)
      have b : atKey (q :: qs) k = atKey qs k := by simp [atKey, List.find?_cons, e']
      rw [valV_neg e, b]; exact ih
theorem KT.repl {H : Hp} {kvs : List (List Key × V)} {xs : List (List Key × Addr × Value)} (r : KT H kvs xs) (k : List Key) {y : V} {u : Value} (ry : RelV y u) :
    KT H (kvs.map fun kv => if kv.1 = k then (kv.1, y) else kv) (xs.map (putAt k u)) := by
  induction r with
  | nil => exact .nil
  | @cons p q ps qs h t ih =>
    rw [List.map_cons, List.map_cons]
    refine .cons ?_ ih
    obtain ⟨h1, h2, h3⟩ := h
    unfold putAt
    by_cases e : p.1 = k
    · rw [if_pos e, if_pos (h1.symm.trans e)]; exact ⟨h1, h2, ry⟩
    · rw [if_neg e, if_neg (fun z => e (h1.trans z))]; exact ⟨h1, h2, h3⟩
theorem KT.put {H : Hp} {kvs : List (List Key × V)} {xs : List (List Key × Addr × Value)} (r : KT H kvs xs) (k : List Key) {b : Addr} {y : V} {u : Value} (hb : H b = some (.tup (k.map kV))) (ry : RelV y u) :
    KT H (putK kvs k y) (storedH xs k b u) := by
  have e : (kvs.any fun kv => decide (kv.1 = k)) = (atKey xs k).isSome := by
    rw [valV_any, (r.val k).isSome_eq, Option.isSome_map]
  unfold putK storedH
  rw [e]
  by_cases q : (atKey xs k).isSome = true
  · rw [if_pos q, if_pos q]; exact r.repl k ry
  · rw [if_neg q, if_neg q]; exact Paired.snoc r ⟨rfl, hb, ry⟩
theorem KT.keeps {H H' : Hp} {kvs : List (List Key × V)} {xs : List (List Key × Addr × Value)} (r : KT H kvs xs) (ht : ∀ b ys, H b = some (.tup ys) → H' b = some (.tup ys)) : KT H' kvs xs :=
  Paired.mapP r fun _ _ z => ⟨z.1, ht _ _ z.2.1, z.2.2⟩

section
variable {P : Program} {w : World} {H : Hp} {h : Heap} {a : Addr}
theorem rd_of {u : HO} (ok : HOk P w H h) (e : Rd H a u) : ObjOk P w H h a u := e.ok ok
theorem dk_rd {kvs : List (Key × V)} (ok : HOk P w H h) (e : Rd H a (.dK kvs)) : kvs.length ≤ sizeLine ∧ (a == sysModules) = false ∧ ∃ vs, KV kvs vs ∧ h.DictOf (mixKind P w) a vs :=
  show ObjOk P w H h a (.dK kvs) from rd_of ok e
theorem dk_of {kvs : List (Key × V)} (ok : HOk P w H h) (e : H a = some (.dK kvs)) : kvs.length ≤ sizeLine ∧ (a == sysModules) = false ∧ ∃ vs, KV kvs vs ∧ h.DictOf (mixKind P w) a vs := dk_rd ok (.inl e)
/-- a tracked tuple of ints and texts is a key -/
theorem key_of {ks : List Key} (ok : HOk P w H h) (e : H a = some (.tup (ks.map kV))) : (tupleKind (mixKind P w)).is h ks a := by
  obtain ⟨_, its, r, o, h1, h2, n, h3⟩ := (show ObjOk P w H h a (.tup (ks.map kV)) from ok a _ e)
  exact ⟨o, its.toArray, n, h1, h2, h3, by simpa using items_are r⟩
theorem dt_rd {kvs : List (List Key × V)} (ok : HOk P w H h) (e : Rd H a (.dT kvs)) : kvs.length ≤ sizeLine ∧ (a == sysModules) = false ∧
    ∃ xs, KT H kvs xs ∧ h.DictOfH (tupleKind (mixKind P w)) a xs := by
  obtain ⟨z, y, xs, r, o, es, ep, h1, h2, h3, h4, h5⟩ := (show ObjOk P w H h a (.dT kvs) from rd_of ok e)
  refine ⟨z, y, xs, r, o, es, ep, h1, h2, h3, h4, fun x hx => ?_, h5⟩
  have all : ∀ {l : List (List Key × V)} {m : List (List Key × Addr × Value)}, KT H l m → ∀ x ∈ m, (tupleKind (mixKind P w)).is h x.1 x.2.1 := by
    intro l m q
    induction q with
    | nil => intro x hx; exact nomatch hx
    | @cons p q ps qs hq t ih =>
      intro x hx
      rcases List.mem_cons.mp hx with e | hx
      · subst e
        exact key_of ok (by rw [← hq.1]; exact hq.2.1)
      · exact ih x hx
  exact all r x hx
theorem dt_of {kvs : List (List Key × V)} (ok : HOk P w H h) (e : H a = some (.dT kvs)) : kvs.length ≤ sizeLine ∧ (a == sysModules) = false ∧
    ∃ xs, KT H kvs xs ∧ h.DictOfH (tupleKind (mixKind P w)) a xs := dt_rd ok (.inl e)
end

/-- what the dict at a holds at the key y -/
def DGet (H : Hp) (a : Addr) (y : V) (r : Option V) : Prop :=
  (∃ kvs k, Rd H a (.dK kvs) ∧ y = kV k ∧ r = valV kvs k) ∨ ∃ kvs k b, Rd H a (.dT kvs) ∧ y = .ref b ∧ H b = some (.tup (k.map kV)) ∧ r = valV kvs k
/-- the heap behind a[y] = v -/
def DPut (H : Hp) (a : Addr) (y v : V) (H' : Hp) : Prop :=
  (∃ kvs k, H a = some (.dK kvs) ∧ y = kV k ∧ kvs.length < sizeLine ∧ H' = upd H a (.dK (putK kvs k v))) ∨
  ∃ kvs k b, H a = some (.dT kvs) ∧ y = .ref b ∧ H b = some (.tup (k.map kV)) ∧ kvs.length < sizeLine ∧ H' = upd H a (.dT (putK kvs k v))
theorem DGet.k {H : Hp} {a : Addr} {kvs : List (Key × V)} {k : Key} (e : H a = some (.dK kvs)) : DGet H a (kV k) (valV kvs k) := .inl ⟨kvs, k, .inl e, rfl, rfl⟩
theorem DGet.t {H : Hp} {a b : Addr} {kvs : List (List Key × V)} {k : List Key} (e : H a = some (.dT kvs)) (eb : H b = some (.tup (k.map kV))) : DGet H a (.ref b) (valV kvs k) := .inr ⟨kvs, k, b, .inl e, rfl, eb, rfl⟩
theorem DPut.k {H : Hp} {a : Addr} {kvs : List (Key × V)} {k : Key} {v : V} (e : H a = some (.dK kvs)) (hl : kvs.length < sizeLine) : DPut H a (kV k) v (upd H a (.dK (putK kvs k v))) := .inl ⟨kvs, k, e, rfl, hl, rfl⟩
theorem DPut.t {H : Hp} {a b : Addr} {kvs : List (List Key × V)} {k : List Key} {v : V} (e : H a = some (.dT kvs)) (eb : H b = some (.tup (k.map kV))) (hl : kvs.length < sizeLine) :
    DPut H a (.ref b) v (upd H a (.dT (putK kvs k v))) := .inr ⟨kvs, k, b, e, rfl, eb, hl, rfl⟩


section
variable {X : Cx} {pins : List (Addr × Obj)} {σ : St} {H : Hp} {s : Shared} {a : Addr} {y v : V} {u r : Value} {o : Option V} {A : Around} {E : Value → Shared → Prop}

theorem Inv.big (I : Inv X pins σ H s) : sysModules < s.heap.objs.size := by
  have h : mainGlobals < s.heap.objs.size := (I.mod.glob.keeps I.bk).lt
  exact Nat.lt_trans (by decide) h

/-- d[y], there -/
theorem d_getItem {Q : Value → Shared → Prop} (hu : A.units + 1 < cLine) (I : Inv X pins σ H s) (g : DGet H a y (some v)) (ry : RelV y u) (h : ∀ w' s', Inv X pins σ H s' → RelV v w' → Q w' s') :
    wpAny (model X.prog X.w) A (getItem (.ref a) u) Q E s := by
  rcases g with ⟨kvs, k, e, ey, l⟩ | ⟨kvs, k, b, e, ey, eb, l⟩
  · subst ey
    obtain ⟨z, hd, vs, rel, dd⟩ := dk_rd I.hok e
    obtain ⟨w', hw, rw'⟩ := RelO.some_of (v := v) (o := valueAt vs k) (by rw [l]; exact rel.val k)
    exact wpAny_getItem_of (kV_is ry) dd.mapOf hw (h w' _ (I.tok _) rw')
  · subst ey
    cases (show u = Value.ref b from ry)
    obtain ⟨z, hd, xs, rel, dd⟩ := dt_rd I.hok e
    obtain ⟨w', hw, rw'⟩ := RelO.some_of (v := v) (o := (atKey xs k).map (·.2)) (by rw [l]; exact rel.val k)
    obtain ⟨p, hp, hp2⟩ := Option.map_eq_some_iff.mp hw
    refine wpAny_getItem_heap (tupleKind_room_in1 hu) (key_of I.hok eb) dd hp ?_
    rw [hp2]
    exact h w' _ (I.tok _) rw'
/-- y in d -/
theorem d_notIn {Q : Value → Shared → Prop} (hu : A.units + 1 < cLine) (I : Inv X pins σ H s) (g : DGet H a y o) (ry : RelV y u) (h : ∀ s', Inv X pins σ H s' → Q (.bool (!o.isSome)) s') :
    wpAny (model X.prog X.w) A (compareOp .NotIn u (.ref a)) Q E s := by
  rcases g with ⟨kvs, k, e, ey, l⟩ | ⟨kvs, k, b, e, ey, eb, l⟩
  · subst ey
    obtain ⟨z, hd, vs, rel, dd⟩ := dk_rd I.hok e
    refine wpAny_notIn_of (kV_is ry) hd dd.mapOf ?_
    rw [← (rel.val k).isSome_eq, ← l]
    exact h _ (I.tok _)
  · subst ey
    cases (show u = Value.ref b from ry)
    obtain ⟨z, hd, xs, rel, dd⟩ := dt_rd I.hok e
    refine wpAny_notIn_heap (tupleKind_room_in1 hu) (key_of I.hok eb) hd dd ?_
    have q := (rel.val k).isSome_eq
    rw [Option.isSome_map] at q
    rw [← q, ← l]
    exact h _ (I.tok _)
/-- a dict's object is replaced -/
theorem d_write {h' : Heap} {t' : Nat} {ob : HO} (I : Inv X pins σ H s) (mu : Mut (H a)) (hs : Heap.SameBut a s.heap h') (he : ∃ q, h'.get? a = some q) (new : ObjOk X.prog X.w (upd H a ob) h' a ob) :
    Inv X pins σ (upd H a ob) { s with heap := h', toks := t' } :=
  I.write (x := a) (e := a) mu (.inl rfl) (fun b q hb z => (hs.2 b hb).trans z) he new
theorem dk_new {P : Program} {w : World} {H' : Hp} {h' : Heap} {kvs : List (Key × V)} {vs : List (Key × Value)} (z : kvs.length ≤ sizeLine) (hd : (a == sysModules) = false) (rel : KV kvs vs) (dd : h'.DictOf (mixKind P w) a vs) :
    ObjOk P w H' h' a (.dK kvs) := ⟨z, hd, vs, rel, dd⟩
/-- d[y] = v -/
theorem d_setItem {H' : Hp} {Q : Unit → Shared → Prop} (hu : A.units + 1 < cLine) (I : Inv X pins σ H s) (g : DPut H a y v H') (ry : RelV y u) (rv : RelV v r) (h : ∀ s', Inv X pins σ H' s' → Q () s') :
    wpAny (model X.prog X.w) A (setItem (.ref a) u r) Q E s := by
  rcases g with ⟨kvs, k, e, ey, l, eH⟩ | ⟨kvs, k, b, e, ey, eb, l, eH⟩
  · subst ey eH
    obtain ⟨z, hd, vs, rel, dd⟩ := dk_of I.hok e
    have hz : vs.length ≤ sizeLine := by rw [← rel.length]; exact z
    have hl : (putK kvs k v).length ≤ sizeLine := by have := length_putK kvs k v; omega
    refine wpAny_setItem_pairs (hsz := hz) (kV_is ry) dd fun h' dd' hs => h _ ?_
    have he : ∃ q, h'.get? a = some q := let ⟨q, _, _, hq, _⟩ := dd'; ⟨q, hq⟩
    exact d_write I (by rw [e]; exact True.intro) hs he (dk_new hl hd (rel.put k rv) dd')
  · subst ey eH
    cases (show u = Value.ref b from ry)
    obtain ⟨z, hd, xs, rel, dd⟩ := dt_of I.hok e
    have hz : xs.length ≤ sizeLine := by rw [← Paired.length rel]; exact z
    have hl : (putK kvs k v).length ≤ sizeLine := by have := length_putK kvs k v; omega
    refine wpAny_setItem_heap (hsz := hz) (tupleKind_room_in1 hu) (key_of I.hok eb) dd fun h' dd' hs => h _ ?_
    obtain ⟨q, es, ep, hq, h2, h3, h4, _, h5⟩ := dd'
    refine d_write I (by rw [e]; exact True.intro) hs ⟨q, hq⟩ ⟨hl, hd, _, (rel.put k eb rv).keeps fun c ys ec => ?_, q, es, ep, hq, h2, h3, h4, h5⟩
    rw [upd_ne (ne_of ec e (fun z => nomatch z))]
    exact ec
end

section
variable {X : Cx} {pins : List (Addr × Obj)} {σ : St} {H : Hp} {s : Shared} {a : Addr} {kvs : List (Key × V)} {k : Key} {u : Value} {A : Around} {E : Value → Shared → Prop}
end


/-- the element of a subscription, not a slice -/
def NoSl (i : Expr) : Prop := ∀ ov iv, subscripted i false ov iv = operate [ov, iv] (getItem ov iv)
theorem subD_of {prog : Program} {w : World} {A : Around} {E : Value → Shared → Prop} {s : Shared} {env : Env} {value slice : Expr} {pos : Pos} {T id : String} {Q : Value → Shared → Prop}
    (hl : typeLookup (.type T) "__getitem__" = pure (some (.builtin id))) (hs : NoSl slice)
    (h : wpAny (model prog w) A (eval value env) (fun o s₁ => wpAny (model prog w) A (eval slice env) (fun i s₂ => s₂.TypeIs o T ∧ wpAny (model prog w) A (getItem o i) Q E s₂) E s₁) E s) :
    wpAny (model prog w) A (eval (.Subscript value slice pos) env) Q E s := by
  refine Subscript_ (wpAny_mono h (fun o s₁ h₁ => wpAny_mono h₁ (fun i s₂ h₂ => ?_) fun _ _ x => x) fun _ _ x => x)
  obtain ⟨hT, h₂⟩ := h₂
  unfold subscriptTail
  refine wpAny_bind ?_
  rw [getitemInPython_of_ne hT.not_modules]
  refine wpAny_bind (wpAny_specialOf hT hl ?_)
  have fin : wpAny (model prog w) A (subscripted slice false o i) (fun r s₃ => wpAny (model prog w) A (letTemporaryGo value o r >>= fun _ => pure r) Q E s₃) E s₂ := by
    rw [hs o i]
    exact wpAny_operating (wpAny_mono h₂ (fun r s₃ h₃ => wpAny_bind (wpAny_letTemporaryGo (wpAny_pure h₃))) fun _ _ x => x)
  first
    | exact wpAny_pure (wpAny_bind fin)
    | exact wpAny_bind (wpAny_pure (wpAny_bind fin))
    | exact wpAny_bind fin

theorem dict_typeIs {X : Cx} {pins : List (Addr × Obj)} {σ : St} {H : Hp} {s : Shared} {a : Addr} {y : V} {o : Option V} (I : Inv X pins σ H s) (g : DGet H a y o) : s.TypeIs (.ref a) "dict" := by
  rcases g with ⟨kvs, k, e, _, _⟩ | ⟨kvs, k, b, e, _, _, _⟩
  · obtain ⟨_, _, vs, _, dd⟩ := dk_rd I.hok e
    exact dd.typeIs
  · obtain ⟨_, _, xs, _, dd⟩ := dt_rd I.hok e
    exact dd.typeIs

/-- d[y] -/
def tDGet (td ty : TE) : TE := fun σ H Q => td σ H fun x H1 => ty σ H1 fun y H2 => ∃ a v, x = .ref a ∧ DGet H2 a y (some v) ∧ Q v H2
/-- y in d, y not in d -/
def tDIn (ty td : TE) : TE := fun σ H Q => ty σ H fun y H1 => td σ H1 fun x H2 => ∃ a o, x = .ref a ∧ DGet H2 a y o ∧ Q (.bl o.isSome) H2
def tDNotIn (ty td : TE) : TE := fun σ H Q => ty σ H fun y H1 => td σ H1 fun x H2 => ∃ a o, x = .ref a ∧ DGet H2 a y o ∧ Q (.bl (!o.isSome)) H2
/-- d[y] = v -/
def sDPut (td ty tv : TE) : TS := fun D σ H => tv σ H fun v H1 => td σ H1 fun x H2 => ty σ H2 fun y H3 => ∃ a H4, x = .ref a ∧ DPut H3 a y v H4 ∧ D.nx σ H4

section
variable {X : Cx} {o i e value : Expr} {pos pos' tpos : Pos} {td ty tv : TE}
theorem pe_dget (hu : X.A.units + 1 < cLine) (ho : PE X o td) (hi : PE X i ty) (hs : NoSl i) : PE X (.Subscript o i pos) (tDGet td ty) := by
  intro pins s σ H Q I h
  refine subD_of PySem.F.slot_dict_getitem.lookup hs (thn (ho pins s σ H _ I h) fun u s1 ⟨x, H1, I1, rx, q1⟩ => thn (hi pins s1 σ H1 _ I1 q1) fun iv s2 ⟨y, H2, I2, ry, a, v, ex, g, q2⟩ => ?_)
  subst ex
  obtain rfl : u = Value.ref a := rx
  exact ⟨dict_typeIs I2 g, d_getItem hu I2 g ry fun w' s3 I3 rw' => ⟨v, H2, I3, rw', q2⟩⟩
theorem pc_dnotin (hu : X.A.units + 1 < cLine) (hi : PE X i ty) (ho : PE X o td) : PC X .NotIn i o (tDNotIn ty td) := by
  intro pins s σ H Q I h
  refine thn (hi pins s σ H _ I h) fun iv s1 ⟨y, H1, I1, ry, q1⟩ => thn (ho pins s1 σ H1 _ I1 q1) fun u s2 ⟨x, H2, I2, rx, a, ov, ex, g, q2⟩ => ?_
  subst ex
  obtain rfl : u = Value.ref a := rx
  exact d_notIn hu I2 g ry fun s3 I3 => ⟨.bl (!ov.isSome), H2, I3, rfl, q2⟩
theorem ps_dput (hu : X.A.units + 1 < cLine) (ho : PE X o td) (hi : PE X i ty) (hv : PE X value tv) (hs : swapsWith value (some (.Subscript o i pos')) pos.line X.env = pure false) :
    PS X (.Assign [.Subscript o i pos'] value pos) (sDPut td ty tv) := by
  intro pins s σ H D I h
  refine wpAny_Assign_Subscript (thn (hv pins s σ H _ I h) fun r s1 ⟨v, H1, I1, rv, q1⟩ => thn (ho pins s1 σ H1 _ I1 q1) fun u s2 ⟨x, H2, I2, rx, q2⟩ => thn (hi pins s2 σ H2 _ I2 q2) fun iv s3 ⟨y, H3, I3, ry, a, H4, ex, g, q3⟩ => ?_) hs
  subst ex
  obtain rfl : u = Value.ref a := rx
  exact d_setItem hu I3 g ry rv fun s4 I4 => ⟨σ, H4, I4, q3⟩
end


theorem dk_empty {P : Program} {w : World} {H : Hp} (h : Heap) (hb : sysModules < h.objs.size) : ObjOk P w H (h.push { cls := .type "dict", data := .dict #[] }) h.objs.size (.dK []) :=
  ⟨Nat.zero_le _, beq_eq_false_iff_ne.mpr (Ne.symm (Nat.ne_of_lt hb)), [], .nil, Heap.DictOf.new h⟩
/-- {}, to be a dict of the kind that is wanted -/
def tDNewK : TE := fun _ H Q => ∀ p, H p = none → Q (.ref p) (upd H p (.dK []))
section
variable {X : Cx} {pos : Pos}
theorem pe_dnewK : PE X (.Dict [] [] pos) tDNewK := fun pins s σ H Q I h =>
  wpAny_Dict_empty ⟨.ref s.heap.objs.size, _, I.laid (a := s.heap.objs.size) (o := .dK []) (t' := s.toks) (fun _ _ q => Heap.get?_push_of_some _ q) (Nat.le_refl _) (dk_empty s.heap I.big), rfl, h _ (I.hok.fresh (Nat.le_refl _))⟩
end

/-- the pairs of a display, from the left -/
def tPairs : List (TE × TE) → St → Hp → (List (V × V) → Hp → Prop) → Prop
  | [], _, H, Q => Q [] H
  | (tk, tv) :: r, σ, H, Q => tk σ H fun x H1 => tv σ H1 fun y H2 => tPairs r σ H2 fun ps H3 => Q ((x, y) :: ps) H3
abbrev VV : List (V × V) → List (Value × Value) → Prop := Paired fun p q => RelV p.1 q.1 ∧ RelV p.2 q.2
def PPs (X : Cx) (pos : Pos) (keys : List (Option Expr)) (values : List Expr) (trs : List (TE × TE)) : Prop :=
  ∀ (pins : List (Addr × Obj)) (s : Shared) (σ : St) (H : Hp) (Q : List (V × V) → Hp → Prop), Inv X pins σ H s → tPairs trs σ H Q →
    wpAny (model X.prog X.w) X.A (evalPairs (pairTrees keys values X.env pos)) (fun vs s' => ∃ ps H', Inv X pins σ H' s' ∧ VV ps vs ∧ Q ps H') X.xe s
theorem pps_nil {X : Cx} {pos : Pos} : PPs X pos [] [] [] := fun pins s σ H Q I h => pairTrees_nil_walk ⟨[], H, I, .nil, h⟩
theorem pps_cons {X : Cx} {pos : Pos} {k v : Expr} {ks : List (Option Expr)} {vs : List Expr} {tk tv : TE} {trs : List (TE × TE)} (hk : PE X k tk) (hv : PE X v tv) (hr : PPs X pos ks vs trs) :
    PPs X pos (some k :: ks) (v :: vs) ((tk, tv) :: trs) := fun pins s σ H Q I h =>
  pairTrees_cons_walk (thn (hk pins s σ H _ I h) fun u s1 ⟨x, H1, I1, rx, q1⟩ => thn (hv pins s1 σ H1 _ I1 q1) fun w2 s2 ⟨y, H2, I2, ry, q2⟩ =>
    thn (hr pins s2 σ H2 _ I2 q2) fun ws s3 ⟨ps, H3, I3, rel, q3⟩ => ⟨(x, y) :: ps, H3, I3, .cons ⟨rx, ry⟩ rel, q3⟩)

def mergeK (kvs more : List (Key × V)) : List (Key × V) := more.foldl (fun acc kv => putK acc kv.1 kv.2) kvs
theorem KV.merge : ∀ {more : List (Key × V)} {rs : List (Key × Value)} {kvs : List (Key × V)} {vs : List (Key × Value)}, KV more rs → KV kvs vs → KV (mergeK kvs more) (merged vs rs) := by
  intro more rs kvs vs r
  unfold KV at r
  induction r generalizing kvs vs with
  | nil => intro q; exact q
  | @cons p q ps qs h t ih =>
    intro r0
    have e : KV (putK kvs p.1 p.2) (stored vs q.1 q.2) := by
      have := r0.put p.1 h.2
      rw [← h.1]; exact this
    exact ih e
theorem length_mergeK : ∀ (more kvs : List (Key × V)), (mergeK kvs more).length ≤ kvs.length + more.length
  | [], kvs => by show kvs.length ≤ kvs.length + 0; omega
  | p :: r, kvs => by
    have h1 := length_mergeK r (putK kvs p.1 p.2)
    have h2 := length_putK kvs p.1 p.2
    show (mergeK (putK kvs p.1 p.2) r).length ≤ _
    rw [List.length_cons]; omega
theorem carries_of {P : Program} {w : World} : ∀ {kvs : List (Key × V)} {ws : List (Value × Value)}, VV (kvs.map fun kv => (kV kv.1, kv.2)) ws → ∃ rs, Carries (mixKind P w) ws rs ∧ KV kvs rs
  | [], _, r => by rw [List.map_nil] at r; cases r; exact ⟨[], True.intro, .nil⟩
  | p :: kvs, _, r => by
    rw [List.map_cons] at r
    cases r with
    | @cons a b as bs h t =>
      obtain ⟨rs, c, q⟩ := carries_of (P := P) (w := w) t
      obtain ⟨b1, b2⟩ := b
      exact ⟨(p.1, b2) :: rs, ⟨kV_is h.1, rfl, c⟩, .cons ⟨rfl, h.2⟩ q⟩
/-- {k: v, ..} with keys ints and texts; the new dict stands empty while the pairs are made -/
def tDisp (trs : List (TE × TE)) : TE := fun σ H Q => ∀ p, H p = none → tPairs trs σ (upd H p (.dK [])) fun ps H2 => H2 p = some (.dK []) ∧ ∃ kvs : List (Key × V), ps = kvs.map (fun kv => (kV kv.1, kv.2)) ∧ kvs.length ≤ 15 ∧ Q (.ref p) (upd H2 p (.dK (mergeK [] kvs)))
theorem pe_disp {X : Cx} {pos : Pos} {keys : List (Option Expr)} {values : List Expr} {trs : List (TE × TE)} (h : PPs X pos keys values trs) (hall : keys.all (·.isSome) = true) (hl : keys.length = values.length) (h0 : keys ≠ [])
    (h15 : keys.length ≤ 15) : PE X (.Dict keys values pos) (tDisp trs) := by
  intro pins s σ H Q I q
  have hn := I.hok.fresh (Nat.le_refl s.heap.objs.size)
  have I1 := I.laid (a := s.heap.objs.size) (o := .dK []) (h' := s.heap.push { cls := .type "dict", data := .dict #[] }) (t' := s.toks) (fun _ _ q => Heap.get?_push_of_some _ q) (Nat.le_refl _) (dk_empty s.heap I.big)
  refine wpAny_Dict_walk (knd := mixKind X.prog X.w) hall hl h0 h15 (thn (h pins _ σ _ _ I1 (q _ hn)) fun ws s2 ⟨ps, H2, I2, rel, e, kvs, ep, lk, q2⟩ => ?_)
  subst ep
  obtain ⟨rs, c, rk⟩ := carries_of (P := X.prog) (w := X.w) rel
  obtain ⟨z, hd, vs0, r0, dd⟩ := dk_of I2.hok e
  cases r0
  refine ⟨rs, c, dd, fun h' dd' hs => ⟨.ref s.heap.objs.size, _, ?_, rfl, q2⟩⟩
  have hz : (mergeK [] kvs).length ≤ sizeLine := by
    have h1 := length_mergeK kvs []
    rw [List.length_nil] at h1
    rw [sizeLine_eq]; omega
  have he : ∃ q, h'.get? s.heap.objs.size = some q := let ⟨q, _, _, hq, _⟩ := dd'; ⟨q, hq⟩
  exact d_write I2 (by rw [e]; exact True.intro) hs he (dk_new hz hd (rk.merge .nil) dd')


/-- a method call o.m(e) of a built-in, with one argument: what must be seen of the text -/
structure M1 (X : Cx) (o : Expr) (m : Str) (apos : Pos) (e : Expr) (cpos : Pos) : Prop where
  base : attributeBase o m X.env (eval o X.env) = eval o X.env
  few : ((backTo cpos (starEach [e] X.env)).all (fun x => !x.1) && (backToKw cpos (keywordEach [] X.env)).all (fun x => x.1.isSome)
    && decide (([e] : List Expr).length + ([] : List Keyword).length + (if ([] : List Keyword).isEmpty then 0 else 1) < 30)) = true
  line : (apos.endLine == cpos.line) = true
  trees : backTo cpos (starEach [e] X.env) = [(false, eval e X.env)]
structure M2 (X : Cx) (o : Expr) (m : Str) (apos : Pos) (e f : Expr) (cpos : Pos) : Prop where
  base : attributeBase o m X.env (eval o X.env) = eval o X.env
  few : ((backTo cpos (starEach [e, f] X.env)).all (fun x => !x.1) && (backToKw cpos (keywordEach [] X.env)).all (fun x => x.1.isSome)
    && decide (([e, f] : List Expr).length + ([] : List Keyword).length + (if ([] : List Keyword).isEmpty then 0 else 1) < 30)) = true
  line : (apos.endLine == cpos.line) = true
  trees : backTo cpos (starEach [e, f] X.env) = [(false, eval e X.env), (false, eval f X.env)]


section
variable {X : Cx} {pins : List (Addr × Obj)} {σ : St} {H : Hp} {s : Shared} {a : Addr} {y d : V} {u r : Value} {o : Option V} {A : Around} {E : Value → Shared → Prop}
end

section
variable {X : Cx} {o e f : Expr} {apos cpos : Pos} {td ty tx : TE}
end

section
variable {X : Cx} {pins : List (Addr × Obj)} {σ : St} {H : Hp} {s : Shared} {a : Addr} {kvs : List (Key × V)} {A : Around} {E : Value → Shared → Prop}
end


section
variable {X : Cx} {pins : List (Addr × Obj)} {σ : St} {H : Hp} {s : Shared} {a : Addr} {y : V} {u : Value} {A : Around} {E : Value → Shared → Prop}
end
end L2

namespace Att
open PySem PySem.W PySem.Calls PyProof.Rows

theorem ints_of_wellAll {P : Params} {h : Heap} : ∀ (ns : List Int) (vs : List Value), WellAll P h vs (ns.map WData.int) → IntsAre vs ns := by
  intro ns
  induction ns with
  | nil =>
    intro vs w
    rw [List.map_nil] at w
    cases w
    exact .nil
  | cons n ns ih =>
    intro vs w
    rw [List.map_cons] at w
    cases w with
    | cons a b =>
      cases a
      exact .cons _ _ (ih _ b)

theorem script_of {l : OpenLaw} {n : Nat} (hn : l.most = some n) {P : Params} {h : Heap} {args : List WData} {vals : List Value}
    (hpre : l.row.toRowW.claim.pre args = true) (hwl : WellAll P h vals args) :
    ∃ a vs ns, vals = [Value.ref a] ∧ args = [WData.list (ns.map WData.int)] ∧ h.get? a = some { cls := .type "list", data := .seq vs.toArray } ∧ IntsAre vs ns ∧ ns.length ≤ n := by
  have hsh : WShape.hasAll [] args [.list .int] = true := (pre_splitW hpre).1
  have hc : l.pre.holds [] { args := args } = true := (pre_splitW hpre).2
  obtain ⟨d, r, rfl, h1, h2⟩ := hasAllW_cons hsh
  obtain rfl := hasAllW_nil h2
  obtain ⟨xs, rfl, h3⟩ := hasW_list h1
  obtain ⟨ns, rfl⟩ := items_int h3
  have hlen : ns.length ≤ n := by
    unfold OpenLaw.pre at hc
    have h4 : (WTm.not (.lt (.lit (.int (n : Int))) (.len (.arg 0)))).holds [] { args := [.list (ns.map .int)] } = true := by
      have h4 := (holds_andW hc).1
      rw [hn] at h4
      exact h4
    have h5 := condW_of h4 (w_not (w_lt w_lit (w_len_list (w_arg rfl))))
    rw [List.length_map] at h5
    refine Nat.le_of_not_lt fun q => ?_
    have q' : (n : Int) < ((ns.length : Nat) : Int) := by omega
    first
      | (rw [decide_eq_true q'] at h5; exact absurd h5 (by decide))
      | (simp at h5; omega)
  cases hwl with
  | cons w1 w2 =>
    cases w2
    cases w1 with
    | list ho hall => exact ⟨_, _, ns, rfl, rfl, ho, ints_of_wellAll ns _ hall, hlen⟩

theorem post_true (l : OpenLaw) (args : List WData) : l.row.toRowW.claim.post args (.bool true) args = true :=
  postW_of (r := l.row.toRowW) (X := (true == true))
    (show WShape.has [] (.bool true) .bool = true by first | rfl | decide | simp [WShape.has, WShape.arms, WShape.armsAll])
    (show (WTm.eq .res (.lit (.bool true))).value [] { args := args, res := some (.bool true), after := args } = some (.bool (true == true)) from w_eq_bool (w_res rfl) w_lit) rfl


/-- the same from a codeAny of the CALL (for a layer whose function contracts speak of calls) -/
theorem attach_call {l : OpenLaw} {n : Nat} {q : Program} {loose : List Str} {XP : (Str → Option Value) → Heap → Prop} {YP : World → Heap → Prop} {d : DefRec}
    (hn : l.most = some n) (hdf : d.params.defaults = [])
    (call : ∀ (w : World) (s₀ s₁ : Shared) (mg mb : Str → Option Value) (fa : Addr) (o : Obj) (pm cd doc : Value) (a : Addr) (vs : List Value) (ns : List Int),
      Ground q loose [] XP w s₀ mg mb s₁.heap → YP w s₁.heap →
      s₁.heap.get? fa = some o → o.data = .func (docDef d.name d.params d.body d.scope pm cd doc) → s₁.heap.CodeRec cd d.name → mg d.name = some (.ref fa) →
      s₁.heap.get? a = some { cls := .type "list", data := .seq vs.toArray } → IntsAre vs ns → ns.length ≤ n → s₁.gens = #[] →
      codeAny (model l.prog w) callerA (.call (.ref fa) ⟨[.ref a], []⟩) (fun r s' => r = .ok (.ret (.bool true)) ∧ OldK s₁.heap s'.heap ∧ s'.os = s₁.os ∧ AllBare s'.gens) s₁) :
    WalkO q loose XP YP l.row.toRowW d [] (fun f vs => PySem.call f vs) := by
  intro w s₀ s₁ mg mb G Y fa o pm cd doc dV kV ho hd hcd hD hmg hg args vals as hpre hlay hrd hwl hlo
  obtain rfl : dV = .none := Dflts.none hD hdf
  obtain rfl : kV = .none := Dflts.noKw hD
  obtain ⟨a, vs, ns, rfl, rfl, hobj, hints, hlen⟩ := script_of hn hpre hwl
  refine enter_call (codeAny_mono (call w s₀ s₁ mg mb fa o pm cd doc a vs ns G Y ho (fd_plain hd) hcd hmg hobj hints hlen hg) fun r s' hq => ?_)
  obtain ⟨rfl, h2, h3, h4⟩ := hq
  exact ⟨.inl ⟨.bool true, .bool true, [], rfl, fun _ => rfl, .bool true, post_true l _, fun _ => ⟨List.Pairwise.nil, fun _ hm => (nomatch hm)⟩⟩, h2, h3, h4⟩


section
variable {prog : Program} {w : World} {A : Around} {E : Value → Shared → Prop} {s : Shared} {K : Frag}





def ledger (h : Heap) (L d : Addr) : List (Addr × Obj) := (List.range h.objs.size).filterMap fun a => if a = L ∨ a = d then none else (h.get? a).map fun o => (a, o)

end
end Att

namespace L2
open PySem PySem.Spec PyProof.Rows

theorem vals_ints : ∀ {vs : List Value} {ns : List Int}, IntsAre vs ns → Vals (ns.map V.int) vs
  | _, _, .nil => .nil
  | _, _, .cons n t h => .cons ⟨t, rfl⟩ (vals_ints h)


end L2

namespace L2
open PySem PySem.Spec PyProof.Rows


end L2


namespace L2
open PySem PySem.Spec PyProof.Rows

/-- the j-th statement of a class's body -/
def defArgs (s : Stmt) : Arguments := match s with
  | .FunctionDef _ a _ _ _ _ _ _ _ _ => a
  | _ => { posonlyargs := [], args := [], vararg := none, kwonlyargs := [], kw_defaults := [], kwarg := none, defaults := [] }
def defBody (s : Stmt) : List Stmt := match s with
  | .FunctionDef _ _ b _ _ _ _ _ _ _ => b
  | _ => []
def defScope (s : Stmt) : Scope := match s with
  | .FunctionDef _ _ _ _ _ _ sc _ _ _ => sc
  | _ => { kind := .function, names := [], isGenerator := false, isCoroutine := false }

abbrev CX0 : CXT := fun _ _ _ _ _ _ => False
abbrev E0 : XK := fun _ _ _ => False
theorem pass0 {X : Cx} : Passes CX0 X E0 := fun _ _ _ _ _ _ _ h => h.elim

structure Fun (K : PySem.W.Frag) (x qual : Str) (st : Stmt) (f : Addr) (fd : FuncData) : Prop where
  ex : ∃ (oc : Value) (od : Option Addr) (kV doc pm : Value) (an : Option Addr) (cdv ct : Value) (osl : Array (Option Value)),
    fd = PySem.W.fnOf x qual (defArgs st) (defBody st) (defScope st) .none kV doc pm an cdv ct ∧ K.lookup f = some ⟨oc, od, .func fd, osl⟩ ∧ PySem.W.codeIn K cdv qual = true
  kp : PySem.W.keepIn K (.ref f) = true
section
variable {P : Program} {w : World} {K : PySem.W.Frag} {mg : Str → Option Value} {base : Heap}
/-- THE RULE for a def: its body as a term of rules, and the reading of that term -/
theorem Fun.ok {x qual : Str} {st : Stmt} {f : Addr} {fd : FuncData} {N ps : List Str} {k : Nat} {sp : Sp} (F : Fun K x qual st f fd) (S : FnScope N ps (defScope st)) (len : ∀ vs H Q E, sp vs H Q E → vs.length = ps.length)
    (hbody : ∀ (cdv : Value) (A : Around) (outer : List Env) (s : Shared) (H : Hp) (vs : List V) (Q : VK) (E : XK), Room k (A.deeper (envOfC qual (defScope st) s.heap.objs.size f cdv)) → sp vs H Q E →
      ∃ t, PSs (cxOf CX0 P w K mg base N qual (defScope st) f cdv A outer s H E).nox (defBody st) t ∧ t { nx := fun _ H' => Q .non H', rt := Q } (start N vs) H) : FnOk P w K mg base CX0 (k + 1) f fd ps sp := by
  obtain ⟨oc, od, kV, doc, pm, an, cdv, ct, osl, rfl, lk, hcd⟩ := F.ex
  refine fn_of lk hcd S len fun A outer s H vs Q E hr hsp => ?_
  obtain ⟨t, h, q⟩ := hbody cdv A outer s H vs Q E hr hsp
  exact ⟨t, h.nox, q⟩
/-- how its arguments bind (no defaults): h is «fun _ _ _ _ _ _ us hl => match us, hl with | [_, _], _ => rfl», one _ a parameter -/
theorem Fun.binds {x qual : Str} {st : Stmt} {f : Addr} {fd : FuncData} {ps : List Str} (F : Fun K x qual st f fd)
    (h : ∀ (kV doc pm : Value) (an : Option Addr) (cdv ct : Value) (us : List Value), us.length = ps.length → bindArgs (PySem.W.fnOf x qual (defArgs st) (defBody st) (defScope st) .none kV doc pm an cdv ct) ⟨us, []⟩ = pure (ps.zip us)) : Binds K fd ps [] := by
  obtain ⟨oc, od, kV, doc, pm, an, cdv, ct, osl, rfl, lk, hcd⟩ := F.ex
  exact .all (h kV doc pm an cdv ct)
theorem fun_mk {x qual : Str} {st : Stmt} {f : Addr} {oc : Value} {od an : Option Addr} {osl : Array (Option Value)} {kV doc pm cdv ct : Value} (l : K.lookup f = some ⟨oc, od, .func (PySem.W.fnOf x qual (defArgs st) (defBody st) (defScope st) .none kV doc pm an cdv ct), osl⟩)
    (c : PySem.W.codeIn K cdv qual = true) (k : PySem.W.keepIn K (.ref f) = true) : Fun K x qual st f (PySem.W.fnOf x qual (defArgs st) (defBody st) (defScope st) .none kV doc pm an cdv ct) := ⟨⟨oc, od, kV, doc, pm, an, cdv, ct, osl, rfl, l, c⟩, k⟩
end
theorem hu_of {A : Around} {k : Nat} (hr : Room k A) : A.units + 1 < cLine := Nat.lt_of_le_of_lt (Nat.add_le_add_left (by decide : 1 ≤ 64) _) hr.units

section
variable {X : Cx}
theorem pv (i : Nat) {x : Str} {pos : Pos} (hN : X.N[i]? = some x := by rfl) (hv : Vis X.env.scope x := by first | exact Or.inl rfl | exact Or.inr (Or.inl rfl) | exact Or.inr (Or.inr rfl)) (hd : (x == ("__debug__" : Str)) = false := by decide)
    (hcd : (x == ("__classdict__" : Str)) = false := by decide) : PE X (.Name x pos) (tVar i) := pe_var hN hv hd hcd
end

theorem iteF {A B : Prop} (h : B) : if false = true then A else B := by
  rw [if_neg Bool.false_ne_true]
  exact h
theorem iteT {A B : Prop} (h : A) : if true = true then A else B := by
  rw [if_pos rfl]
  exact h
theorem ite2 {c A B : Prop} [Decidable c] (h1 : c → A) (h2 : ¬ c → B) : if c then A else B := by
  by_cases h : c
  · rw [if_pos h]
    exact h1 h
  · rw [if_neg h]
    exact h2 h

/-- all that was tracked is as it was -/
def Same (H H' : Hp) : Prop := ∀ b o, H b = some o → H' b = some o
theorem Same.refl (H : Hp) : Same H H := fun _ _ h => h
theorem Same.trans {H H1 H2 : Hp} (a : Same H H1) (b : Same H1 H2) : Same H H2 := fun c o h => b c o (a c o h)
theorem Same.free {H H' : Hp} (e : Same H H') {l : Addr} (h : H' l = Option.none) : H l = Option.none := by
  cases q : H l with
  | none => rfl
  | some o =>
    rw [e l o q] at h
    cases h
theorem Same.seq {K : PySem.W.Frag} {H H' : Hp} {a : Addr} {xs : List V} (e : Same H H') (h : SqL K H a xs) : SqL K H' a xs := by
  rcases h with (h | ⟨o, h⟩) | h
  · exact .inl (.inl (e _ _ h))
  · exact .inl (.inr ⟨o, e _ _ h⟩)
  · exact .inr h

section
variable {κ : Type} [DecidableEq κ]
end
end L2


namespace L2
open PySem PySem.Spec PyProof.Rows

def closGo (cells : List (Str × Addr)) : List (Str × NameKind) → List (Str × Addr) → List (Str × Addr)
  | [], cs => cs
  | (n, k) :: r, cs => if (k == NameKind.free) = true then (match cells.lookup n with | some c => closGo cells r ((n, c) :: cs) | none => closGo cells r cs) else closGo cells r cs
theorem clos_eq {scope : Scope} {env : Env} (h : ∀ x ∈ scope.names, x.2 = .free → ∃ c, env.cells.lookup x.1 = some c) : closureFor scope env = pure (closGo env.cells scope.names []) := by
  have go : ∀ (l : List (Str × NameKind)) (cs : List (Str × Addr)), (∀ x ∈ l, x.2 = .free → ∃ c, env.cells.lookup x.1 = some c) →
      (forIn (m := Sem) l cs fun x r => match x with | (name, kind) => if (kind == NameKind.free) = true then do let c ← cellOf env name; pure (ForInStep.yield ((name, c) :: r)) else pure (ForInStep.yield r)) = pure (closGo env.cells l cs) := by
    intro l
    induction l with
    | nil => intro cs _; rfl
    | cons x r ih =>
      intro cs hx
      obtain ⟨n, k⟩ := x
      have hr := fun cs => ih cs fun y hy => hx y (List.mem_cons.mpr (.inr hy))
      rw [List.forIn_cons]
      by_cases e : (k == NameKind.free) = true
      · obtain ⟨c, hc⟩ := hx (n, k) (List.mem_cons.mpr (.inl rfl)) (by simpa using e)
        have hc : env.cells.lookup n = some c := hc
        have e1 : cellOf env n = pure c := by unfold cellOf; rw [hc]
        simp only [e, if_true, closGo, hc, e1, pure_bind]
        exact hr _
      · have e' : (k == NameKind.free) = false := by simpa using e
        simp only [e', closGo, Bool.false_eq_true, if_false, pure_bind]
        exact hr _
  have q := go scope.names [] h
  unfold closureFor
  first
    | (simp only [bind_pure] ; exact q)
    | (rw [show (forIn (m := Sem) scope.names ([] : List (Str × Addr)) _) = _ from q]; rfl)
    | (simp only []; exact q)
theorem closGo_from {cells : List (Str × Addr)} : ∀ {l : List (Str × NameKind)} {cs : List (Str × Addr)}, (∀ p ∈ cs, cells.lookup p.1 = some p.2) → ∀ p ∈ closGo cells l cs, cells.lookup p.1 = some p.2
  | [], cs, h, p, hp => h p hp
  | (n, k) :: r, cs, h, p, hp => by
    unfold closGo at hp
    split at hp
    · split at hp
      · rename_i c hc
        refine closGo_from (l := r) (cs := (n, c) :: cs) (fun q hq => ?_) p hp
        rcases List.mem_cons.mp hq with rfl | hq
        · exact hc
        · exact h q hq
      · exact closGo_from (l := r) h p hp
    · exact closGo_from (l := r) h p hp
theorem closGo_sub {cells : List (Str × Addr)} : ∀ {l : List (Str × NameKind)} {cs : List (Str × Addr)}, ∀ p ∈ cs, p ∈ closGo cells l cs
  | [], cs, p, hp => hp
  | (n, k) :: r, cs, p, hp => by
    unfold closGo
    split
    · split
      · exact closGo_sub (l := r) p (List.mem_cons.mpr (.inr hp))
      · exact closGo_sub (l := r) p hp
    · exact closGo_sub (l := r) p hp
theorem closGo_in {cells : List (Str × Addr)} {x : Str} {c : Addr} (hc : cells.lookup x = some c) : ∀ {l : List (Str × NameKind)} {cs : List (Str × Addr)}, (x, NameKind.free) ∈ l → (x, c) ∈ closGo cells l cs
  | [], cs, m => nomatch m
  | (n, k) :: r, cs, m => by
    unfold closGo
    rcases List.mem_cons.mp m with e | m
    · injection e with e1 e2
      subst e1; subst e2
      rw [if_pos (by rfl)]
      simp only [hc]
      exact closGo_sub (l := r) _ (List.mem_cons.mpr (.inl rfl))
    · split
      · split
        · exact closGo_in hc (l := r) m
        · exact closGo_in hc (l := r) m
      · exact closGo_in hc (l := r) m
theorem lookup_has {α : Type} {x : Str} {c : α} : ∀ {l : List (Str × α)}, (x, c) ∈ l → ∃ d, l.lookup x = some d
  | [], m => nomatch m
  | (n, d) :: r, m => by
    rw [List.lookup_cons]
    cases e : x == n with
    | true => exact ⟨d, rfl⟩
    | false =>
      rcases List.mem_cons.mp m with z | z
      · injection z with z1 z2
        subst z1
        simp at e
      · exact lookup_has z
theorem closGo_lookup {cells : List (Str × Addr)} {l : List (Str × NameKind)} {x : Str} {c : Addr} (h : (closGo cells l []).lookup x = some c) : cells.lookup x = some c :=
  closGo_from (cells := cells) (l := l) (cs := []) (fun _ m => nomatch m) (x, c) (PySem.mem_of_lookup h)
theorem closGo_has {cells : List (Str × Addr)} {l : List (Str × NameKind)} {x : Str} {c : Addr} (hc : cells.lookup x = some c) (m : (x, NameKind.free) ∈ l) : (closGo cells l []).lookup x = some c := by
  obtain ⟨d, e⟩ := lookup_has (closGo_in hc (cs := []) m)
  have q := closGo_lookup e
  rw [hc] at q
  cases q
  exact e
/-- a name of the comprehension's scope, relabelled -/
theorem relabel_lookup {scope : Scope} {env : Env} {x : Str} {k : NameKind} (h : (relabel scope env).names.lookup x = some k) : ∃ k', scope.names.lookup x = some k' ∧ (k = k' ∨ (k' = .free ∧ k = .cell)) := by
  have go : ∀ (l : List (Str × NameKind)), (l.map fun (n, k) => if (k == NameKind.free && env.scope.kind == .function && env.kindOf n == some .cell) then (n, NameKind.cell) else (n, k)).lookup x = some k → ∃ k', l.lookup x = some k' ∧ (k = k' ∨ (k' = .free ∧ k = .cell)) := by
    intro l
    induction l with
    | nil => intro h; cases h
    | cons p r ih =>
      obtain ⟨n, k0⟩ := p
      intro h
      have h : List.lookup x ((if (k0 == NameKind.free && env.scope.kind == .function && env.kindOf n == some .cell) = true then (n, NameKind.cell) else (n, k0)) :: (r.map fun (n, k) => if (k == NameKind.free && env.scope.kind == .function && env.kindOf n == some .cell) then (n, NameKind.cell) else (n, k))) = some k := h
      rw [List.lookup_cons]
      cases hx : x == n with
      | true =>
        refine ⟨k0, rfl, ?_⟩
        by_cases hc : (k0 == NameKind.free && env.scope.kind == .function && env.kindOf n == some .cell) = true
        · rw [if_pos hc, List.lookup_cons, hx] at h
          cases h
          have : (k0 == NameKind.free) = true := by
            rw [Bool.and_assoc, Bool.and_eq_true] at hc
            exact hc.1
          exact .inr ⟨by simpa using this, rfl⟩
        · rw [if_neg hc, List.lookup_cons, hx] at h
          cases h
          exact .inl rfl
      | false =>
        refine ih ?_
        by_cases hc : (k0 == NameKind.free && env.scope.kind == .function && env.kindOf n == some .cell) = true
        · rw [if_pos hc, List.lookup_cons, hx] at h
          exact h
        · rw [if_neg hc, List.lookup_cons, hx] at h
          exact h
  exact go _ h
theorem relabel_free {scope : Scope} {env : Env} {x : Str} (h : scope.names.lookup x = some .free) : (relabel scope env).names.lookup x = some .cell ∨ (relabel scope env).names.lookup x = some .free := by
  have go : ∀ (l : List (Str × NameKind)), l.lookup x = some .free → (l.map fun (n, k) => if (k == NameKind.free && env.scope.kind == .function && env.kindOf n == some .cell) then (n, NameKind.cell) else (n, k)).lookup x = some .cell ∨
      (l.map fun (n, k) => if (k == NameKind.free && env.scope.kind == .function && env.kindOf n == some .cell) then (n, NameKind.cell) else (n, k)).lookup x = some .free := by
    intro l
    induction l with
    | nil => intro h; cases h
    | cons p r ih =>
      obtain ⟨n, k0⟩ := p
      intro h
      show List.lookup x ((if (k0 == NameKind.free && env.scope.kind == .function && env.kindOf n == some .cell) = true then (n, NameKind.cell) else (n, k0)) :: _) = _ ∨ List.lookup x ((if (k0 == NameKind.free && env.scope.kind == .function && env.kindOf n == some .cell) = true then (n, NameKind.cell) else (n, k0)) :: _) = _
      rw [List.lookup_cons] at h
      cases hx : x == n with
      | true =>
        rw [hx] at h
        cases h
        by_cases hc : (NameKind.free == NameKind.free && env.scope.kind == .function && env.kindOf n == some .cell) = true
        · rw [if_pos hc]; exact .inl (by rw [List.lookup_cons, hx])
        · rw [if_neg hc]; exact .inr (by rw [List.lookup_cons, hx])
      | false =>
        rw [hx] at h
        by_cases hc : (k0 == NameKind.free && env.scope.kind == .function && env.kindOf n == some .cell) = true
        · rw [if_pos hc]; simp only [List.lookup_cons, hx]; exact ih h
        · rw [if_neg hc]; simp only [List.lookup_cons, hx]; exact ih h
  exact go _ h

def capN (N : List Str) (ts : List Str) (cs : List Nat) : List Str := ts ++ cs.map fun i => N.getD i ""
def capS (σ : St) (ts : List Str) (cs : List Nat) : St := (ts.map fun _ => none) ++ cs.map fun i => σ.getD i none
/-- what is to be looked at: the outer scope, the outer names, the block's scope, its targets, the outer slots that it reads -/
def compOk (os : Scope) (N : List Str) (scope : Scope) (ts : List Str) (cs : List Nat) : Bool :=
  (scope.kind == .function) && (scope.names.all fun y => y.2 != .cell) && (ts.all fun x => scope.names.lookup x == some .local) &&
  (scope.names.all fun y => y.2 != .local || scope.names.lookup y.1 == some .local) &&
  (scope.names.all fun y => y.2 != .free || (os.names.lookup y.1 == some .cell || os.names.lookup y.1 == some .free)) &&
  (cs.all fun i => decide (i < N.length) && scope.names.lookup (N.getD i "") == some .free) && decide (capN N ts cs).Nodup
def cxComp (X : Cx) (scope : Scope) (ts : List Str) (cs : List Nat) (C : Addr) (fp : List Addr) (pins : List (Addr × Obj)) (s : Shared) (H : Hp) : Cx where
  prog := X.prog
  w := X.w
  K := X.K
  mg := X.mg
  base := X.base
  A := X.A
  N := capN X.N ts cs
  s₀ := s
  H₀ := H
  env := compEnvC scope (closGo X.env.cells scope.names []) C X.env
  outer := X.stack
  stack := X.stack
  ex := fp
  fn := fun _ => false
  calm := X.calm
  pn := X.pn ++ pins
  xe := fun _ _ => False
structure CompOk (X : Cx) (scope : Scope) (ts : List Str) (cs : List Nat) : Prop where
  kind : scope.kind = .function
  nocell : ∀ y ∈ scope.names, y.2 ≠ .cell
  tgt : ∀ x ∈ ts, scope.names.lookup x = some .local
  locs : ∀ y ∈ scope.names, y.2 = .local → scope.names.lookup y.1 = some .local
  fre : ∀ y ∈ scope.names, y.2 = .free → X.env.kindOf y.1 = some .cell ∨ X.env.kindOf y.1 = some .free
  cap : ∀ i ∈ cs, ∃ y, X.N[i]? = some y ∧ X.N.getD i "" = y ∧ scope.names.lookup y = some .free
  nd : (capN X.N ts cs).Nodup
theorem CompOk.of {X : Cx} {os : Scope} {N : List Str} {scope : Scope} {ts : List Str} {cs : List Nat} (h : compOk os N scope ts cs = true) (ho : X.env.scope = os) (hN : X.N = N) : CompOk X scope ts cs := by
  subst ho hN
  unfold compOk at h
  simp only [Bool.and_eq_true, beq_iff_eq, List.all_eq_true, Bool.or_eq_true, bne_iff_ne, ne_eq, decide_eq_true_eq] at h
  obtain ⟨⟨⟨⟨⟨⟨h1, h2⟩, h3⟩, h4⟩, h5⟩, h6⟩, h7⟩ := h
  refine ⟨h1, h2, h3, fun y hy hl => (h4 y hy).resolve_left fun z => z hl, fun y hy hl => (h5 y hy).resolve_left fun z => z hl, fun i hi => ?_, h7⟩
  obtain ⟨a, b⟩ := h6 i hi
  refine ⟨X.N[i], List.getElem?_eq_getElem a, ?_, ?_⟩
  · rw [List.getD_eq_getElem?_getD, List.getElem?_eq_getElem a]; rfl
  · rw [List.getD_eq_getElem?_getD, List.getElem?_eq_getElem a] at b; exact b
section
variable {X : Cx} {pins : List (Addr × Obj)} {σ : St} {H : Hp} {s s1 : Shared} {scope : Scope} {ts : List Str} {cs : List Nat} {C : Addr} {fp : List Addr}
theorem CompOk.clos (O : CompOk X scope ts cs) (I : Inv X pins σ H s) : closureFor scope X.env = pure (closGo X.env.cells scope.names []) := clos_eq fun x hx hf => I.ok.has _ (O.fre x hx hf)
theorem comp_ok (O : CompOk X scope ts cs) (I : Inv X pins σ H s) (hC : s.heap.objs.size ≤ C) (hf : ∀ b ∈ fp, FpOk X pins H b) (hl : ∀ b ∈ fp, b < s.heap.objs.size) : (cxComp X scope ts cs C fp pins s H).Ok where
  mod := I.ok.mod
  kind := O.kind
  glob := I.ok.glob
  blt := I.ok.blt
  above := hC
  inj := fun x y c h1 h2 => I.ok.inj x y c (closGo_lookup h1) (closGo_lookup h2)
  has := fun x hx => by
    have : ∃ k, (relabel scope X.env).names.lookup x = some k ∧ (k = .cell ∨ k = .free) := hx.elim (fun h => ⟨_, h, .inl rfl⟩) fun h => ⟨_, h, .inr rfl⟩
    obtain ⟨k, h, hk⟩ := this
    obtain ⟨k', h', e⟩ := relabel_lookup h
    have m := PySem.mem_of_lookup h'
    have e' : k' = .free := by
      rcases e with e | e
      · subst e
        rcases hk with z | z
        · exact absurd z (O.nocell _ m)
        · exact z
      · exact e.1
    subst e'
    obtain ⟨c, hc⟩ := I.ok.has x (O.fre _ m rfl)
    exact ⟨c, closGo_has hc m⟩
  cab := fun _ _ h => nomatch h
  hd := I.ok.hd
  frames := I.ok.frames
  stk := .inl rfl
  exf := fun b hb => by
    obtain ⟨_, _, _, _, f4, _⟩ := hf b hb
    exact ⟨Nat.ne_of_lt (Nat.lt_of_lt_of_le (hl b hb) hC), fun x c h => f4 x c (closGo_lookup h)⟩
  bs := I.bs
  bsz := Nat.le_trans I.ok.bsz I.sz
  noex := fun b o e hb => by
    obtain ⟨_, _, _, f3, _⟩ := hf b hb
    rcases f3 with z | z
    · exact I.ok.noex b o e z
    · exact absurd (Nat.lt_of_lt_of_le (Heap.lt_size e) (Nat.le_trans I.ok.bsz z)) (Nat.lt_irrefl _)
  exfs := fun b hb z => by
    obtain ⟨_, f1, f2, _⟩ := hf b hb
    rcases List.mem_cons.mp (I.stkSub b z) with e | e
    · exact f1 e
    · exact f2 e
  funs := I.stack
  frf := I.stkFree
/-- the block begins -/
theorem comp_start {h1 : Heap} {tk : Nat} {m0 : Str → Option Value} (O : CompOk X scope ts cs) (I : Inv X pins σ H s) (hC : s.heap.objs.size ≤ C) (hf : ∀ b ∈ fp, FpOk X pins H b) (hl : ∀ b ∈ fp, b < s.heap.objs.size)
    (hn : h1.Ns C m0) (old : ∀ b o, s.heap.get? b = some o → h1.get? b = some o) :
    Inv (cxComp X scope ts cs C fp pins s H) [] (capS σ ts cs) H { s with heap := h1, toks := tk } := by
  refine ⟨comp_ok O I hC hf hl, rfl, I.bare, Un.kept old, ⟨m0, hn, fun i x v e1 e2 e3 => ?_⟩, fun x c h => ?_, I.hok.fresh hC, fun x c h => I.freeC x c (closGo_lookup h), fun p hp => ?_, I.hok.kept old, ?_⟩
  · have e1 : (capN X.N ts cs)[i]? = some x := e1
    have e2 : (capS σ ts cs)[i]? = some (some v) := e2
    unfold capN at e1
    unfold capS at e2
    by_cases hi : i < ts.length
    · rw [List.getElem?_append_left (by simpa using hi), List.getElem?_map] at e2
      cases q : ts[i]? with
      | none => rw [q] at e2; cases e2
      | some t => rw [q] at e2; cases e2
    · rw [List.getElem?_append_right (by simpa using hi)] at e1 e2
      rw [List.length_map, List.getElem?_map] at e2
      rw [List.getElem?_map] at e1
      cases q : cs[i - ts.length]? with
      | none => rw [q] at e2; cases e2
      | some j =>
        rw [q] at e1 e2
        have e1 : some (X.N.getD j "") = some x := e1
        have e2 : some (σ.getD j none) = some (some v) := e2
        have e1 := Option.some.inj e1
        have e2 := Option.some.inj e2
        obtain ⟨y, ey, ed, ef⟩ := O.cap j (List.mem_of_getElem? q)
        rw [e1] at ed
        subst ed
        have em := PySem.mem_of_lookup ef
        have kf := O.fre _ em rfl
        obtain ⟨m, hm, hl'⟩ := I.loc
        have es : σ[j]? = some (some v) := by
          rw [List.getD_eq_getElem?_getD] at e2
          cases z : σ[j]? with
          | none => rw [z] at e2; cases e2
          | some w => rw [z] at e2; have e2 : w = some v := e2; rw [e2]
        obtain ⟨u, r, lk⟩ := hl' j x v ey es (kf.elim (fun k => .inr (.inl k)) fun k => .inr (.inr k))
        refine ⟨u, r, ?_⟩
        rcases lk with ⟨k, _⟩ | ⟨_, c, hc, ic⟩
        · exfalso
          rcases kf with z | z <;> (rw [k] at z; cases z)
        · refine .inr ⟨relabel_free ef, c, closGo_has hc em, ?_⟩
          obtain ⟨o, ho, hd⟩ := ic
          exact ⟨o, old c o ho, hd⟩
  · obtain ⟨v, o, ho, hd⟩ := I.cell x c (closGo_lookup h)
    exact ⟨v, o, old c o ho, hd⟩
  · have hp : p ∈ X.pn ++ pins := by
      have hp : p ∈ (X.pn ++ pins) ++ [] := hp
      simpa using hp
    obtain ⟨e, n, ne, nf, d⟩ := I.pin p hp
    refine ⟨old _ _ e, n, Nat.ne_of_lt (Nat.lt_of_lt_of_le (Heap.lt_size e) hC), fun z => ?_, d⟩
    rcases List.mem_cons.mp (I.stkSub _ z) with q | q
    · exact ne q
    · exact nf q
  · show (capS σ ts cs).length = (capN X.N ts cs).length
    simp [capS, capN]
/-- the block is through -/
theorem comp_end {σc : St} {Hc : Hp} {H0 : Hp} (I : Inv X pins σ H0 s) (hf : ∀ b ∈ fp, FpOk X pins H0 b) (J : Inv (cxComp X scope ts cs C fp pins s H0) [] σc Hc s1) : Inv X pins σ Hc s1 := by
  refine I.call' (ch := fp) J.os J.base J.hok J.bare fun b hb => ?_
  obtain ⟨_, f1, f2, f3, f4, f5⟩ := hf b hb
  exact ⟨f3, f1, f4, f5⟩
end

/-- the clause's tests, one after another -/
def testsOf (ifs : List Expr) (v : Env) : Sem Bool :=
  forIn ifs true fun c r => if r = true then
      (do let ok ← isTrue c v (eval c v)
          pure (ForInStep.yield ok))
    else pure (ForInStep.yield r)
/-- one turn: next, the target, the tests, the item; J again with a lesser number -/
def TurnOf (P : Program) (w : World) (A : Around) (v : Env) (tg elt : Expr) (ifs : List Expr) (it acc : Value) (R : Result → Shared → Prop) (J : Nat → Shared → Prop) (n : Nat) (s : Shared) : Prop :=
  let E := notedBy (model P w) A v fun e s' => R (.error e) s'
  wpAny (model P w) A (pyNext it) (fun r s1 => match r with
    | none => R (.ok .next) s1
    | some u => wpAny (model P w) A (letOwnedTupleGo tg it u) (fun _ s2 =>
        wpAny (model P w) A (assign tg v u) (fun _ s3 =>
          wpAny (model P w) A (testsOf ifs v) (fun ok s4 => if ok = true
            then wpAny (model P w) A (eval elt v) (fun x s5 =>
              wpAny (model P w) A (call (.builtin "list.append") [acc, x]) (fun _ s6 => ∃ m, m < n ∧ J m s6) E s5) E s4
            else ∃ m, m < n ∧ J m s4) E s3) E s2) E s1) E s
theorem compLoop_gen {P : Program} {w : World} {A : Around} {R : Result → Shared → Prop} {s : Shared} {elt tg iter : Expr} {ifs : List Expr} {scope : Scope} {pos : Pos} {it acc : Value} {v : Env} (J : Nat → Shared → Prop)
    (turn : ∀ n s, J n s → TurnOf P w A v tg elt ifs it acc R J n s) (n : Nat) (h : J n s) : codeAny (model P w) A (.compLoop (.ListComp elt [⟨tg, iter, ifs, 0⟩] scope pos) 0 it acc v) R s := by
  refine codeAny_loop rfl J (fun n s hJ => ?_) n h
  show wpAny _ A ((compTurn (.ListComp elt [⟨tg, iter, ifs, 0⟩] scope pos) 0 it acc v).onRaise
    (fun x => do noteFrame x v; theTreesLotGoes x)) _ _ s
  refine wpAny_noted ?_
  rw [compTurn_list]
  refine wpAny_bind (wpAny_standAt (wpAny_bind (thn (turn n s hJ) fun r s1 h1 => ?_)))
  cases r with
  | none => exact wpAny_pure h1
  | some u =>
    refine wpAny_bind (thn h1 fun _ s2 h2 => wpAny_bind (thn h2 fun _ s3 h3 => wpAny_bind (thn h3 fun ok s4 h4 => ?_)))
    cases ok with
    | false => exact wpAny_pure ⟨rfl, h4⟩
    | true => exact wpAny_bind (wpAny_bind (thn h4 fun x s5 h5 => wpAny_bind (thn h5 fun _ s6 h6 => wpAny_pure (wpAny_pure ⟨rfl, h6⟩))))

/-- no test, one test -/
def PIfs (X : Cx) (ifs : List Expr) (t : TT) : Prop :=
  ∀ (pins : List (Addr × Obj)) (s : Shared) (σ : St) (H : Hp) (Q : Bool → Hp → Prop), Inv X pins σ H s → t σ H Q →
    wpAny (model X.prog X.w) X.A (testsOf ifs X.env) (TP X pins σ Q) X.xe s
def tYes : TT := fun _ H Q => Q true H
theorem pif_nil {X : Cx} : PIfs X [] tYes := fun _ _ _ H _ I h => wpAny_tests_nil ⟨H, I, h⟩
theorem pif_one {X : Cx} {c : Expr} {t : TT} (h : PT X c t) : PIfs X [c] t := fun pins s σ H Q I hw => wpAny_tests_one (h pins s σ H Q I hw)

/-- the reading of a comprehension: D the new list, W the invariant by turn, measure, items so far, the block's slots, heap -/
def cBody (J : It) (D : Addr) (g : TG) (tc : TT) (te : TE) (σ0 : St) (H1 : Hp) (Q : VK) : Prop :=
  ∃ W : Nat → Nat → List V → St → Hp → Prop, (∃ m, W 0 m [] σ0 H1) ∧ ∀ i m ys σc H2, W i m ys σc H2 → H2 D = some (.lst ys) ∧
    ((J.stop i H2 ∧ Q (.ref D) H2) ∨ (J.go i H2 ∧ ∃ N : List V → St → Hp → Prop, (∀ ys' σ' H', N ys' σ' H' → ∃ m', m' < m ∧ W (i + 1) m' ys' σ' H') ∧ ∀ x H3, J.yld i H2 x H3 → g x σc H3 fun σ4 H4 => tc σ4 H4 fun b H5 =>
      if b = true then te σ4 H5 fun y H6 => H6 D = some (.lst ys) ∧ ys.length < sizeLine ∧ N (ys ++ [y]) σ4 (upd H6 D (.lst (ys ++ [y]))) else N ys σ4 H5))
def tComp (wi : TI) (ts : List Str) (cs : List Nat) (g : TG) (tc : TT) (te : TE) : TE := fun σ H Q =>
  wi σ H fun J H1 => ∀ D, H1 D = none → cBody J D g tc te (capS σ ts cs) (upd H1 D (.lst [])) Q

section
variable {X : Cx} {os scope : Scope} {N ts : List Str} {cs : List Nat} {tg elt iter : Expr} {ifs : List Expr} {pos : Pos} {wi : TI} {g : TG} {tc : TT} {te : TE}
/-- the block's derivations, for every entry -/
def InComp (X : Cx) (scope : Scope) (ts : List Str) (cs : List Nat) (P : Cx → Prop) : Prop := ∀ (C : Addr) (fp : List Addr) (pins : List (Addr × Obj)) (s : Shared) (H : Hp), P (cxComp X scope ts cs C fp pins s H)
theorem comp_block {pins : List (Addr × Obj)} {σ : St} {H : Hp} {s : Shared} {E : Value → Shared → Prop} {it : Addr} {fp : List Addr} {tn : Nat → Heap → Prop} {J : It} {Q : VK} {RR : Value → Addr → Result → Shared → Prop}
    (hc : X.calm = true) (O : CompOk X scope ts cs) (hg : InComp X scope ts cs fun Y => PG Y tg g) (hi : InComp X scope ts cs fun Y => PIfs Y ifs tc) (he : InComp X scope ts cs fun Y => PE Y elt te)
    (I : Inv X pins σ H s) (T : Turn X.prog X.w X.K tg J fp it tn) (st : tn 0 s.heap) (hf : ∀ b ∈ fp, FpOk X pins H b) (hb : ∀ D, H D = none → cBody J D g tc te (capS σ ts cs) (upd H D (.lst [])) Q)
    (hRR : ∀ D C H' s', s.heap.objs.size ≤ C → C ≠ X.env.locals → H' C = none → (∃ m, s'.heap.Ns C m) → FpOk X pins H' C → Inv X pins σ H' s' → Q (.ref D) H' → RR (.ref D) C (.ok .next) s') :
    wpAny (model X.prog X.w) X.A (newList []) (fun acc s₃ => wpAny (model X.prog X.w) X.A (newFunctionEnv scope X.env.globals (closGo X.env.cells scope.names []) [] X.env.qual none .none (some X.env)) (fun cenv s₄ =>
      codeAny (model X.prog X.w) X.A (.compStart (.ListComp elt [⟨tg, iter, ifs, 0⟩] scope pos) 0 (.ref it) acc { cenv with scope := relabel scope X.env }) (RR acc cenv.locals) s₄) E s₃) E s := by
  refine wpAny_newObj_type (wpAny_newFunctionEnv O.nocell (by intro y hy; simp at hy) (fun h₁ hns₁ hsb₁ => ?_) O.kind)
  dsimp only at hns₁ hsb₁ ⊢
  generalize hH2 : s.heap.push { cls := .type "list", dict := none, data := .seq ([] : List Value).toArray } = H2 at hns₁ hsb₁ ⊢
  have hD0 : H s.heap.objs.size = none := I.hok.fresh (Nat.le_refl _)
  obtain ⟨W, ⟨m0, w0⟩, turn⟩ := hb s.heap.objs.size hD0
  have I3 : Inv X pins σ (upd H s.heap.objs.size (.lst [])) { s with heap := H2 } := by
    rw [← hH2]
    exact I.laid (t' := s.toks) (fun b o e => Heap.get?_push_of_some _ e) (Nat.le_refl _) ⟨Nat.zero_le _, [], 0, .nil, Heap.get?_push_size _ rfl⟩
  have hfpo := T.obj 0 _ st
  have hflt : ∀ b ∈ fp, b < s.heap.objs.size := fun b hb => by obtain ⟨o, e, _⟩ := hfpo b hb; exact Heap.lt_size e
  have hsz : H2.objs.size = s.heap.objs.size + 1 := by rw [← hH2, Heap.size_push]
  have hf3 : ∀ b ∈ fp, FpOk X pins (upd H s.heap.objs.size (.lst [])) b := fun b hb => by
    obtain ⟨f0, fr⟩ := hf b hb
    exact ⟨by rw [upd_ne (Nat.ne_of_lt (hflt b hb))]; exact f0, fr⟩
  have old : ∀ b o, H2.get? b = some o → h₁.get? b = some o := fun b o e => hsb₁.extBut b o (Nat.ne_of_lt (Heap.lt_size e)) (Heap.get?_push_of_some _ e)
  have J0 : ∀ tk, Inv (cxComp X scope ts cs H2.objs.size fp pins { s with heap := H2 } (upd H s.heap.objs.size (.lst []))) [] (capS σ ts cs) (upd H s.heap.objs.size (.lst [])) { s with heap := h₁, toks := tk } := fun tk =>
    comp_start (s := { s with heap := H2 }) O I3 (Nat.le_refl _) hf3 (fun b hb => Nat.lt_of_lt_of_le (hflt b hb) (show s.heap.objs.size ≤ H2.objs.size by rw [hsz]; exact Nat.le_succ _)) hns₁ old
  have st1 : tn 0 h₁ := T.keep 0 _ _ st fun b hb o e => old b o (by rw [← hH2]; exact Heap.get?_push_of_some _ e)
  generalize hX : cxComp X scope ts cs H2.objs.size fp pins { s with heap := H2 } (upd H s.heap.objs.size (.lst [])) = Y at J0
  have hgY : PG Y tg g := by rw [← hX]; exact hg _ _ _ _ _
  have hiY : PIfs Y ifs tc := by rw [← hX]; exact hi _ _ _ _ _
  have heY : PE Y elt te := by rw [← hX]; exact he _ _ _ _ _
  have eP : Y.prog = X.prog := by rw [← hX]; rfl
  have eW : Y.w = X.w := by rw [← hX]; rfl
  have eK : Y.K = X.K := by rw [← hX]; rfl
  have eA : Y.A = X.A := by rw [← hX]; rfl
  have eC : Y.calm = true := by rw [← hX]; exact hc
  have eE : Y.env = compEnvC scope (closGo X.env.cells scope.names []) H2.objs.size X.env := by rw [← hX]; rfl
  have eX : Y.xe = fun _ _ => False := by rw [← hX]; rfl
  -- the iterator's objects in the block
  have stat : ∀ {Hc : Hp}, (∀ b ∈ fp, Hc b = none) → ∀ b ∈ fp, FpOk Y [] Hc b := fun {Hc} hn b hb => by
    obtain ⟨f0, f1, f2, f3, f4, f5⟩ := hf b hb
    have ok := comp_ok (ts := ts) (cs := cs) (C := H2.objs.size) (s := { s with heap := H2 }) O I3 (Nat.le_refl _) hf3 (fun b hb => Nat.lt_of_lt_of_le (hflt b hb) (show s.heap.objs.size ≤ H2.objs.size by rw [hsz]; exact Nat.le_succ _))
    rw [← hX]
    refine ⟨hn b hb, (ok.exf b hb).1, ok.exfs b hb, .inl hb, (ok.exf b hb).2, fun p hp => ?_⟩
    have hp : p ∈ (X.pn ++ pins) ++ [] := hp
    exact f5 p (by simpa using hp)
  have loop : ∀ tk, codeAny (model X.prog X.w) X.A (.compLoop (.ListComp elt [⟨tg, iter, ifs, 0⟩] scope pos) 0 (.ref it) (.ref s.heap.objs.size) (compEnvC scope (closGo X.env.cells scope.names []) H2.objs.size X.env)) (RR (.ref s.heap.objs.size) H2.objs.size) { s with heap := h₁, toks := tk } := fun tk => by
    refine compLoop_gen (fun n s' => ∃ i ys σc Hc, W i n ys σc Hc ∧ Inv Y [] σc Hc s' ∧ tn i s'.heap ∧ ∀ b ∈ fp, Hc b = none) ?_ m0 ⟨0, [], _, _, w0, J0 tk, st1, fun b hb => (hf3 b hb).1⟩
    rintro n s1 ⟨i, ys, σc, Hc, w1, J1, t1, fr1⟩
    obtain ⟨hDc, alt⟩ := turn i n ys σc Hc w1
    rcases alt with ⟨stop, q⟩ | ⟨go, N, hN, step⟩
    · have d := T.done Y eP eW eK eC i [] s1 σc Hc (notedBy (model X.prog X.w) X.A (compEnvC scope (closGo X.env.cells scope.names []) H2.objs.size X.env) fun e s' => RR (.ref s.heap.objs.size) H2.objs.size (.error e) s') J1 (stat fr1) t1 stop
      rw [eA] at d
      refine thn d fun r s2 ⟨er, J2⟩ => ?_
      subst er
      have J2' : Inv (cxComp X scope ts cs H2.objs.size fp pins { s with heap := H2 } (upd H s.heap.objs.size (.lst []))) [] σc Hc s2 := by rw [hX]; exact J2
      have fin := comp_end I3 hf3 J2'
      have hCn : Hc H2.objs.size = none := J2'.free
      obtain ⟨m2, hm2, _⟩ := J2'.loc
      exact hRR _ _ Hc s2 (by omega) (Nat.ne_of_gt (Nat.lt_of_lt_of_le I.lt (show s.heap.objs.size ≤ H2.objs.size by rw [hsz]; exact Nat.le_succ _))) hCn ⟨m2, hm2⟩ (I3.fpOk (Nat.le_refl _) hCn) fin q
    · have d := T.item Y eP eW eK eC i [] s1 σc Hc (notedBy (model X.prog X.w) X.A (compEnvC scope (closGo X.env.cells scope.names []) H2.objs.size X.env) fun e s' => RR (.ref s.heap.objs.size) H2.objs.size (.error e) s') J1 (stat fr1) t1 go
      rw [eA] at d
      refine thn d fun r s2 ⟨u, er, d2⟩ => ?_
      subst er
      refine thn d2 fun _ s3 ⟨x, H3, J3, r3, y3, t3, fr3⟩ => ?_
      have J3' := J3.pinned (stat fr3) (T.obj _ _ t3)
      have k1 := hgY _ s3 σc H3 x u _ J3' r3 (step x H3 y3)
      rw [eP, eW, eA, eE] at k1
      refine wpAny_mono k1 (fun _ s4 ⟨σ4, H4, J4, q4⟩ => ?_) (by rw [eX]; exact fun _ _ z => z.elim)
      have k2 := hiY _ s4 σ4 H4 _ J4 q4
      rw [eP, eW, eA, eE] at k2
      refine wpAny_mono k2 (fun b s5 ⟨H5, J5, q5⟩ => ?_) (by rw [eX]; exact fun _ _ z => z.elim)
      have again : ∀ {ys' : List V} {H6 : Hp} {s6 : Shared}, Inv Y ([] ++ pinsAt fp s3.heap) σ4 H6 s6 → (∃ m', m' < n ∧ W (i + 1) m' ys' σ4 H6) → ∃ m', m' < n ∧ ∃ i ys σc Hc, W i m' ys σc Hc ∧ Inv Y [] σc Hc s6 ∧ tn i s6.heap ∧ ∀ b ∈ fp, Hc b = none := fun {ys' H6 s6} J6 ⟨m', hm, w6⟩ => by
        refine ⟨m', hm, i + 1, ys', σ4, H6, w6, J6.unpinned, T.keep _ _ _ t3 fun b hb o e => (J6.pin (b, o) (List.mem_append_right _ (List.mem_append_right _ (mem_pinsAt hb e)))).1, fun b hb => ?_⟩
        obtain ⟨o, e, d⟩ := T.obj _ _ t3 b hb
        exact (J6.pin (b, o) (List.mem_append_right _ (List.mem_append_right _ (mem_pinsAt hb e)))).2.1
      cases b with
      | false =>
        rw [if_neg Bool.false_ne_true] at q5 ⊢
        exact again J5 (hN _ _ _ q5)
      | true =>
        rw [if_pos rfl] at q5 ⊢
        have k3 := heY _ s5 σ4 H5 _ J5 q5
        rw [eP, eW, eA, eE] at k3
        refine wpAny_mono k3 (fun v s6 ⟨y, H6, J6, r6, hD6, hl6, w6⟩ => ?_) (by rw [eX]; exact fun _ _ z => z.elim)
        have k4 := mt_append _ s6 σ4 H6 (.ref s.heap.objs.size) [y] (.ref s.heap.objs.size) [v] (fun _ H7 => H7 = upd H6 s.heap.objs.size (.lst (ys ++ [y]))) J6 rfl (.cons r6 .nil) ⟨_, ys, y, rfl, rfl, hD6, hl6, rfl⟩
        rw [eP, eW, eA] at k4
        refine wpAny_mono k4 (fun _ s7 ⟨_, H7, J7, _, e7⟩ => ?_) (by rw [eX]; exact fun _ _ z => z.elim)
        subst e7
        exact again J7 (hN _ _ _ w6)
  exact codeAny_compStart_list (loop _) (T.self _ 0 _ _ _ st1 (loop _))
/-- [e for t in it if c], its value used -/
theorem pe_comp (hc : X.calm = true) (O : CompOk X scope ts cs) (hp : PI X tg iter wi) (hg : InComp X scope ts cs fun Y => PG Y tg g) (hi : InComp X scope ts cs fun Y => PIfs Y ifs tc) (he : InComp X scope ts cs fun Y => PE Y elt te)
    (hs : ∀ x, foldedSetIterable iter X.env x = pure x := by intro _; rfl) : PE X (.ListComp elt [⟨tg, iter, ifs, 0⟩] scope pos) (tComp wi ts cs g tc te) := by
  intro pins s σ H Q I h
  rw [eval_ListComp]
  refine wpAny_comprehension_free (use := none) rfl hs (O.clos I) O.kind O.locs (thn (hp pins s σ H _ I h) fun v s1 h1 => thn h1 fun itv s2 h2 => ?_)
  obtain ⟨it, fp, tn, J, H2, e, I2, T, st2, f2, hb⟩ := h2
  subst e
  refine comp_block hc O hg hi he I2 T st2 f2 hb fun D C H' s' hC hL hCn hns fpc fin q => ?_
  obtain ⟨m, hm⟩ := hns
  refine ⟨m, hm, fun h' sb => ?_⟩
  obtain ⟨f0, f1, f2, f3, f4, f5⟩ := fpc
  exact ⟨.ref D, H', fin.turned (t' := s'.toks) (fun b o hb e => sb.extBut b o hb e) f0 f1 f3 f4 f5, rfl, q⟩
/-- name = [e for t in it if c], the name a plain local: stored ahead of the block's variables' going -/
theorem ps_setc {i : Nat} {y : Str} {py spos : Pos} (hc : X.calm = true) (O : CompOk X scope ts cs) (hp : PI X tg iter wi) (hg : InComp X scope ts cs fun Y => PG Y tg g) (hi : InComp X scope ts cs fun Y => PIfs Y ifs tc) (he : InComp X scope ts cs fun Y => PE Y elt te)
    (hN : X.N.Nodup) (hy : X.N[i]? = some y) (hx : Loc X.env.scope y) (hf : X.fn y = true ∨ X.env.scope.names.lookup y = some .local := by first | exact .inl rfl | exact .inr rfl | assumption)
    (hsw : swapsWith (.ListComp elt [⟨tg, iter, ifs, 0⟩] scope pos) (some (.Name y py)) spos.line X.env = pure true := by rfl)
    (hs : ∀ x, foldedSetIterable iter X.env x = pure x := by intro _; rfl) : PS X (.Assign [.Name y py] (.ListComp elt [⟨tg, iter, ifs, 0⟩] scope pos) spos) (tAsg (tComp wi ts cs g tc te) (gName i)) := by
  intro pins s σ H D I h
  rw [exec_Assign_Name_used _ _ _ _ hsw]
  refine wpAny_bind (wpAny_standAt (wpAny_bind ?_))
  show wpAny _ X.A (do let _ ← comprehension (.ListComp elt [⟨tg, iter, ifs, 0⟩] scope pos) scope X.env _ (newList []) false (eval iter X.env) (some (assign (.Name y py) X.env))) _ _ s
  refine wpAny_bind (wpAny_mono (wpAny_comprehension_free (use := some (assign (.Name y py) X.env)) (Q := fun _ s' => SP X pins D .next s') rfl hs (O.clos I) O.kind O.locs (thn (hp pins s σ H _ I h) fun v s1 h1 => thn h1 fun itv s2 h2 => ?_)) (fun _ s' hq => wpAny_pure (wpAny_pure hq)) fun _ _ e => e)
  obtain ⟨it, fp, tn, J, H2, e, I2, T, st2, f2, hb⟩ := h2
  subst e
  refine comp_block hc O hg hi he I2 T st2 f2 hb fun D' C H' s' hC hL hCn hns fpc fin q => ?_
  obtain ⟨m, hm⟩ := hns
  obtain ⟨f0, f1, f2, f3, f4, f5⟩ := fpc
  obtain ⟨o, es, ep, ho, hd, hr⟩ := id hm
  have pinned : Inv X (pins ++ [(C, o)]) σ H' s' := fin.pins_of fun p hp => (List.mem_append.mp hp).elim (fun z => fin.pin p (List.mem_append_right _ z)) fun z => by
    rw [List.mem_singleton.mp z]
    exact ⟨ho, f0, f1, f2, fun v z => by rw [show o.data = _ from hd] at z; cases z⟩
  show wpAny _ X.A (assign (.Name y py) X.env (.ref D')) _ _ _
  refine thn (pg_name hN hy hx hf _ s' σ H' (.ref D') (.ref D') _ pinned rfl q) fun _ s'' ⟨σ2, H2', I2', q2⟩ => ?_
  have ho' := (I2'.pin (C, o) (List.mem_append_right _ (List.mem_append_right _ (List.mem_singleton.mpr rfl)))).1
  refine ⟨m, ⟨o, es, ep, ho', hd, hr⟩, fun h' sb => ?_⟩
  exact ⟨σ2, H2', I2'.unpinned.turned (t' := s''.toks) (fun b o hb e => sb.extBut b o hb e) (I2'.pin (C, o) (List.mem_append_right _ (List.mem_append_right _ (List.mem_singleton.mpr rfl)))).2.1 f1 f3 f4 f5, q2⟩
theorem pg_comp1 {x : Str} {px : Pos} (O : CompOk X scope [x] cs) : InComp X scope [x] cs fun Y => PG Y (.Name x px) (gName 0) := fun C fp pins s H =>
  pg_name (i := 0) O.nd rfl (.inl (lookup_relabel_local (O.tgt x (List.mem_singleton.mpr rfl)))) (.inr (lookup_relabel_local (O.tgt x (List.mem_singleton.mpr rfl))))
theorem pe_comp1 {x : Str} {px : Pos} (hc : X.calm = true) (O : CompOk X scope [x] cs) (hp : PI X (.Name x px) iter wi) (hi : InComp X scope [x] cs fun Y => PIfs Y ifs tc) (he : InComp X scope [x] cs fun Y => PE Y elt te)
    (hs : ∀ x, foldedSetIterable iter X.env x = pure x := by intro _; rfl) : PE X (.ListComp elt [⟨.Name x px, iter, ifs, 0⟩] scope pos) (tComp wi [x] cs (gName 0) tc te) := pe_comp hc O hp (pg_comp1 O) hi he hs
theorem ps_setc1 {i : Nat} {x y : Str} {px py spos : Pos} (hc : X.calm = true) (O : CompOk X scope [x] cs) (hp : PI X (.Name x px) iter wi) (hi : InComp X scope [x] cs fun Y => PIfs Y ifs tc) (he : InComp X scope [x] cs fun Y => PE Y elt te)
    (hN : X.N.Nodup) (hy : X.N[i]? = some y) (hx : Loc X.env.scope y) (hf : X.fn y = true ∨ X.env.scope.names.lookup y = some .local := by first | exact .inl rfl | exact .inr rfl | assumption)
    (hsw : swapsWith (.ListComp elt [⟨.Name x px, iter, ifs, 0⟩] scope pos) (some (.Name y py)) spos.line X.env = pure true := by rfl)
    (hs : ∀ x, foldedSetIterable iter X.env x = pure x := by intro _; rfl) : PS X (.Assign [.Name y py] (.ListComp elt [⟨.Name x px, iter, ifs, 0⟩] scope pos) spos) (tAsg (tComp wi [x] cs (gName 0) tc te) (gName i)) := ps_setc hc O hp (pg_comp1 O) hi he hN hy hx hf hsw hs
end
end L2

namespace L2
open PySem PySem.Spec PyProof.Rows

abbrev D := PyData
mutual
def Rep (H : Hp) : PyData → V → Prop
  | .none, v => v = .non
  | .bool b, v => v = .bl b
  | .int i, v => v = .int i
  | .str x, v => v = .str x
  | .list ds, v => ∃ a xs, v = .ref a ∧ H a = some (.lst xs) ∧ Reps H ds xs
  | .tuple ds, v => ∃ a xs, v = .ref a ∧ H a = some (.tup xs) ∧ Reps H ds xs
  | .dict _, _ => False
def Reps (H : Hp) : List PyData → List V → Prop
  | [], xs => xs = []
  | d :: ds, xs => ∃ x r, xs = x :: r ∧ Rep H d x ∧ Reps H ds r
end
section
variable {H H' : Hp} {d e : PyData} {ds es : List PyData} {v x : V} {xs ys : List V} {a : Addr}
theorem rep_lst : Rep H (.list ds) v ↔ ∃ a xs, v = .ref a ∧ H a = some (.lst xs) ∧ Reps H ds xs := by rw [Rep]
theorem rep_tup : Rep H (.tuple ds) v ↔ ∃ a xs, v = .ref a ∧ H a = some (.tup xs) ∧ Reps H ds xs := by rw [Rep]
theorem rep_int {i : Int} : Rep H (.int i) v ↔ v = .int i := by rw [Rep]
theorem reps_nil : Reps H [] xs ↔ xs = [] := by rw [Reps]
theorem reps_cons : Reps H (d :: ds) xs ↔ ∃ x r, xs = x :: r ∧ Rep H d x ∧ Reps H ds r := by rw [Reps]
theorem reps_cc : Reps H (d :: ds) (x :: xs) ↔ Rep H d x ∧ Reps H ds xs := by
  rw [reps_cons]
  constructor
  · rintro ⟨y, r, e, h1, h2⟩
    injection e with e1 e2
    subst e1; subst e2
    exact ⟨h1, h2⟩
  · rintro ⟨h1, h2⟩
    exact ⟨x, xs, rfl, h1, h2⟩
theorem Reps.length : ∀ {ds : List PyData} {xs : List V}, Reps H ds xs → ds.length = xs.length
  | [], _, h => by rw [reps_nil] at h; subst h; rfl
  | d :: ds, _, h => by
    obtain ⟨x, r, rfl, _, h2⟩ := reps_cons.mp h
    simp [Reps.length h2]
theorem Reps.get : ∀ {ds : List PyData} {xs : List V} {i : Nat} {d : PyData}, Reps H ds xs → ds[i]? = some d → ∃ x, xs[i]? = some x ∧ Rep H d x
  | [], _, _, _, _, e => by simp at e
  | c :: ds, _, 0, d, h, e => by
    obtain ⟨x, r, rfl, h1, _⟩ := reps_cons.mp h
    simp at e
    subst e
    exact ⟨x, rfl, h1⟩
  | c :: ds, _, i + 1, d, h, e => by
    obtain ⟨x, r, rfl, _, h2⟩ := reps_cons.mp h
    obtain ⟨y, e1, e2⟩ := Reps.get h2 (i := i) (d := d) (by simpa using e)
    exact ⟨y, by simpa using e1, e2⟩
theorem Reps.got : ∀ {ds : List PyData} {xs : List V} {i : Nat} {x : V}, Reps H ds xs → xs[i]? = some x → ∃ d, ds[i]? = some d ∧ Rep H d x := fun {ds xs i x} h e => by
  have hl := h.length
  have hi : i < xs.length := (List.getElem?_eq_some_iff.mp e).1
  obtain ⟨y, e1, e2⟩ := h.get (i := i) (d := ds[i]) (List.getElem?_eq_getElem (by omega))
  rw [e] at e1
  cases e1
  exact ⟨_, List.getElem?_eq_getElem (by omega), e2⟩
theorem Reps.append : ∀ {ds es : List PyData} {xs ys : List V}, Reps H ds xs → Reps H es ys → Reps H (ds ++ es) (xs ++ ys)
  | [], _, _, _, h, k => by rw [reps_nil] at h; subst h; exact k
  | d :: ds, es, _, ys, h, k => by
    obtain ⟨x, r, rfl, h1, h2⟩ := reps_cons.mp h
    exact reps_cc.mpr ⟨h1, Reps.append h2 k⟩
theorem Reps.snoc (h : Reps H ds xs) (k : Rep H d x) : Reps H (ds ++ [d]) (xs ++ [x]) := h.append (reps_cc.mpr ⟨k, reps_nil.mpr rfl⟩)
mutual
theorem Rep.mono : ∀ {d : PyData} {v : V}, Rep H d v → Same H H' → Rep H' d v
  | .none, _, h, _ => by rw [Rep] at h ⊢; exact h
  | .bool _, _, h, _ => by rw [Rep] at h ⊢; exact h
  | .int _, _, h, _ => by rw [Rep] at h ⊢; exact h
  | .str _, _, h, _ => by rw [Rep] at h ⊢; exact h
  | .list ds, _, h, q => by
    obtain ⟨a, xs, rfl, h1, h2⟩ := rep_lst.mp h
    exact rep_lst.mpr ⟨a, xs, rfl, q _ _ h1, Reps.mono h2 q⟩
  | .tuple ds, _, h, q => by
    obtain ⟨a, xs, rfl, h1, h2⟩ := rep_tup.mp h
    exact rep_tup.mpr ⟨a, xs, rfl, q _ _ h1, Reps.mono h2 q⟩
  | .dict _, _, h, _ => by rw [Rep] at h; exact h.elim
theorem Reps.mono : ∀ {ds : List PyData} {xs : List V}, Reps H ds xs → Same H H' → Reps H' ds xs
  | [], _, h, _ => by rw [reps_nil] at h ⊢; exact h
  | d :: ds, _, h, q => by
    obtain ⟨x, r, rfl, h1, h2⟩ := reps_cons.mp h
    exact reps_cc.mpr ⟨Rep.mono h1 q, Reps.mono h2 q⟩
end
theorem Same.upd_new {o : HO} (h : H a = none) : Same H (upd H a o) := fun b u e => by rw [upd_ne (ne_of_none e h)]; exact e
/-- a list that was made behind H grows -/
theorem Same.upd_late {H0 : Hp} {o : HO} (s : Same H0 H) (h : H0 a = none) : Same H0 (upd H a o) := fun b u e => by rw [upd_ne (ne_of_none e h)]; exact s b u e
end

section
variable {X : Cx} {pins : List (Addr × Obj)} {σ : St} {H : Hp} {s : Shared}
mutual
theorem Rep.reads (I : Inv X pins σ H s) : ∀ {d : PyData} {v : V} {u : Value}, Rep H d v → RelV v u → ∃ as, Reads s.heap u d as
  | .none, _, _, h, r => by rw [Rep] at h; subst h; cases r; exact ⟨_, .none⟩
  | .bool b, _, _, h, r => by rw [Rep] at h; subst h; cases r; exact ⟨_, .bool b⟩
  | .int i, _, _, h, r => by rw [Rep] at h; subst h; obtain ⟨t, rfl⟩ := r; exact ⟨_, .int i t⟩
  | .str i, _, _, h, r => by rw [Rep] at h; subst h; obtain ⟨t, rfl⟩ := r; exact ⟨_, .str i t⟩
  | .list ds, _, _, h, r => by
    obtain ⟨a, xs, rfl, h1, h2⟩ := rep_lst.mp h
    cases r
    obtain ⟨its, v1, ⟨o, n, e, c, _, d⟩, _⟩ := I.list (SqL.of h1)
    obtain ⟨as, q⟩ := Reps.reads I h2 v1
    exact ⟨_, .list e c d (by simpa using q)⟩
  | .tuple ds, _, _, h, r => by
    obtain ⟨a, xs, rfl, h1, h2⟩ := rep_tup.mp h
    cases r
    obtain ⟨its, v1, ⟨o, e, c, n, d⟩, _⟩ := I.tuple (SqT.of h1)
    obtain ⟨as, q⟩ := Reps.reads I h2 v1
    exact ⟨_, .tuple e c d (by simpa using q)⟩
  | .dict _, _, _, h, _ => by rw [Rep] at h; exact h.elim
theorem Reps.reads (I : Inv X pins σ H s) : ∀ {ds : List PyData} {xs : List V} {us : List Value}, Reps H ds xs → Vals xs us → ∃ as, ReadsAll s.heap us ds as
  | [], _, _, h, r => by rw [reps_nil] at h; subst h; cases r; exact ⟨_, .nil⟩
  | d :: ds, _, _, h, r => by
    obtain ⟨x, xr, rfl, h1, h2⟩ := reps_cons.mp h
    cases r with
    | cons r1 r2 =>
      obtain ⟨as, q1⟩ := Rep.reads I h1 r1
      obtain ⟨bs, q2⟩ := Reps.reads I h2 r2
      exact ⟨_, .cons q1 q2⟩
end
def rNeD : R2 := fun x y H Q => ∃ d e, Rep H d x ∧ Rep H e y ∧ SeqAt.shaped d = true ∧ SeqAt.shaped e = true ∧ Q (.bl (!PyData.eqv d e)) H
theorem op_neD (hu : X.A.units + 64 < cLine) : OpR X (compareOp .NotEq) rNeD := by
  intro pins s σ H x y v u Q I r1 r2 h
  obtain ⟨d, e, h1, h2, s1, s2, q⟩ := h
  obtain ⟨as, q1⟩ := h1.reads I r1
  obtain ⟨bs, q2⟩ := h2.reads I r2
  exact ne_dataH q1 q2 s1 s2 hu ⟨.bl _, H, I, rfl, q⟩
end

def intsD (ns : List Int) : PyData := .list (ns.map .int)
def ropeD (r : Int × Int × Int) : PyData := .tuple [.int r.1, .int r.2.1, .int r.2.2]
def ropesD (rs : List (Int × Int × Int)) : PyData := .list (rs.map ropeD)
def grps (G : List (List Int)) : PyData := .list (G.map intsD)
theorem eqv_rope (r t : Int × Int × Int) : PyData.eqv (ropeD r) (ropeD t) = decide (r = t) := by
  obtain ⟨a, b, c⟩ := r
  obtain ⟨a', b', c'⟩ := t
  simp only [ropeD, PyData.eqv, PyData.eqvAll]
  by_cases h1 : a = a' <;> by_cases h2 : b = b' <;> by_cases h3 : c = c' <;> simp [h1, h2, h3]
theorem sh_rope (r : Int × Int × Int) : SeqAt.shaped (ropeD r) = true := by simp [ropeD, SeqAt.shaped, PyData.canLay0, PyData.canLayAll0, PyData.depth, PyData.depthAll]
section
variable {H H' : Hp} {v : V} {a : Addr}
theorem reps_ints : ∀ {ns : List Int} {xs : List V}, Reps H (ns.map .int) xs ↔ xs = ns.map V.int
  | [], xs => by rw [List.map_nil, reps_nil, List.map_nil]
  | n :: ns, xs => by
    rw [List.map_cons, reps_cons, List.map_cons]
    constructor
    · rintro ⟨x, r, rfl, h1, h2⟩
      rw [rep_int.mp h1, reps_ints.mp h2]
    · rintro rfl
      exact ⟨_, _, rfl, rep_int.mpr rfl, reps_ints.mpr rfl⟩
theorem rep_ints {ns : List Int} : Rep H (intsD ns) v ↔ ∃ a, v = .ref a ∧ H a = some (.lst (ns.map V.int)) := by
  unfold intsD
  rw [rep_lst]
  constructor
  · rintro ⟨a, xs, rfl, h1, h2⟩
    rw [reps_ints] at h2
    subst h2
    exact ⟨a, rfl, h1⟩
  · rintro ⟨a, rfl, h⟩
    exact ⟨a, _, rfl, h, reps_ints.mpr rfl⟩
theorem rep_rope {r : Int × Int × Int} : Rep H (ropeD r) v ↔ ∃ a, v = .ref a ∧ H a = some (.tup [.int r.1, .int r.2.1, .int r.2.2]) := by
  unfold ropeD
  rw [rep_tup]
  have e : ∀ xs, Reps H [.int r.1, .int r.2.1, .int r.2.2] xs ↔ xs = [.int r.1, .int r.2.1, .int r.2.2] := fun xs => reps_ints (ns := [r.1, r.2.1, r.2.2])
  constructor
  · rintro ⟨a, xs, rfl, h1, h2⟩
    rw [(e xs).mp h2] at h1
    exact ⟨a, rfl, h1⟩
  · rintro ⟨a, rfl, h⟩
    exact ⟨a, _, rfl, h, (e _).mpr rfl⟩
end
end L2

namespace L2
open PySem PySem.Spec PyProof.Rows
section
variable {X : Cx}
def rngV (lo : Int) (n : Nat) : List V := (List.range n).map fun i : Nat => V.int (lo + i)
theorem call_rng1 : CallR X (.type "range") (fun xs H Q => ∃ j : Int, xs = [.int j] ∧ ∀ p, H p = none → Q (.ref p) (upd H p (.rng 0 j))) := by
  intro pins s σ H xs us Q I r h
  obtain ⟨j, rfl, q⟩ := h
  obtain ⟨u, rfl, ru⟩ := vals1 r
  obtain ⟨t, rfl⟩ := ru
  refine call_range_1 ⟨.ref s.heap.objs.size, _, I.laid (fun b o e => Heap.get?_push_of_some _ e) (Nat.le_refl _) ?_, rfl, q _ (I.hok.fresh (Nat.le_refl _))⟩
  exact ⟨_, _, _, Heap.get?_push_size _ rfl⟩
theorem call_list_rng (hc : X.calm = true) : CallR X (.type "list") (fun xs H Q => ∃ p lo hi, xs = [.ref p] ∧ H p = some (.rng lo hi) ∧ -(2 ^ 62) ≤ lo ∧ lo < 2 ^ 62 ∧ -(2 ^ 62) ≤ hi ∧ hi < 2 ^ 62 ∧ hi - lo ≤ 1000000 ∧
    ∀ l, H l = none → Q (.ref l) (upd H l (.lst (rngV lo (hi - lo).toNat)))) := by
  intro pins s σ H xs us Q I r h
  obtain ⟨p, lo, hi, rfl, hp, b1, b2, b3, b4, b5, q⟩ := h
  obtain ⟨u, rfl, ru⟩ := vals1 r
  cases ru
  obtain ⟨t, u, v, e⟩ := I.hok p _ hp
  have hn : Builtin.Range.rangeSize lo hi 1 = (((hi - lo).toNat : Nat) : Int) := by rw [rangeSize_one]; split <;> omega
  refine call_list_range (I.ok.hd hc) e (small_one b1 b2 b3 b4) hn (by omega) fun h' tk acc c' hk hS hit => ?_
  have hv : Vals (rngV lo (hi - lo).toNat) acc.toList := by
    have hl : (rngV lo (hi - lo).toNat).length = acc.toList.length := by
      unfold rngV
      rw [List.length_map, List.length_range, Array.length_toList, hit.1]
    have go : ∀ (xs : List V) (us : List Value), xs.length = us.length → (∀ (i : Nat) x u, xs[i]? = some x → us[i]? = some u → RelV x u) → Vals xs us := by
      intro xs
      induction xs with
      | nil => intro us hl _; cases us with | nil => exact .nil | cons _ _ => cases hl
      | cons x xs ih =>
        intro us hl h
        cases us with
        | nil => cases hl
        | cons u us => exact .cons (h 0 x u rfl rfl) (ih us (by simpa using hl) fun i y w e1 e2 => h (i + 1) y w (by simpa using e1) (by simpa using e2))
    refine go _ _ hl fun i x u e1 e2 => ?_
    obtain ⟨tk, rfl⟩ := hit.2 i u (by simpa using e2)
    unfold rngV at e1
    rw [List.getElem?_map] at e1
    cases z : (List.range (hi - lo).toNat)[i]? with
    | none => rw [z] at e1; cases e1
    | some k =>
      rw [z] at e1
      have hik : i < (hi - lo).toNat := by
        have := (List.getElem?_eq_some_iff.mp z).1
        simpa using this
      rw [List.getElem?_range hik] at z
      cases z
      have e1 : V.int (lo + ((i : Nat) : Int)) = x := Option.some.inj e1
      subst e1
      exact ⟨tk, by rw [Int.mul_one]⟩
  refine ⟨.ref s.heap.objs.size, _, I.laid (t' := tk) hk (Nat.le_refl _) ?_, rfl, q _ (I.hok.fresh (Nat.le_refl _))⟩
  refine ⟨?_, acc.toList, c', hv, by simpa using hS⟩
  unfold rngV
  rw [List.length_map, List.length_range]
  have : (1000000 : Nat) ≤ sizeLine := by decide
  omega
def Itc (lo c : Int) (n : Nat) : It := ⟨fun i _ => i < n, fun i H x H' => H' = H ∧ x = .int (lo + i * c), fun i _ => n ≤ i⟩
theorem turn_rangeC {P : Program} {w : World} {K : PySem.W.Frag} {tg : Expr} (it : Addr) (lo c : Int) (n : Nat) : Turn P w K tg (Itc lo c n) [it] it (fun i h => IsRangeIter h it (lo + (i : Nat) * c) ((n : Int) - (i : Nat)) c) where
  mem := by simp
  obj := fun i h st b hb => by
    have e : b = it := by simpa using hb
    subst e
    exact ⟨_, st, fun v z => by
      have z' : Data.fields _ = Data.cell v := z
      cases z'⟩
  keep := fun i h h' st k => k it (by simp) _ st
  item := by
    intro X hP hw hK hc i pins s σ H E I hf st hg
    subst hP hw hK
    obtain ⟨f0, f1, f2, f3, f4, f5⟩ := hf it (by simp)
    have W := Walks.range (prog := X.prog) (w := X.w) (I.ok.hd hc) it lo c n
    refine W.item i s _ _ hg st fun v h' tk hv st' kk => ?_
    obtain ⟨t, rfl⟩ := hv
    have I1 : Inv X pins σ H { s with heap := h', toks := tk } := I.turned (fun b o hb e => kk b o (by simpa using hb) e) f0 f1 f3 f4 f5
    exact ⟨_, rfl, go_of (s := { s with heap := h', toks := tk }) (n := "range_iterator") st' rfl rfl (by decide) ⟨.int (lo + i * c), H, I1, ⟨t, rfl⟩, ⟨rfl, rfl⟩, st', fun b hb => (hf b hb).1⟩⟩
  done := by
    intro X hP hw hK hc i pins s σ H E I hf st hg
    subst hP hw hK
    obtain ⟨f0, f1, f2, f3, f4, f5⟩ := hf it (by simp)
    exact wpAny_pyNext_range_end (I.ok.hd hc) st (by have : n ≤ i := hg; omega) fun h' eb => ⟨rfl, I.turned (t' := s.toks) (fun b o hb e => eb b o hb e) f0 f1 f3 f4 f5⟩
  self := fun _ _ _ _ _ st h => wpAny_pyIter_rangeiter st h
theorem small_two {b : Int} (hb : -(2 ^ 62) ≤ b) (hb' : b < 2 ^ 62) : Builtin.Range.small 0 b 2 = true := by
  unfold Builtin.Range.small Builtin.Range.rangeSize
  simp only [Builtin.Range.rangeFitsLong, Bool.and_eq_true, Bool.or_eq_true, decide_eq_true_eq, beq_iff_eq, show (2 : Int) > 0 by decide, if_true]
  split <;> omega
/-- range(0, b, 2) -/
def iRngTwo (ta : TA) : TI := fun σ H R => ta σ H fun vs H1 => ∃ j : Int, vs = [.int 0, .int j, .int 2] ∧ (-(2 ^ 62) ≤ j ∧ j < 2 ^ 62) ∧ R (Itc 0 2 ((j + 1) / 2).toNat) H1
theorem pi_rangeTwo {tg a b c : Expr} {ta : TA} {p pos : Pos} (hg : Gl X "range") (hm : X.mg "range" = none) (ha : PA X [a, b, c] ta)
    (hs : starEach [a, b, c] X.env = [(false, eval a X.env), (false, eval b X.env), (false, eval c X.env)] := by rfl) (hs2 : starEach [b, c] X.env = [(false, eval b X.env), (false, eval c X.env)] := by rfl) :
    PI X tg (.Call (.Name "range" p) [a, b, c] [] pos) (iRngTwo ta) := by
  intro pins s σ H R I h
  refine Call_ (ld_blt I hg hm boot_range (PyProof.Rows.callWith_type1 (thn (ha pos pins s σ H _ I h) fun us s1 ⟨vs, H1, I1, r1, q1⟩ => ?_) (by rw [hs, hs2]) (by rw [hs2]; rfl)))
  obtain ⟨j, e, ⟨q1, q2⟩, q⟩ := q1
  subst e
  cases r1 with
  | cons r rr =>
    cases rr with
    | cons r' rr =>
      cases rr with
      | cons r'' rr =>
        cases rr
        obtain ⟨t, rfl⟩ := r
        obtain ⟨t', rfl⟩ := r'
        obtain ⟨t'', rfl⟩ := r''
        refine call_range_3 (by decide) ?_ (.inl (PyProof.noPylong_small (by decide)))
        refine wpAny_pyIter_range (IsRange.new ..) (small_two q1 q2) ?_
        have I2 : Inv X pins σ H1 { s1 with heap := s1.heap.push { cls := .type "range", data := .fields #[.int 0 t, .int j t', .int 2 t''] }, toks := s1.toks } := I1.kept fun b o e => Heap.get?_push_of_some _ e
        refine ⟨(s1.heap.push { cls := .type "range", data := .fields #[.int 0 t, .int j t', .int 2 t''] }).objs.size, [(s1.heap.push { cls := .type "range", data := .fields #[.int 0 t, .int j t', .int 2 t''] }).objs.size], _, _, H1, rfl,
          I2.kept (t' := s1.toks) fun b o e => Heap.get?_push_of_some _ e, turn_rangeC _ 0 2 ((j + 1) / 2).toNat, ?_, fun b hb => ?_, q⟩
        · have e1 : (0 : Int) + ((0 : Nat) : Int) * 2 = 0 := by simp
          have e2 : ((((j + 1) / 2).toNat : Nat) : Int) - ((0 : Nat) : Int) = Builtin.Range.rangeSize 0 j 2 := by
            unfold Builtin.Range.rangeSize
            rw [if_pos (by decide)]
            split <;> omega
          show IsRangeIter _ _ ((0 : Int) + ((0 : Nat) : Int) * 2) (((((j + 1) / 2).toNat : Nat) : Int) - ((0 : Nat) : Int)) 2
          rw [e1, e2]
          exact Heap.get?_push_size _ rfl
        · have e : b = (s1.heap.push { cls := .type "range", data := .fields #[.int 0 t, .int j t', .int 2 t''] }).objs.size := by simpa using hb
          subst e
          exact I2.fpOk (Nat.le_refl _) (I2.hok.fresh (Nat.le_refl _))
theorem for_rangeC {lo c : Int} {n : Nat} {g : TG} {tb : TS} {D : Ends} {σ : St} {H : Hp} (Pv : Nat → St → Hp → Prop) (h0 : Pv 0 σ H)
    (hs : ∀ i σ H, i < n → Pv i σ H → g (.int (lo + i * c)) σ H fun σ2 H2 => tb { D with nx := Pv (i + 1), ct := Pv (i + 1), bk := D.nx } σ2 H2) (hd : ∀ σ H, Pv n σ H → D.nx σ H) :
    ∃ W : Nat → Nat → St → Hp → Prop, (∃ m, W 0 m σ H) ∧ ∀ i m σ H, W i m σ H →
      ((Itc lo c n).stop i H ∧ D.nx σ H) ∨ ((Itc lo c n).go i H ∧ ∃ N : St → Hp → Prop, (∀ σ' H', N σ' H' → ∃ m', m' < m ∧ W (i + 1) m' σ' H') ∧ ∀ x H', (Itc lo c n).yld i H x H' → g x σ H' fun σ2 H2 => tb { D with nx := N, ct := N, bk := D.nx } σ2 H2) := by
  refine ⟨fun i m σ H => m = n - i ∧ i ≤ n ∧ Pv i σ H, ⟨n, by simp, Nat.zero_le _, h0⟩, ?_⟩
  rintro i m σ H ⟨rfl, hi, p⟩
  by_cases hlt : i < n
  · refine .inr ⟨hlt, Pv (i + 1), fun σ' H' p' => ⟨n - (i + 1), by omega, rfl, hlt, p'⟩, fun x H' y => ?_⟩
    obtain ⟨e, y⟩ := y
    subst e y
    exact hs i σ _ hlt p
  · have e : i = n := by omega
    subst e
    exact .inl ⟨Nat.le_refl _, hd σ H p⟩
def insV (xs : List V) (k : Nat) (y : V) : List V := xs.take k ++ y :: xs.drop k
def rInsert : V → List V → Hp → VK → Prop := fun x vs H Q => ∃ l xs i y, x = .ref l ∧ vs = [.int i, y] ∧ H l = some (.lst xs) ∧ 0 ≤ i ∧ i ≤ xs.length ∧ xs.length < sizeLine ∧ Q .non (upd H l (.lst (insV xs i.toNat y)))
theorem mt_insert : MtM X "list.insert" rInsert := by
  intro pins s σ H x vs v us Q I rx rv h
  obtain ⟨l, xs, i, y, rfl, rfl, hH, h0, h1, hz, q⟩ := h
  cases rx
  obtain ⟨u, w, rfl, ru, rw'⟩ := rv.two
  obtain ⟨t, rfl⟩ := ru
  obtain ⟨z, its, n, r, hl, e⟩ := I.lstM hH
  have hb : (sizeLine : Int) < 2 ^ 62 := by decide
  have fits : ¬ (!Builtin.List.listFitsIndex i) = true := by
    have : Builtin.List.listFitsIndex i = true := by
      unfold Builtin.List.listFitsIndex
      first
        | (simp only [Bool.and_eq_true, decide_eq_true_eq]; omega)
        | (simp; omega)
    rw [this]; simp
  refine call_meets F.slot_list_insert ⟨_, e, rfl⟩ F.entry_list_insert (F.args_list_insert_3 _ _ _) (AutoListH.list_insert_list_int_val_1 l its.toArray n i t w fits (by rw [List.size_toArray]; omega)) ⟨e, ?_⟩
  refine ⟨.non, _, I.lset (its' := its.take i.toNat ++ w :: its.drop i.toNat) hH e ?_ ((r.take _).append (.cons rw' (r.drop _))) ?_, rfl, q⟩
  · have hm : (if i < 0 then (i + ((its.toArray.size : Nat) : Int)).toNat else min i.toNat its.toArray.size) = i.toNat := by
      rw [if_neg (by omega), List.size_toArray]
      omega
    simp only [hm]
    apply Array.ext'
    simp
    rw [List.take_of_length_le (by simp)]
  · rw [List.length_append, List.length_cons, List.length_take, List.length_drop]
    omega
theorem call_all_bools (hc : X.calm = true) : CallR X (.builtin "all") (fun xs H Q => ∃ (p : Addr) (bs : List Bool), xs = [.ref p] ∧ H p = some (.lst (bs.map V.bl)) ∧ Q (.bl (bs.all id)) H) := by
  intro pins s σ H xs us Q I r h
  obtain ⟨p, bs, rfl, hp, q⟩ := h
  obtain ⟨u, rfl, ru⟩ := vals1 r
  cases ru
  obtain ⟨its, rv, pl, hz⟩ := I.list (SqL.of hp)
  have hl := rv.length
  rw [List.length_map] at hl
  refine call_all_walk (wpAny_pyIter_list pl.isList ?_)
  have hI : ∀ (j : Nat) (v : Value), its.toArray[j]? = some v → v = Value.bool ((bs[j]?).getD true) := fun j v e => by
    have e : its[j]? = some v := by simpa using e
    have hj : j < its.length := (List.getElem?_eq_some_iff.mp e).1
    have e2 : (bs.map V.bl)[j]? = some (V.bl bs[j]) := by rw [List.getElem?_map, List.getElem?_eq_getElem (by omega)]; rfl
    obtain ⟨w, f1, f2⟩ := rv.get e2
    rw [e] at f1
    cases f1
    cases f2
    rw [List.getElem?_eq_getElem (by omega)]
    rfl
  have hlt : p < s.heap.objs.size := by obtain ⟨_, e, _⟩ := pl.isList; exact Heap.lt_size e
  refine ⟨s.heap.objs.size, [s.heap.objs.size, p], [s.heap.objs.size], its.toArray.size, _, _, fun j => (bs[j]?).getD true, rfl, Walks.list (A := X.A.in1) (I.ok.hd hc) _ p (Nat.ne_of_lt hlt) its.toArray,
    ⟨⟨_, Heap.get?_push_size _ rfl, rfl, rfl⟩, pl.isList.push _⟩, fun i v s' Q' E' hP hQ => ?_, fun h' tk hk => ?_⟩
  · rw [hI i v hP]
    exact wpAny_truthy_bool hQ
  · have e : ((List.range its.toArray.size).all fun i => (bs[i]?).getD true) = bs.all id := by
      rw [List.size_toArray, ← hl, Bool.eq_iff_iff, List.all_eq_true, List.all_eq_true]
      constructor
      · intro h b m
        obtain ⟨j, hj, e⟩ := List.getElem_of_mem m
        have := h j (List.mem_range.mpr hj)
        rw [List.getElem?_eq_getElem hj, e] at this
        exact this
      · intro h j m
        have hj := List.mem_range.mp m
        rw [List.getElem?_eq_getElem hj]
        exact h _ (List.getElem_mem hj)
    rw [e]
    refine ⟨.bl _, H, I.kept (t' := tk) fun b o eb => hk b o (fun hm => ?_) (Heap.get?_push_of_some _ eb), rfl, q⟩
    rw [List.mem_singleton.mp hm] at eb
    exact Nat.lt_irrefl _ (Heap.lt_size eb)
theorem call_isinst : CallR X (.builtin "isinstance") (fun xs H Q => ∃ x T t b, xs = [x, .ty T] ∧ TyOf X.K H x t ∧ PySem.W.kitOne X.K t (.type T) = some b ∧ Q (.bl b) H) := by
  intro pins s σ H xs us Q I r h
  obtain ⟨x, T, t, b, rfl, ty, e, q⟩ := h
  obtain ⟨u, w, rfl, ru, rw'⟩ := Vals.two r
  cases rw'
  exact isinst_ok I ru ty e fun tk => ⟨.bl b, H, I.tok tk, rfl, q⟩
end
section
variable {X : Cx} {st : Stmt} {t : TS}
def tCut (t : TS) : TS := fun D σ H => ∃ J : St → Hp → Prop, t { D with nx := J } σ H ∧ ∀ σ' H', J σ' H' → D.nx σ' H'
theorem ps_cut (h : PS X st t) : PS X st (tCut t) := by
  intro pins s σ H D I hw
  obtain ⟨J, hw, hJ⟩ := hw
  refine thn (h pins s σ H { D with nx := J } I hw) fun f s1 q => ?_
  cases f with
  | next =>
    obtain ⟨σ', H', I', q⟩ := q
    exact ⟨σ', H', I', hJ _ _ q⟩
  | brk => exact q
  | cont => exact q
  | ret u => exact q
end
section
variable {X : Cx} {scope : Scope} {ts : List Str} {cs : List Nat} {C : Addr} {fp : List Addr} {pins : List (Addr × Obj)} {s : Shared} {H : Hp}
theorem ixc_list : IxR (cxComp X scope ts cs C fp pins s H) (rIxL X.K) := ix_list
theorem ixc_tup : IxR (cxComp X scope ts cs C fp pins s H) (rIxT X.K) := ix_tup
theorem opc_notIn_seq : OpR (cxComp X scope ts cs C fp pins s H) (compareOp .NotIn) (rIn X.K true) := op_notIn_seq
theorem callc_len_seq : CallR (cxComp X scope ts cs C fp pins s H) (.builtin "len") (fun xs H Q => ∃ p ys, xs = [.ref p] ∧ (SqL X.K H p ys ∨ SqT X.K H p ys) ∧ Q (.int ys.length) H) := call_len_seq
end
theorem bo_len : bootBuiltins "len" = some (.builtin "len") := by decide +kernel
theorem bo_int : bootBuiltins "int" = some (.type "int") := by decide +kernel
theorem bo_bool : bootBuiltins "bool" = some (.type "bool") := by decide +kernel
theorem bo_list : bootBuiltins "list" = some (.type "list") := by decide +kernel
theorem bo_tuple : bootBuiltins "tuple" = some (.type "tuple") := by decide +kernel
theorem bo_range : bootBuiltins "range" = some (.type "range") := by decide +kernel
theorem bo_isinstance : bootBuiltins "isinstance" = some (.builtin "isinstance") := by decide +kernel
theorem bo_max : bootBuiltins "max" = some (.builtin "max") := by decide +kernel
theorem bo_sum : bootBuiltins "sum" = some (.builtin "sum") := by decide +kernel
theorem bo_sorted : bootBuiltins "sorted" = some (.builtin "sorted") := by decide +kernel
theorem bo_all : bootBuiltins "all" = some (.builtin "all") := by decide +kernel
theorem bo_ValueError : bootBuiltins "ValueError" = some (.type "ValueError") := by decide +kernel
end L2

namespace L2
open PySem PySem.Spec PyProof.Rows
section
variable {K : PySem.W.Frag} {σ : St} {H H1 : Hp} {Q : VK} {QT : Bool → Hp → Prop} {QA : List V → Hp → Prop} {v x y : V} {i j : Int} {n : Nat} {ta tb tc te : TE} {tA tB' : TT} {t u : TS} {D : Ends} {g : TG} {r : R2} {p : Addr} {xs ys : List V}
theorem rv0 {s : St} : tVar 0 (some v :: s) H Q = Q v H := by
  show (∃ w, some (some v) = some (some w) ∧ Q w H) = _
  simp
theorem rvS {o : Option V} {s : St} : tVar (n + 1) (o :: s) H Q = tVar n s H Q := rfl
theorem rC : tC v σ H Q = Q v H := rfl
theorem rOp : tOp r ta tb σ H Q = ta σ H fun x H1 => tb σ H1 fun y H2 => r x y H2 Q := rfl
theorem rUn {f : V → Hp → VK → Prop} : tUn f ta σ H Q = ta σ H fun x H1 => f x H1 Q := rfl
theorem rTest : tTest te σ H QT = te σ H fun x H1 => ∃ k, x = .bl k ∧ QT k H1 := rfl
theorem rB : tB te σ H QT = te σ H fun x H1 => ∃ c, x = .bl c ∧ QT c H1 := rfl
theorem rBl {b : Bool} {P : Bool → Prop} : (∃ c, V.bl b = V.bl c ∧ P c) = P b := by simp
theorem rI0i {f : Int → Int → V} : rI0 f (.int i) (.int j) H Q = Q (f i j) H := by simp [rI0]
theorem rIi {C : Int → Int → Prop} {f : Int → Int → V} : rI C f (.int i) (.int j) H Q = (C i j ∧ Q (f i j) H) := by simp [rI]
theorem rUi {f : Int → V} : rU f (.int i) H Q = Q (f i) H := by simp [rU]
theorem rEqi : rEq (.int i) (.int j) H Q = Q (.bl (decide (i = j))) H := by simp [rEq, scal]
theorem rNei : rNe (.int i) (.int j) H Q = Q (.bl (!decide (i = j))) H := by simp [rNe, scal]
theorem rEqb {a b : Bool} : rEq (.bl a) (.bl b) H Q = Q (.bl (decide (a = b))) H := by simp [rEq, scal]
theorem rNeb {a b : Bool} : rNe (.bl a) (.bl b) H Q = Q (.bl (!decide (a = b))) H := by simp [rNe, scal]
theorem rNot : tNot tA σ H QT = tA σ H fun c H1 => QT (!c) H1 := rfl
theorem rAnd : tAnd tA tB' σ H QT = tA σ H fun c H1 => if c = true then tB' σ H1 QT else QT false H1 := rfl
theorem rOr : tOr tA tB' σ H QT = tA σ H fun c H1 => if c = true then QT true H1 else tB' σ H1 QT := rfl
theorem rAndV : tAndV ta tb σ H Q = ta σ H fun x H1 => ∃ c, x = .bl c ∧ if c = true then tb σ H1 Q else Q (.bl false) H1 := rfl
theorem rOrV : tOrV ta tb σ H Q = ta σ H fun x H1 => ∃ c, x = .bl c ∧ if c = true then Q (.bl true) H1 else tb σ H1 Q := rfl
theorem rNotV : tNotV ta σ H Q = ta σ H fun x H1 => ∃ c, x = .bl c ∧ Q (.bl (!c)) H1 := rfl
theorem rIf : tIf tA ta tb σ H Q = tA σ H fun c H1 => if c = true then ta σ H1 Q else tb σ H1 Q := rfl
theorem rSeq : tSeq t u D σ H = t { D with nx := u D } σ H := rfl
theorem rNext : tNext D σ H = D.nx σ H := rfl
theorem rDrop : tDrop te D σ H = te σ H fun _ H1 => D.nx σ H1 := rfl
theorem rRet : tRet te D σ H = te σ H D.rt := rfl
theorem rRetN : tRetN D σ H = D.rt .non H := rfl
theorem rIfS : tIfS tA t u D σ H = tA σ H fun b H1 => if b = true then t D σ H1 else u D σ H1 := rfl
theorem rAsg : tAsg te g D σ H = te σ H fun x H1 => g x σ H1 D.nx := rfl
theorem rName {f : St → Hp → Prop} : gName n v σ H f = f (σ.set n (some v)) H := rfl
theorem rNil : tNil σ H QA = QA [] H := rfl
theorem rCons {tr : TA} : tCons ta tr σ H QA = ta σ H fun x H1 => tr σ H1 fun xs H2 => QA (x :: xs) H2 := rfl
theorem rCB {f : List V → Hp → VK → Prop} {a : TA} : tCB f a σ H Q = a σ H fun vs H1 => f vs H1 Q := rfl
theorem rBM {T : String} {f : V → List V → Hp → VK → Prop} {a : TA} : tBM K T f te a σ H Q = te σ H fun x H1 => tyV K T x H1 ∧ a σ H1 fun xs H2 => f x xs H2 Q := rfl
theorem rCall {sp : Sp} {dvs : List V} {E : XK} {a : TA} : tCall sp dvs E a σ H Q = a σ H fun vs H1 => sp (vs ++ dvs) H1 Q E := rfl
theorem rTup {a : TA} : tTup a σ H Q = a σ H fun xs H1 => xs.length ≤ sizeLine ∧ ∀ p, H1 p = none → Q (.ref p) (upd H1 p (.tup xs)) := rfl
theorem rLst {a : TA} : tLst a σ H Q = a σ H fun xs H1 => xs.length ≤ sizeLine ∧ ∀ p, H1 p = none → Q (.ref p) (upd H1 p (.lst xs)) := rfl
theorem rSl {f : V → Option Int → Option Int → Hp → VK → Prop} {tl th : TO} : tSl f te tl th σ H Q = te σ H fun x H1 => tl σ H1 fun l H2 => th σ H2 fun u H3 => f x l u H3 Q := rfl
theorem rNoPart {f : Option Int → Hp → Prop} : tNoPart σ H f = f none H := rfl
theorem rPart {f : Option Int → Hp → Prop} : tPart te σ H f = te σ H fun x H1 => ∃ i, x = .int i ∧ f (some i) H1 := rfl
theorem rInt {P : Int → Prop} : (∃ k, V.int i = V.int k ∧ P k) = P i := by simp
theorem rK {CX : CXT} {P : Program} {w : World} {mg : Str → Option Value} {base : Heap} {N : List Str} {qual : Str} {scope : Scope} {f : Addr} {cd : Value} {A : Around} {outer : List Env} {s : Shared} {E : XK} : (cxOf CX P w K mg base N qual scope f cd A outer s H E).K = K := rfl
theorem rKn {X : Cx} : X.nox.K = X.K := rfl
theorem rKc {X : Cx} {scope : Scope} {ts : List Str} {cs : List Nat} {C : Addr} {fp : List Addr} {pins : List (Addr × Obj)} {s : Shared} : (cxComp X scope ts cs C fp pins s H).K = X.K := rfl
theorem rIList {tl : TE} {R : It → Hp → Prop} : iList K tl σ H R = tl σ H fun x H1 => ∃ a, x = .ref a ∧ (∃ xs, SqL K H1 a xs) ∧ R (Itl K a) H1 := rfl
theorem rITup {tl : TE} {R : It → Hp → Prop} : iTup K tl σ H R = tl σ H fun x H1 => ∃ a, x = .ref a ∧ (∃ xs, SqT K H1 a xs) ∧ R (Itt K a) H1 := rfl
theorem rIRng1 {a : TA} {R : It → Hp → Prop} : iRng1 a σ H R = a σ H fun vs H1 => ∃ j : Int, vs = [.int j] ∧ -(2 ^ 62) ≤ j ∧ j < 2 ^ 62 ∧ R (Itr 0 j.toNat) H1 := rfl
theorem rIRngTwo {a : TA} {R : It → Hp → Prop} : iRngTwo a σ H R = a σ H fun vs H1 => ∃ j : Int, vs = [.int 0, .int j, .int 2] ∧ (-(2 ^ 62) ≤ j ∧ j < 2 ^ 62) ∧ R (Itc 0 2 ((j + 1) / 2).toNat) H1 := rfl
theorem rd_list {i : Int} (h : H p = some (.lst xs)) (e : atI xs i = some v) (q : Q v H) : rIxL K (.ref p) (.int i) H Q := ⟨p, xs, i, v, rfl, rfl, SqL.of h, e, q⟩
theorem rd_tup {i : Int} (h : H p = some (.tup xs)) (e : atI xs i = some v) (q : Q v H) : rIxT K (.ref p) (.int i) H Q := ⟨p, xs, i, v, rfl, rfl, SqT.of h, e, q⟩
end
/-- between two turns: the target's slot is any, the word holds -/
def CN (caps : St) (P : List V → Hp → Prop) (ys : List V) (σ : St) (H : Hp) : Prop := (∃ t, σ = t :: caps) ∧ P ys H
theorem cn {caps : St} {P : List V → Hp → Prop} {ys : List V} {t : Option V} {H : Hp} (h : P ys H) : CN caps P ys (t :: caps) H := ⟨⟨t, rfl⟩, h⟩
theorem comp_list {K : PySem.W.Frag} {a D : Addr} {xs : List V} {tc : TT} {te : TE} {caps : St} {H1 : Hp} {Q : VK} {o : Option V} (Pv : Nat → List V → Hp → Prop) (h0 : Pv 0 [] H1)
    (hl : ∀ i ys H, i ≤ xs.length → Pv i ys H → SqL K H a xs ∧ H D = some (.lst ys))
    (hs : ∀ i x ys H, xs[i]? = some x → Pv i ys H → tc (some x :: caps) H fun b H5 => if b = true then te (some x :: caps) H5 fun y H6 => H6 D = some (.lst ys) ∧ ys.length < sizeLine ∧ CN caps (Pv (i + 1)) (ys ++ [y]) (some x :: caps) (upd H6 D (.lst (ys ++ [y]))) else CN caps (Pv (i + 1)) ys (some x :: caps) H5)
    (hd : ∀ ys H, Pv xs.length ys H → Q (.ref D) H) : cBody (Itl K a) D (gName 0) tc te (o :: caps) H1 Q := by
  refine ⟨fun i m ys σc H => m = xs.length - i ∧ i ≤ xs.length ∧ CN caps (Pv i) ys σc H, ⟨xs.length, by simp, Nat.zero_le _, ⟨o, rfl⟩, h0⟩, ?_⟩
  rintro i m ys σc H ⟨rfl, hi, ⟨t, rfl⟩, p⟩
  obtain ⟨q, qd⟩ := hl i ys H hi p
  refine ⟨qd, ?_⟩
  by_cases hlt : i < xs.length
  · refine .inr ⟨⟨xs, xs[i], q, by simp [hlt]⟩, CN caps (Pv (i + 1)), fun ys' σ' H' c => ⟨xs.length - (i + 1), by omega, rfl, hlt, c⟩, fun x H' y => ?_⟩
    obtain ⟨e, y⟩ := y
    subst e
    exact hs i x ys _ (y xs q) p
  · have e : i = xs.length := by omega
    subst e
    exact .inl ⟨⟨xs, q, Nat.le_refl _⟩, hd ys H p⟩
theorem comp_range {lo : Int} {n : Nat} {D : Addr} {tc : TT} {te : TE} {caps : St} {H1 : Hp} {Q : VK} {o : Option V} (Pv : Nat → List V → Hp → Prop) (h0 : Pv 0 [] H1)
    (hl : ∀ i ys H, i ≤ n → Pv i ys H → H D = some (.lst ys))
    (hs : ∀ i ys H, i < n → Pv i ys H → tc (some (.int (lo + i)) :: caps) H fun b H5 => if b = true then te (some (.int (lo + i)) :: caps) H5 fun y H6 => H6 D = some (.lst ys) ∧ ys.length < sizeLine ∧ CN caps (Pv (i + 1)) (ys ++ [y]) (some (.int (lo + i)) :: caps) (upd H6 D (.lst (ys ++ [y]))) else CN caps (Pv (i + 1)) ys (some (.int (lo + i)) :: caps) H5)
    (hd : ∀ ys H, Pv n ys H → Q (.ref D) H) : cBody (Itr lo n) D (gName 0) tc te (o :: caps) H1 Q := by
  refine ⟨fun i m ys σc H => m = n - i ∧ i ≤ n ∧ CN caps (Pv i) ys σc H, ⟨n, by simp, Nat.zero_le _, ⟨o, rfl⟩, h0⟩, ?_⟩
  rintro i m ys σc H ⟨rfl, hi, ⟨t, rfl⟩, p⟩
  refine ⟨hl i ys H hi p, ?_⟩
  by_cases hlt : i < n
  · refine .inr ⟨hlt, CN caps (Pv (i + 1)), fun ys' σ' H' c => ⟨n - (i + 1), by omega, rfl, hlt, c⟩, fun x H' y => ?_⟩
    obtain ⟨e, y⟩ := y
    subst e y
    exact hs i ys _ hlt p
  · have e : i = n := by omega
    subst e
    exact .inl ⟨Nat.le_refl _, hd ys H p⟩
theorem rComp {wi : TI} {ts : List Str} {cs : List Nat} {g : TG} {tc : TT} {te : TE} {σ : St} {H : Hp} {Q : VK} : tComp wi ts cs g tc te σ H Q = wi σ H fun J H1 => ∀ D, H1 D = none → cBody J D g tc te (capS σ ts cs) (upd H1 D (.lst [])) Q := rfl
theorem atI_int {α : Type} {xs : List α} {k : Int} {v : α} (h0 : 0 ≤ k) (h : xs[k.toNat]? = some v) : atI xs k = some v := by
  have := atI_nat h
  rw [Int.toNat_of_nonneg h0] at this
  exact this
theorem take_snoc {α : Type} {xs : List α} {i : Nat} {x : α} (h : xs[i]? = some x) : xs.take (i + 1) = xs.take i ++ [x] := by
  rw [List.take_add_one, h]
  rfl
theorem big1000 : 1000 < sizeLine := by decide
theorem comp_gen_list {K : PySem.W.Frag} {a D : Addr} {xs : List V} {tc : TT} {te : TE} {caps : St} {H1 : Hp} {Q : VK} {o : Option V} (p : V → Bool) (f : V → V) (ha : H1 a = some (.lst xs)) (hD : H1 D = none) (hz : xs.length ≤ 1000)
    (hc : ∀ x ∈ xs, ∀ H (Q' : Bool → Hp → Prop), Same H1 H → Q' (p x) H → tc (some x :: caps) H Q') (he : ∀ x ∈ xs, p x = true → ∀ H (Q' : VK), Same H1 H → Q' (f x) H → te (some x :: caps) H Q')
    (hd : Q (.ref D) (upd H1 D (.lst ((xs.filter p).map f)))) : cBody (Itl K a) D (gName 0) tc te (o :: caps) (upd H1 D (.lst [])) Q := by
  have nD : a ≠ D := ne_of_none ha hD
  refine comp_list (xs := xs) (fun i ys H => ys = ((xs.take i).filter p).map f ∧ H = upd H1 D (.lst ys)) ⟨by simp, rfl⟩ ?_ ?_ ?_
  · rintro i ys H _ ⟨rfl, rfl⟩
    exact ⟨SqL.of (by rw [upd_ne nD]; exact ha), upd_same⟩
  · rintro i x ys H hx ⟨rfl, rfl⟩
    have m := List.mem_of_getElem? hx
    have sm : Same H1 (upd H1 D (.lst (((xs.take i).filter p).map f))) := Same.upd_new hD
    refine hc x m _ _ sm ?_
    have hlen : (((xs.take i).filter p).map f).length < sizeLine := by
      rw [List.length_map]
      have h1 := List.length_filter_le p (xs.take i)
      have h2 : (xs.take i).length ≤ xs.length := List.length_take_le' i xs
      have := big1000
      omega
    cases q : p x with
    | true =>
      rw [if_pos rfl]
      refine he x m q _ _ sm ⟨upd_same, hlen, cn ?_⟩
      refine ⟨?_, by rw [upd_upd]⟩
      rw [take_snoc hx, List.filter_append, List.map_append]
      simp [q]
    | false =>
      rw [if_neg Bool.false_ne_true]
      refine cn ⟨?_, rfl⟩
      rw [take_snoc hx, List.filter_append, List.map_append]
      simp [q]
  · rintro ys H ⟨rfl, rfl⟩
    rw [List.take_length]
    exact hd
/-- .. whose items lay new things -/
theorem comp_map_list {K : PySem.W.Frag} {a D : Addr} {xs : List V} {te : TE} {caps : St} {H1 : Hp} {Q : VK} {o : Option V} (f : V → V) (ha : H1 a = some (.lst xs)) (hD : H1 D = none) (hz : xs.length ≤ 1000)
    (he : ∀ x ∈ xs, ∀ H (Q' : VK), Same H1 H → Q' (f x) H → te (some x :: caps) H Q') (hd : Q (.ref D) (upd H1 D (.lst (xs.map f)))) : cBody (Itl K a) D (gName 0) tYes te (o :: caps) (upd H1 D (.lst [])) Q :=
  comp_gen_list (fun _ => true) f ha hD hz (fun _ _ _ _ _ q => q) (fun x m _ => he x m) (by rw [List.filter_eq_self.mpr fun _ _ => rfl]; exact hd)
theorem comp_filter_list {K : PySem.W.Frag} {a D : Addr} {xs : List V} {tc : TT} {caps : St} {H1 : Hp} {Q : VK} {o : Option V} (p : V → Bool) (ha : H1 a = some (.lst xs)) (hD : H1 D = none) (hz : xs.length ≤ 1000)
    (hc : ∀ x ∈ xs, ∀ H (Q' : Bool → Hp → Prop), Same H1 H → Q' (p x) H → tc (some x :: caps) H Q') (hd : Q (.ref D) (upd H1 D (.lst (xs.filter p)))) : cBody (Itl K a) D (gName 0) tc (tVar 0) (o :: caps) (upd H1 D (.lst [])) Q :=
  comp_gen_list p id ha hD hz hc (fun x _ _ H Q' _ q => by rw [rv0]; exact q) (by rw [List.map_id]; exact hd)
end L2
namespace L2
open PySem PySem.Spec PyProof.Rows
theorem rChain {r r' : R2} {ta tb tc : TE} {σ : St} {H : Hp} {Q : VK} : tChain r r' ta tb tc σ H Q = ta σ H fun x H1 => tb σ H1 fun y H2 => r x y H2 fun z H3 => ∃ k, z = .bl k ∧ (if k = true then tc σ H3 fun w' H4 => r' y w' H4 Q else Q (.bl false) H3) := rfl
theorem ropes_at {H : Hp} {rs : List (Int × Int × Int)} {xs : List V} {k : Int} (h : Reps H (rs.map ropeD) xs) (h0 : 0 ≤ k) (h1 : k < rs.length) :
    ∃ p, atI xs k = some (.ref p) ∧ H p = some (.tup [.int (rs.getD k.toNat (0, 0, 0)).1, .int (rs.getD k.toNat (0, 0, 0)).2.1, .int (rs.getD k.toNat (0, 0, 0)).2.2]) := by
  have hi : k.toNat < rs.length := by omega
  obtain ⟨x, e1, e2⟩ := h.get (i := k.toNat) (d := ropeD rs[k.toNat]) (by rw [List.getElem?_map, List.getElem?_eq_getElem hi]; rfl)
  obtain ⟨p, rfl, hp⟩ := rep_rope.mp e2
  refine ⟨p, atI_int h0 e1, ?_⟩
  rw [List.getD_eq_getElem?_getD, List.getElem?_eq_getElem hi]
  exact hp
end L2

namespace RT

inductive Conn (es : List (Int × Int)) : Int → Int → Prop
  | refl (a : Int) : Conn es a a
  | step {a b c : Int} : Conn es a b → ((b, c) ∈ es ∨ (c, b) ∈ es) → Conn es a c

section
variable {es fs : List (Int × Int)} {a b c x y z : Int}

theorem Conn.edge (h : (a, b) ∈ es) : Conn es a b := .step (.refl a) (.inl h)
theorem Conn.trans (h : Conn es a b) (k : Conn es b c) : Conn es a c := by
  induction k with
  | refl => exact h
  | step _ e ih => exact .step ih e
theorem Conn.symm (h : Conn es a b) : Conn es b a := by
  induction h with
  | refl => exact .refl _
  | step _ e ih => exact Conn.trans (.step (.refl _) e.symm) ih
theorem Conn.comm : Conn es a b ↔ Conn es b a := ⟨Conn.symm, Conn.symm⟩
theorem Conn.mono (s : ∀ e, e ∈ es → e ∈ fs) (h : Conn es a b) : Conn fs a b := by
  induction h with
  | refl => exact .refl _
  | step _ e ih => exact .step ih (e.imp (s _) (s _))
/-- what the edges join, joined already -/
theorem Conn.lift (s : ∀ a b, (a, b) ∈ es → Conn fs a b) (h : Conn es a b) : Conn fs a b := by
  induction h with
  | refl => exact .refl _
  | step _ e ih =>
    rcases e with e | e
    · exact ih.trans (s _ _ e)
    · exact ih.trans (s _ _ e).symm
theorem conn_nil : Conn [] x y ↔ x = y := by
  constructor
  · intro h
    cases h with
    | refl => rfl
    | step _ e => rcases e with e | e <;> exact absurd e (by simp)
  · rintro rfl
    exact .refl _
theorem conn_cons : Conn ((a, b) :: es) x y ↔ Conn es x y ∨ (Conn es x a ∧ Conn es b y) ∨ (Conn es x b ∧ Conn es a y) := by
  constructor
  · intro h
    induction h with
    | refl => exact .inl (.refl _)
    | @step q r h' e ih =>
      have key : (q = a ∧ r = b) ∨ (q = b ∧ r = a) ∨ Conn es q r := by
        rcases e with e | e
        · rcases List.mem_cons.mp e with e | e
          · injection e with e1 e2
            exact .inl ⟨e1, e2⟩
          · exact .inr (.inr (Conn.edge e))
        · rcases List.mem_cons.mp e with e | e
          · injection e with e1 e2
            exact .inr (.inl ⟨e2, e1⟩)
          · exact .inr (.inr (Conn.edge e).symm)
      rcases key with ⟨rfl, rfl⟩ | ⟨rfl, rfl⟩ | k
      · rcases ih with i | ⟨i, j⟩ | ⟨i, j⟩
        · exact .inr (.inl ⟨i, .refl _⟩)
        · exact .inr (.inl ⟨i, .refl _⟩)
        · exact .inl i
      · rcases ih with i | ⟨i, j⟩ | ⟨i, j⟩
        · exact .inr (.inr ⟨i, .refl _⟩)
        · exact .inl i
        · exact .inr (.inr ⟨i, .refl _⟩)
      · rcases ih with i | ⟨i, j⟩ | ⟨i, j⟩
        · exact .inl (i.trans k)
        · exact .inr (.inl ⟨i, j.trans k⟩)
        · exact .inr (.inr ⟨i, j.trans k⟩)
  · have up : ∀ {p q : Int}, Conn es p q → Conn ((a, b) :: es) p q := fun h => h.mono fun _ m => List.mem_cons.mpr (.inr m)
    have e : Conn ((a, b) :: es) a b := Conn.edge (List.mem_cons.mpr (.inl rfl))
    rintro (h | ⟨h, k⟩ | ⟨h, k⟩)
    · exact up h
    · exact ((up h).trans e).trans (up k)
    · exact ((up h).trans e.symm).trans (up k)
theorem conn_cons_same (h : Conn es a b) : Conn ((a, b) :: es) x y ↔ Conn es x y := by
  rw [conn_cons]
  constructor
  · rintro (k | ⟨k, l⟩ | ⟨k, l⟩)
    · exact k
    · exact (k.trans h).trans l
    · exact (k.trans h.symm).trans l
  · exact .inl
theorem conn_snoc : Conn (es ++ [(a, b)]) x y ↔ Conn ((a, b) :: es) x y := by
  constructor <;> exact Conn.mono fun e m => by simp at m ⊢; exact m.symm
theorem conn_congr (s : ∀ e, e ∈ es ↔ e ∈ fs) : Conn es x y ↔ Conn fs x y := ⟨Conn.mono fun e m => (s e).mp m, Conn.mono fun e m => (s e).mpr m⟩
end

def First (es : List (Int × Int)) (a : Nat) : Prop := ∀ b : Nat, b < a → ¬ Conn es (b : Int) (a : Int)
noncomputable instance firstDec (es : List (Int × Int)) (a : Nat) : Decidable (First es a) := Classical.propDecidable _
noncomputable def comps (n : Nat) (es : List (Int × Int)) : Nat :=
  ((List.range n).filter fun a => decide (First es a)).length

theorem filter_len_le {α : Type} {p q : α → Bool} : ∀ {l : List α}, (∀ x ∈ l, p x = true → q x = true) → (l.filter p).length ≤ (l.filter q).length
  | [], _ => Nat.le_refl _
  | x :: l, h => by
    have ih := filter_len_le (l := l) fun y m => h y (List.mem_cons.mpr (.inr m))
    have hx := h x (List.mem_cons.mpr (.inl rfl))
    rw [List.filter_cons, List.filter_cons]
    by_cases e : p x = true
    · rw [if_pos e, if_pos (hx e)]
      simp only [List.length_cons]; omega
    · rw [if_neg e]
      split
      · simp only [List.length_cons]; omega
      · exact ih
theorem filter_len_eq {α : Type} {p q : α → Bool} {l : List α} (h : ∀ x ∈ l, p x = q x) : (l.filter p).length = (l.filter q).length :=
  Nat.le_antisymm (filter_len_le fun x m e => (h x m) ▸ e) (filter_len_le fun x m e => (h x m).symm ▸ e)
theorem filter_len_one {α : Type} {p q : α → Bool} {k : α} : ∀ {l : List α}, l.Nodup → k ∈ l → p k = true → q k = false → (∀ x ∈ l, x ≠ k → p x = q x) → (l.filter p).length = (l.filter q).length + 1
  | [], _, m, _, _, _ => absurd m (by simp)
  | x :: l, nd, m, hp, hq, h => by
    obtain ⟨n1, n2⟩ := List.nodup_cons.mp nd
    rw [List.filter_cons, List.filter_cons]
    by_cases e : x = k
    · subst e
      rw [if_pos hp, if_neg (by rw [hq]; decide)]
      have := filter_len_eq (p := p) (q := q) (l := l) fun y my => h y (List.mem_cons.mpr (.inr my)) fun z => n1 (z ▸ my)
      simp only [List.length_cons]; omega
    · have mk : k ∈ l := (List.mem_cons.mp m).resolve_left fun z => e z.symm
      have ih := filter_len_one (l := l) n2 mk hp hq fun y my ne => h y (List.mem_cons.mpr (.inr my)) ne
      rw [h x (List.mem_cons.mpr (.inl rfl)) e]
      split
      · simp only [List.length_cons]; omega
      · exact ih

section
variable {n : Nat} {es fs : List (Int × Int)} {a b : Int}
theorem comps_anti (h : ∀ x y, Conn es x y → Conn fs x y) : comps n fs ≤ comps n es := by
  unfold comps
  refine filter_len_le fun x _ e => ?_
  have e := of_decide_eq_true e
  exact decide_eq_true fun b hb c => e b hb (h _ _ c)
theorem comps_congr (h : ∀ x y, Conn es x y ↔ Conn fs x y) : comps n es = comps n fs :=
  Nat.le_antisymm (comps_anti fun x y => (h x y).mpr) (comps_anti fun x y => (h x y).mp)
theorem comps_nil : comps n [] = n := by
  unfold comps
  rw [List.filter_eq_self.mpr, List.length_range]
  intro x _
  exact decide_eq_true fun b hb c => by
    have := conn_nil.mp c
    omega
theorem least_of {P : Nat → Prop} : ∀ {m : Nat}, P m → ∃ k, P k ∧ k ≤ m ∧ ∀ j, j < k → ¬ P j := by
  intro m
  induction m using Nat.strongRecOn with
  | _ m ih =>
    intro hm
    by_cases h : ∃ j, j < m ∧ P j
    · obtain ⟨j, hj, pj⟩ := h
      obtain ⟨k, pk, kj, lk⟩ := ih j hj pj
      exact ⟨k, pk, by omega, lk⟩
    · exact ⟨m, hm, Nat.le_refl _, fun j hj pj => h ⟨j, hj, pj⟩⟩
theorem comps_join (ha : 0 ≤ a ∧ a < n) (hb : 0 ≤ b ∧ b < n) (h : ¬ Conn es a b) : comps n es = comps n ((a, b) :: es) + 1 := by
  obtain ⟨k, c1, k1, l1⟩ := least_of (P := fun j : Nat => Conn es (j : Int) a) (m := a.toNat) (by rw [Int.toNat_of_nonneg ha.1]; exact .refl _)
  obtain ⟨l, c2, k2, l2⟩ := least_of (P := fun j : Nat => Conn es (j : Int) b) (m := b.toNat) (by rw [Int.toNat_of_nonneg hb.1]; exact .refl _)
  have ne : k ≠ l := fun e => h (c1.symm.trans (e ▸ c2))
  have first1 : ∀ j : Nat, j < k → ¬ Conn es (j : Int) (k : Int) := fun j hj c => l1 j hj (c.trans c1)
  have first2 : ∀ j : Nat, j < l → ¬ Conn es (j : Int) (l : Int) := fun j hj c => l2 j hj (c.trans c2)
  have joined : Conn ((a, b) :: es) (k : Int) (l : Int) := conn_cons.mpr (.inr (.inl ⟨c1, c2.symm⟩))
  unfold comps
  refine filter_len_one (k := max k l) List.nodup_range (List.mem_range.mpr (by omega)) ?_ ?_ ?_
  · refine decide_eq_true fun j hj c => ?_
    rcases Nat.lt_or_gt_of_ne ne with q | q
    · rw [Nat.max_eq_right (Nat.le_of_lt q)] at hj c
      exact first2 j hj c
    · rw [Nat.max_eq_left (Nat.le_of_lt q)] at hj c
      exact first1 j hj c
  · refine decide_eq_false fun f => ?_
    rcases Nat.lt_or_gt_of_ne ne with q | q
    · rw [Nat.max_eq_right (Nat.le_of_lt q)] at f
      exact f k q joined
    · rw [Nat.max_eq_left (Nat.le_of_lt q)] at f
      exact f l q joined.symm
  · intro x _ nx
    have : First es x ↔ First ((a, b) :: es) x := by
      constructor
      · intro f j hj c
        rcases conn_cons.mp c with c | ⟨d1, d2⟩ | ⟨d1, d2⟩
        · exact f j hj c
        · have e1 : k ≤ j := Nat.le_of_not_lt fun q => l1 j q d1
          have e2 : l ≤ x := Nat.le_of_not_lt fun q => l2 x q d2.symm
          have e3 : ¬ l < x := fun q => f l q (c2.trans d2)
          exact nx (by omega)
        · have e1 : l ≤ j := Nat.le_of_not_lt fun q => l2 j q d1
          have e2 : k ≤ x := Nat.le_of_not_lt fun q => l1 x q d2.symm
          have e3 : ¬ k < x := fun q => f k q (c1.trans d2)
          exact nx (by omega)
      · intro f j hj c
        exact f j hj (conn_cons.mpr (.inl c))
    simp only [this]
end

def Forest : List (Int × Int) → Prop
  | [] => True
  | e :: es => ¬ Conn es e.1 e.2 ∧ Forest es
def Valid (n : Nat) (es : List (Int × Int)) : Prop := ∀ e ∈ es, (0 ≤ e.1 ∧ e.1 < n) ∧ 0 ≤ e.2 ∧ e.2 < n
section
variable {n : Nat} {es fs : List (Int × Int)}
theorem comps_le : ∀ {es : List (Int × Int)}, Valid n es → n ≤ comps n es + es.length
  | [], _ => by rw [comps_nil]; exact Nat.le_refl _
  | (a, b) :: es, v => by
    have ih := comps_le (es := es) fun e m => v e (List.mem_cons.mpr (.inr m))
    have va := v (a, b) (List.mem_cons.mpr (.inl rfl))
    by_cases c : Conn es a b
    · have := comps_congr (n := n) fun x y => conn_cons_same (x := x) (y := y) c
      simp only [List.length_cons]; omega
    · have : comps n es = comps n ((a, b) :: es) + 1 := comps_join (n := n) va.1 va.2 c
      simp only [List.length_cons]; omega
theorem forest_iff : ∀ {es : List (Int × Int)}, Valid n es → (Forest es ↔ comps n es + es.length = n)
  | [], _ => by rw [comps_nil]; exact ⟨fun _ => rfl, fun _ => trivial⟩
  | (a, b) :: es, v => by
    have v' : Valid n es := fun e m => v e (List.mem_cons.mpr (.inr m))
    have ih := forest_iff (es := es) v'
    have le := comps_le (n := n) v'
    have va := v (a, b) (List.mem_cons.mpr (.inl rfl))
    unfold Forest
    by_cases c : Conn es a b
    · have := comps_congr (n := n) fun x y => conn_cons_same (x := x) (y := y) c
      simp only [List.length_cons]
      exact ⟨fun h => absurd c h.1, fun h => by omega⟩
    · have : comps n es = comps n ((a, b) :: es) + 1 := comps_join (n := n) va.1 va.2 c
      simp only [List.length_cons]
      exact ⟨fun h => by have := ih.mp h.2; omega, fun h => ⟨c, ih.mpr (by omega)⟩⟩
/-- as many ropes as parts allow, and all within: the same parts -/
theorem span_of_comps (v : Valid n fs) (h : comps n es ≤ comps n fs) (s : ∀ x y, Conn es x y → Conn fs x y) : ∀ x y, Conn fs x y → Conn es x y := by
  have all : ∀ a b, (a, b) ∈ fs → Conn es a b := fun a b m => by
    refine Classical.byContradiction fun c => ?_
    have va := v (a, b) m
    have : comps n es = comps n ((a, b) :: es) + 1 := comps_join (n := n) va.1 va.2 c
    have up : comps n fs ≤ comps n ((a, b) :: es) := comps_anti fun x y h => by
      refine h.lift fun p q mp => ?_
      rcases List.mem_cons.mp mp with e | e
      · injection e with e1 e2
        subst e1; subst e2
        exact Conn.edge m
      · exact s _ _ (Conn.edge e)
    omega
  exact fun x y c => c.lift all
end
end RT

namespace RT
abbrev Rope := Int × Int × Int
def rp (ropes : List Rope) (k : Int) : Rope := ropes.getD k.toNat (0, 0, 0)
def e1 (ropes : List Rope) (k : Int) : Int × Int := ((rp ropes k).1, (rp ropes k).2.1)
def ed (ropes : List Rope) (ns : List Int) : List (Int × Int) := ns.map (e1 ropes)
/-- all places of the ropes are places -/
def Okr (n : Nat) (ropes : List Rope) : Prop := ∀ r ∈ ropes, (0 ≤ r.1 ∧ r.1 < n) ∧ 0 ≤ r.2.1 ∧ r.2.1 < n
/-- all numbers are ropes -/
def Okn (ropes : List Rope) (ns : List Int) : Prop := ∀ k ∈ ns, 0 ≤ k ∧ k < ropes.length
def lab (g : List Int) (x : Int) : Int := g.getD x.toNat 0
def relab (g : List Int) (p q : Int) : List Int := g.map fun x => if x = p then q else x
def iota (n : Nat) : List Int := (List.range n).map fun i : Nat => (i : Int)
def tstep (d : Bool) (ropes : List Rope) (st : List Int × List Int) (k : Int) : List Int × List Int :=
  if lab st.1 (rp ropes k).1 ≠ lab st.1 (rp ropes k).2.1 then
    (if d then relab st.1 (lab st.1 (rp ropes k).2.1) (lab st.1 (rp ropes k).1) else relab st.1 (lab st.1 (rp ropes k).1) (lab st.1 (rp ropes k).2.1), st.2 ++ [k])
  else st
def run (d : Bool) (n : Nat) (ropes : List Rope) (order : List Int) : List Int × List Int := order.foldl (tstep d ropes) (iota n, [])
def take (d : Bool) (n : Nat) (ropes : List Rope) (order : List Int) : List Int := (run d n ropes order).2

structure Lab (n : Nat) (g : List Int) (es : List (Int × Int)) : Prop where
  len : g.length = n
  iff : ∀ x y : Int, 0 ≤ x → x < n → 0 ≤ y → y < n → (lab g x = lab g y ↔ Conn es x y)

section
variable {n : Nat} {ropes : List Rope} {ns ms : List Int} {g : List Int} {es : List (Int × Int)} {a b p q : Int} {d : Bool}
theorem ed_append : ed ropes (ns ++ ms) = ed ropes ns ++ ed ropes ms := List.map_append
theorem ed_snoc {k : Int} : ed ropes (ns ++ [k]) = ed ropes ns ++ [e1 ropes k] := List.map_append
theorem rp_mem {k : Int} (h : 0 ≤ k ∧ k < ropes.length) : rp ropes k ∈ ropes := by
  unfold rp
  have : k.toNat < ropes.length := by omega
  rw [List.getD_eq_getElem?_getD, List.getElem?_eq_getElem this]
  exact List.getElem_mem this
theorem Okr.at (v : Okr n ropes) {k : Int} (h : 0 ≤ k ∧ k < ropes.length) : (0 ≤ (rp ropes k).1 ∧ (rp ropes k).1 < n) ∧ 0 ≤ (rp ropes k).2.1 ∧ (rp ropes k).2.1 < n := v _ (rp_mem h)
theorem valid_ed (v : Okr n ropes) (h : Okn ropes ns) : Valid n (ed ropes ns) := fun e m => by
  obtain ⟨k, mk, rfl⟩ := List.mem_map.mp m
  exact v.at (h k mk)
theorem lab_eq {x : Int} (h0 : 0 ≤ x) (h1 : x < g.length) : g[x.toNat]? = some (lab g x) := by
  unfold lab
  have : x.toNat < g.length := by omega
  rw [List.getD_eq_getElem?_getD, List.getElem?_eq_getElem this]
  rfl
theorem lab_relab {x : Int} (h0 : 0 ≤ x) (h1 : x < g.length) : lab (relab g p q) x = if lab g x = p then q else lab g x := by
  have e := lab_eq (g := g) h0 h1
  show (relab g p q).getD x.toNat 0 = _
  unfold relab
  rw [List.getD_eq_getElem?_getD, List.getElem?_map, e]
  rfl
theorem lab_iota {x : Int} (h0 : 0 ≤ x) (h1 : x < n) : lab (iota n) x = x := by
  unfold lab iota
  have : x.toNat < n := by omega
  rw [List.getD_eq_getElem?_getD, List.getElem?_map, List.getElem?_range this]
  show ((x.toNat : Nat) : Int) = x
  omega
theorem Lab.init : Lab n (iota n) [] := ⟨by simp [iota], fun x y h0 h1 k0 k1 => by rw [lab_iota h0 h1, lab_iota k0 k1, conn_nil]⟩
theorem Lab.congr {fs : List (Int × Int)} (L : Lab n g es) (h : ∀ x y, Conn es x y ↔ Conn fs x y) : Lab n g fs :=
  ⟨L.len, fun x y h0 h1 k0 k1 => (L.iff x y h0 h1 k0 k1).trans (h x y)⟩
/-- two labels become one, either way -/
theorem Lab.join (L : Lab n g es) (ha : 0 ≤ a ∧ a < n) (hb : 0 ≤ b ∧ b < n) (ne : lab g a ≠ lab g b) : Lab n (relab g (lab g a) (lab g b)) ((a, b) :: es) := by
  refine ⟨by rw [relab, List.length_map]; exact L.len, fun x y h0 h1 k0 k1 => ?_⟩
  have hl : (g.length : Int) = n := by rw [L.len]
  rw [lab_relab h0 (by omega), lab_relab k0 (by omega), conn_cons]
  rw [← L.iff x y h0 h1 k0 k1, ← L.iff x a h0 h1 ha.1 ha.2, ← L.iff b y hb.1 hb.2 k0 k1, ← L.iff x b h0 h1 hb.1 hb.2, ← L.iff a y ha.1 ha.2 k0 k1]
  generalize lab g a = A at *
  generalize lab g b = B at *
  generalize lab g x = X at *
  generalize lab g y = Y at *
  split <;> split <;> omega
theorem conn_swap : ∀ {x y : Int}, Conn ((a, b) :: es) x y ↔ Conn ((b, a) :: es) x y := by
  intro x y
  rw [conn_cons, conn_cons]
  constructor <;> rintro (h | h | h) <;> simp [h]
theorem Lab.joinD (L : Lab n g es) (ha : 0 ≤ a ∧ a < n) (hb : 0 ≤ b ∧ b < n) (ne : lab g a ≠ lab g b) : Lab n (if d then relab g (lab g b) (lab g a) else relab g (lab g a) (lab g b)) ((a, b) :: es) := by
  split
  · exact (L.join hb ha ne.symm).congr fun _ _ => conn_swap
  · exact L.join ha hb ne
theorem forest_snoc {e : Int × Int} (v : Valid n (e :: es)) : Forest (es ++ [e]) ↔ Forest (e :: es) := by
  have v' : Valid n (es ++ [e]) := fun z m => v z (by simp at m ⊢; exact m.symm)
  rw [forest_iff v, forest_iff v', comps_congr (n := n) (fs := e :: es) fun x y => conn_snoc]
  simp
structure Took (n : Nat) (ropes : List Rope) (pre : List Int) (st : List Int × List Int) : Prop where
  lb : Lab n st.1 (ed ropes st.2)
  fo : Forest (ed ropes st.2)
  sp : ∀ x y, Conn (ed ropes st.2) x y ↔ Conn (ed ropes pre) x y
  sub : st.2.Sublist pre
theorem Took.init : Took n ropes [] (iota n, []) := ⟨Lab.init, trivial, fun _ _ => Iff.rfl, List.Sublist.refl _⟩
theorem conn_snoc_congr {fs : List (Int × Int)} {e : Int × Int} (h : ∀ x y, Conn es x y ↔ Conn fs x y) (x y : Int) : Conn (es ++ [e]) x y ↔ Conn (fs ++ [e]) x y := by
  obtain ⟨a, b⟩ := e
  rw [conn_snoc, conn_snoc, conn_cons, conn_cons, h, h, h, h, h]
theorem Took.step {pre : List Int} {st : List Int × List Int} {k : Int} (v : Okr n ropes) (hp : Okn ropes pre) (hk : 0 ≤ k ∧ k < ropes.length) (T : Took n ropes pre st) : Took n ropes (pre ++ [k]) (tstep d ropes st k) := by
  obtain ⟨va, vb⟩ := v.at hk
  have ok2 : Okn ropes st.2 := fun j m => hp j (T.sub.subset m)
  unfold tstep
  split
  · rename_i ne
    have nc : ¬ Conn (ed ropes st.2) (rp ropes k).1 (rp ropes k).2.1 := fun c => ne ((T.lb.iff _ _ va.1 va.2 vb.1 vb.2).mpr c)
    have vv : Valid n (e1 ropes k :: ed ropes st.2) := fun e m => by
      rcases List.mem_cons.mp m with rfl | m
      · exact ⟨va, vb⟩
      · exact valid_ed v ok2 e m
    refine ⟨?_, ?_, ?_, ?_⟩
    · show Lab n _ (ed ropes (st.2 ++ [k]))
      rw [ed_snoc]
      exact (T.lb.joinD va vb ne).congr fun _ _ => conn_snoc.symm
    · show Forest (ed ropes (st.2 ++ [k]))
      rw [ed_snoc, forest_snoc vv]
      exact ⟨nc, T.fo⟩
    · intro x y
      show Conn (ed ropes (st.2 ++ [k])) x y ↔ _
      rw [ed_snoc, ed_snoc]
      exact conn_snoc_congr T.sp x y
    · exact List.Sublist.append T.sub (List.Sublist.refl _)
  · rename_i ne
    have eq : lab st.1 (rp ropes k).1 = lab st.1 (rp ropes k).2.1 := Classical.byContradiction ne
    have c := (T.lb.iff _ _ va.1 va.2 vb.1 vb.2).mp eq
    refine ⟨T.lb, T.fo, fun x y => ?_, T.sub.trans (List.sublist_append_left _ _)⟩
    rw [ed_snoc, ← conn_snoc_congr T.sp]
    show _ ↔ Conn (ed ropes st.2 ++ [((rp ropes k).1, (rp ropes k).2.1)]) x y
    rw [conn_snoc, conn_cons_same c]
theorem Took.go (v : Okr n ropes) : ∀ {ks pre : List Int} {st : List Int × List Int}, Okn ropes pre → Okn ropes ks → Took n ropes pre st → Took n ropes (pre ++ ks) (ks.foldl (tstep d ropes) st)
  | [], pre, st, _, _, T => by rw [List.append_nil]; exact T
  | k :: ks, pre, st, hp, hk, T => by
    have h1 := hk k (List.mem_cons.mpr (.inl rfl))
    have T1 := T.step (d := d) v hp h1
    have ok1 : Okn ropes (pre ++ [k]) := fun j m => by
      rcases List.mem_append.mp m with m | m
      · exact hp j m
      · rw [List.mem_singleton.mp m]; exact h1
    have := Took.go v (ks := ks) ok1 (fun j m => hk j (List.mem_cons.mpr (.inr m))) T1
    rw [List.append_assoc] at this
    exact this
theorem took (v : Okr n ropes) (h : Okn ropes ns) : Took n ropes ns (run d n ropes ns) := by
  have := Took.go (d := d) v (ks := ns) (pre := []) (fun _ m => absurd m (by simp)) h Took.init
  exact this
theorem take_sub (v : Okr n ropes) (h : Okn ropes ns) : (take d n ropes ns).Sublist ns := (took v h).sub
theorem take_okn (v : Okr n ropes) (h : Okn ropes ns) : Okn ropes (take d n ropes ns) := fun k m => h k ((take_sub v h).subset m)
theorem take_len (v : Okr n ropes) (h : Okn ropes ns) : comps n (ed ropes ns) + (take d n ropes ns).length = n := by
  have T := took (d := d) v h
  have f := (forest_iff (n := n) (valid_ed v (take_okn v h))).mp T.fo
  rw [← comps_congr (n := n) T.sp, ← List.length_map (f := e1 ropes) (as := take d n ropes ns)]
  exact f
def all (ropes : List Rope) : List Int := iota ropes.length
theorem okn_all : Okn ropes (all ropes) := fun k m => by
  obtain ⟨i, mi, rfl⟩ := List.mem_map.mp m
  have := List.mem_range.mp mi
  exact ⟨by omega, by omega⟩
theorem mem_all {k : Int} : k ∈ all ropes ↔ 0 ≤ k ∧ k < ropes.length := by
  refine ⟨okn_all k, fun h => List.mem_map.mpr ⟨k.toNat, List.mem_range.mpr (by omega), by omega⟩⟩
theorem ed_sub_all (h : Okn ropes ns) : ∀ e, e ∈ ed ropes ns → e ∈ ed ropes (all ropes) := fun e m => by
  obtain ⟨k, mk, rfl⟩ := List.mem_map.mp m
  exact List.mem_map.mpr ⟨k, mem_all.mpr (h k mk), rfl⟩
/-- a tree, by the document's words -/
structure Tree (n : Nat) (ropes : List Rope) (ns : List Int) : Prop where
  ok : Okn ropes ns
  fo : Forest (ed ropes ns)
  sp : ∀ x y, Conn (ed ropes (all ropes)) x y → Conn (ed ropes ns) x y
/-- the program's test -/
def isTree (n : Nat) (ropes : List Rope) (ns : List Int) : Bool :=
  if ns.length ≠ (take true n ropes (all ropes)).length then false
  else if ns.all (fun k => decide (0 ≤ k ∧ k < ropes.length)) = false then false
  else decide ((take true n ropes ns).length = ns.length)
theorem take_full (v : Okr n ropes) (h : Okn ropes ns) : (take d n ropes ns).length = ns.length ↔ Forest (ed ropes ns) := by
  have L := take_len (d := d) v h
  rw [forest_iff (valid_ed v h)]
  unfold ed at *
  rw [List.length_map]
  omega
theorem Tree.len (v : Okr n ropes) (T : Tree n ropes ns) : ns.length = (take d n ropes (all ropes)).length := by
  have L := take_len (d := d) v (okn_all (ropes := ropes))
  have f := (forest_iff (n := n) (valid_ed v T.ok)).mp T.fo
  have c := comps_congr (n := n) (es := ed ropes ns) (fs := ed ropes (all ropes)) fun x y => ⟨Conn.mono (ed_sub_all T.ok), T.sp x y⟩
  have : (ed ropes ns).length = ns.length := List.length_map ..
  omega
theorem isTree_iff (v : Okr n ropes) : isTree n ropes ns = true ↔ Tree n ropes ns := by
  unfold isTree
  constructor
  · intro h
    split at h
    · cases h
    · rename_i hl
      have hl : ns.length = (take true n ropes (all ropes)).length := Classical.byContradiction hl
      split at h
      · cases h
      · rename_i ha
        have ok : Okn ropes ns := by unfold Okn; simpa using ha
        have fo := (take_full v ok).mp (of_decide_eq_true h)
        refine ⟨ok, fo, span_of_comps (n := n) (valid_ed v okn_all) ?_ fun x y c => c.mono (ed_sub_all ok)⟩
        have L := take_len (d := true) v (okn_all (ropes := ropes))
        have f := (forest_iff (n := n) (valid_ed v ok)).mp fo
        have : (ed ropes ns).length = ns.length := List.length_map ..
        omega
  · intro T
    rw [if_neg fun h => h (T.len v), if_neg, decide_eq_true]
    · exact (take_full v T.ok).mpr T.fo
    · have : (ns.all fun k => decide (0 ≤ k ∧ k < ropes.length)) = true := List.all_eq_true.mpr fun k m => decide_eq_true (T.ok k m)
      rw [this]; simp
end
end RT

namespace RT
def has (G : List (List Int)) (x : Int) : List (List Int) := G.filter fun g => g.contains x
def gstep (ropes : List Rope) (G : List (List Int)) (k : Int) : List (List Int) :=
  ((G.filter fun g => g != (has G (rp ropes k).1).headD []).filter fun g => g != (has G (rp ropes k).2.1).headD []) ++ [(has G (rp ropes k).1).headD [] ++ (has G (rp ropes k).2.1).headD []]
def gok (ropes : List Rope) (G : List (List Int)) (k : Int) : Bool := decide (0 ≤ k ∧ k < ropes.length) && !(has G (rp ropes k).1 == has G (rp ropes k).2.1)
def joins (ropes : List Rope) : List (List Int) → List Int → Option (List (List Int))
  | G, [] => some G
  | G, k :: ks => if gok ropes G k then joins ropes (gstep ropes G k) ks else none
def within (ropes : List Rope) (G : List (List Int)) : Bool := ropes.all fun r => G.all fun g => g.contains r.1 == g.contains r.2.1
def alone (n : Nat) : List (List Int) := (iota n).map fun i => [i]
def isATree (n : Nat) (ropes : List Rope) (ns : List Int) : Bool :=
  match joins ropes (alone n) ns with
  | none => false
  | some G => within ropes G

structure Grp (n : Nat) (G : List (List Int)) (es : List (Int × Int)) : Prop where
  ok : ∀ g ∈ G, ∀ x ∈ g, 0 ≤ x ∧ x < n
  cov : ∀ x : Int, 0 ≤ x → x < n → ∃ g ∈ G, x ∈ g
  cls : ∀ g ∈ G, ∀ x ∈ g, ∀ y : Int, 0 ≤ y → y < n → (y ∈ g ↔ Conn es x y)
  un : ∀ g ∈ G, ∀ h ∈ G, ∀ x, x ∈ g → x ∈ h → g = h
  nd : G.Nodup

theorem filter_single {α : Type} {p : α → Bool} {g : α} : ∀ {l : List α}, l.Nodup → g ∈ l → p g = true → (∀ h ∈ l, p h = true → h = g) → l.filter p = [g]
  | [], _, m, _, _ => absurd m (by simp)
  | x :: l, nd, m, hp, u => by
    obtain ⟨n1, n2⟩ := List.nodup_cons.mp nd
    rw [List.filter_cons]
    by_cases e : x = g
    · subst e
      rw [if_pos hp, List.filter_eq_nil_iff.mpr]
      intro y my py
      exact n1 ((u y (List.mem_cons.mpr (.inr my)) py) ▸ my)
    · have : ¬ p x = true := fun q => e (u x (List.mem_cons.mpr (.inl rfl)) q)
      rw [if_neg this]
      exact filter_single n2 ((List.mem_cons.mp m).resolve_left fun z => e z.symm) hp fun h mh ph => u h (List.mem_cons.mpr (.inr mh)) ph

section
variable {n : Nat} {ropes : List Rope} {ns ms : List Int} {G : List (List Int)} {es : List (Int × Int)} {x y : Int}
theorem Grp.has (R : Grp n G es) (h0 : 0 ≤ x) (h1 : x < n) : ∃ g ∈ G, x ∈ g ∧ has G x = [g] := by
  obtain ⟨g, mg, mx⟩ := R.cov x h0 h1
  refine ⟨g, mg, mx, ?_⟩
  refine filter_single R.nd mg (by simpa using mx) fun h mh ph => ?_
  have px : x ∈ h := by simpa using ph
  exact R.un h mh g mg x px mx
theorem mem_alone {g : List Int} : g ∈ alone n ↔ ∃ x : Int, 0 ≤ x ∧ x < n ∧ g = [x] := by
  unfold alone iota
  constructor
  · intro m
    obtain ⟨x, mx, rfl⟩ := List.mem_map.mp m
    obtain ⟨i, mi, rfl⟩ := List.mem_map.mp mx
    have := List.mem_range.mp mi
    exact ⟨i, by omega, by omega, rfl⟩
  · rintro ⟨x, h0, h1, rfl⟩
    exact List.mem_map.mpr ⟨x, List.mem_map.mpr ⟨x.toNat, List.mem_range.mpr (by omega), by omega⟩, rfl⟩
theorem nodup_map_inj {α β : Type} {f : α → β} (hf : ∀ a b, f a = f b → a = b) : ∀ {l : List α}, l.Nodup → (l.map f).Nodup
  | [], _ => List.nodup_nil
  | x :: l, nd => by
    obtain ⟨n1, n2⟩ := List.nodup_cons.mp nd
    refine List.nodup_cons.mpr ⟨fun m => ?_, nodup_map_inj hf n2⟩
    obtain ⟨y, my, e⟩ := List.mem_map.mp m
    exact n1 (hf _ _ e ▸ my)
theorem nodup_iota : (iota n).Nodup := nodup_map_inj (fun a b e => by omega) List.nodup_range
theorem Grp.init : Grp n (alone n) [] where
  ok := fun g mg x mx => by
    obtain ⟨z, h0, h1, rfl⟩ := mem_alone.mp mg
    rw [List.mem_singleton.mp mx]; exact ⟨h0, h1⟩
  cov := fun x h0 h1 => ⟨[x], mem_alone.mpr ⟨x, h0, h1, rfl⟩, List.mem_singleton.mpr rfl⟩
  cls := fun g mg x mx y _ _ => by
    obtain ⟨z, h0, h1, rfl⟩ := mem_alone.mp mg
    rw [List.mem_singleton.mp mx, conn_nil, List.mem_singleton]
    exact eq_comm
  un := fun g mg h mh x m1 m2 => by
    obtain ⟨z, _, _, rfl⟩ := mem_alone.mp mg
    obtain ⟨u, _, _, rfl⟩ := mem_alone.mp mh
    rw [← List.mem_singleton.mp m1, ← List.mem_singleton.mp m2]
  nd := nodup_map_inj (fun a b e => by injection e) nodup_iota
theorem Grp.congr {fs : List (Int × Int)} (R : Grp n G es) (h : ∀ x y, Conn es x y ↔ Conn fs x y) : Grp n G fs :=
  { R with cls := fun g mg x mx y h0 h1 => (R.cls g mg x mx y h0 h1).trans (h x y) }
theorem nodup_snoc {α : Type} {l : List α} {a : α} (h : l.Nodup) (ha : a ∉ l) : (l ++ [a]).Nodup := by
  rw [List.nodup_append]
  refine ⟨h, by simp, fun x mx y my e => ?_⟩
  rw [List.mem_singleton.mp my] at e
  exact ha (e ▸ mx)
/-- the two groups are one now -/
theorem Grp.join {a b : Int} {ga gb : List Int} (R : Grp n G es) (ha : 0 ≤ a ∧ a < n) (hb : 0 ≤ b ∧ b < n) (ma : ga ∈ G) (mb : gb ∈ G) (xa : a ∈ ga) (xb : b ∈ gb) (nc : ga ≠ gb) :
    Grp n (((G.filter fun g => g != ga).filter fun g => g != gb) ++ [ga ++ gb]) ((a, b) :: es) := by
  have old : ∀ g, g ∈ (G.filter fun g => g != ga).filter (fun g => g != gb) ↔ g ∈ G ∧ g ≠ ga ∧ g ≠ gb := fun g => by
    rw [List.mem_filter, List.mem_filter]
    simp [and_assoc]
  have mem : ∀ g, g ∈ (((G.filter fun g => g != ga).filter fun g => g != gb) ++ [ga ++ gb]) ↔ (g ∈ G ∧ g ≠ ga ∧ g ≠ gb) ∨ g = ga ++ gb := fun g => by
    rw [List.mem_append, old, List.mem_singleton]
  have ina : ∀ y : Int, 0 ≤ y → y < n → (y ∈ ga ↔ Conn es a y) := fun y h0 h1 => R.cls ga ma a xa y h0 h1
  have inb : ∀ y : Int, 0 ≤ y → y < n → (y ∈ gb ↔ Conn es b y) := fun y h0 h1 => R.cls gb mb b xb y h0 h1
  refine ⟨fun g mg x mx => ?_, fun x h0 h1 => ?_, fun g mg x mx y h0 h1 => ?_, fun g mg h mh x m1 m2 => ?_, ?_⟩
  · rcases (mem g).mp mg with ⟨m, _⟩ | rfl
    · exact R.ok g m x mx
    · rcases List.mem_append.mp mx with m | m
      · exact R.ok ga ma x m
      · exact R.ok gb mb x m
  · obtain ⟨g, mg, mx⟩ := R.cov x h0 h1
    by_cases e1 : g = ga
    · exact ⟨ga ++ gb, (mem _).mpr (.inr rfl), List.mem_append.mpr (.inl (e1 ▸ mx))⟩
    · by_cases e2 : g = gb
      · exact ⟨ga ++ gb, (mem _).mpr (.inr rfl), List.mem_append.mpr (.inr (e2 ▸ mx))⟩
      · exact ⟨g, (mem _).mpr (.inl ⟨mg, e1, e2⟩), mx⟩
  · rw [conn_cons]
    rcases (mem g).mp mg with ⟨m, na, nb⟩ | rfl
    · have vx := R.ok g m x mx
      have n1 : ¬ Conn es x a := fun c => na (R.un g m ga ma x mx ((ina x vx.1 vx.2).mpr c.symm))
      have n2 : ¬ Conn es x b := fun c => nb (R.un g m gb mb x mx ((inb x vx.1 vx.2).mpr c.symm))
      rw [R.cls g m x mx y h0 h1]
      exact ⟨.inl, fun h => h.elim id fun h => h.elim (fun h => absurd h.1 n1) fun h => absurd h.1 n2⟩
    · have vx : 0 ≤ x ∧ x < n := by
        rcases List.mem_append.mp mx with m | m
        · exact R.ok ga ma x m
        · exact R.ok gb mb x m
      rw [List.mem_append, ina y h0 h1, inb y h0 h1]
      rcases List.mem_append.mp mx with m | m
      · have c := (ina x vx.1 vx.2).mp m
        constructor
        · rintro (k | k)
          · exact .inl (c.symm.trans k)
          · exact .inr (.inl ⟨c.symm, k⟩)
        · rintro (k | ⟨k, l⟩ | ⟨k, l⟩)
          · exact .inl (c.trans k)
          · exact .inr l
          · exact .inl l
      · have c := (inb x vx.1 vx.2).mp m
        constructor
        · rintro (k | k)
          · exact .inr (.inr ⟨c.symm, k⟩)
          · exact .inl (c.symm.trans k)
        · rintro (k | ⟨k, l⟩ | ⟨k, l⟩)
          · exact .inr (c.trans k)
          · exact .inr l
          · exact .inl l
  · have two : ∀ g, g ∈ G → g ≠ ga → g ≠ gb → ∀ z, z ∈ g → z ∈ ga ++ gb → False := fun g m na nb z mz mz' => by
      rcases List.mem_append.mp mz' with k | k
      · exact na (R.un g m ga ma z mz k)
      · exact nb (R.un g m gb mb z mz k)
    rcases (mem g).mp mg with ⟨m, na, nb⟩ | rfl
    · rcases (mem h).mp mh with ⟨m', na', nb'⟩ | rfl
      · exact R.un g m h m' x m1 m2
      · exact (two g m na nb x m1 m2).elim
    · rcases (mem h).mp mh with ⟨m', na', nb'⟩ | rfl
      · exact (two h m' na' nb' x m2 m1).elim
      · rfl
  · refine nodup_snoc ((R.nd.sublist List.filter_sublist).sublist List.filter_sublist) fun m => ?_
    obtain ⟨m, na, nb⟩ := (old _).mp m
    exact na (R.un _ m ga ma a (List.mem_append.mpr (.inl xa)) xa)
theorem Grp.same {a b : Int} {ga gb : List Int} (R : Grp n G es) (hb : 0 ≤ b ∧ b < n) (ma : ga ∈ G) (mb : gb ∈ G) (xa : a ∈ ga) (xb : b ∈ gb) : ga = gb ↔ Conn es a b := by
  rw [← R.cls ga ma a xa b hb.1 hb.2]
  exact ⟨fun e => e ▸ xb, fun m => R.un ga ma gb mb b m xb⟩
theorem joins_spec (v : Okr n ropes) : ∀ {ks pre : List Int} {G : List (List Int)}, Okn ropes pre → Forest (ed ropes pre) → Grp n G (ed ropes pre) →
    match joins ropes G ks with
    | none => ¬ (Okn ropes ks ∧ Forest (ed ropes (pre ++ ks)))
    | some G' => Okn ropes ks ∧ Forest (ed ropes (pre ++ ks)) ∧ Grp n G' (ed ropes (pre ++ ks))
  | [], pre, G, _, fo, R => by
    rw [List.append_nil]
    exact ⟨fun _ m => absurd m (by simp), fo, R⟩
  | k :: ks, pre, G, hp, fo, R => by
    unfold joins
    by_cases hk : 0 ≤ k ∧ k < ropes.length
    · obtain ⟨va, vb⟩ := v.at hk
      obtain ⟨ga, ma, xa, ea⟩ := R.has va.1 va.2
      obtain ⟨gb, mb, xb, eb⟩ := R.has vb.1 vb.2
      have vv : Valid n (e1 ropes k :: ed ropes pre) := fun e m => by
        rcases List.mem_cons.mp m with rfl | m
        · exact ⟨va, vb⟩
        · exact valid_ed v hp e m
      have sm : ga = gb ↔ Conn (ed ropes pre) (rp ropes k).1 (rp ropes k).2.1 := R.same vb ma mb xa xb
      have egok : gok ropes G k = !decide (ga = gb) := by
        unfold gok
        rw [decide_eq_true hk, ea, eb]
        by_cases e : ga = gb
        · simp [e]
        · simp [e]
      have edk : ed ropes (pre ++ k :: ks) = ed ropes ((pre ++ [k]) ++ ks) := by rw [List.append_assoc]; rfl
      have ok1 : Okn ropes (pre ++ [k]) := fun j m => by
        rcases List.mem_append.mp m with m | m
        · exact hp j m
        · rw [List.mem_singleton.mp m]; exact hk
      by_cases e : ga = gb
      · rw [egok, decide_eq_true e]
        show ¬ _
        rintro ⟨ok, f⟩
        -- a ring
        have c := sm.mp e
        have ok2 : Okn ropes (pre ++ k :: ks) := fun j m => by
          rcases List.mem_append.mp m with m | m
          · exact hp j m
          · exact ok j m
        have f1 := (forest_iff (n := n) (valid_ed v ok2)).mp f
        have hc : ∀ x y, Conn (ed ropes (pre ++ k :: ks)) x y ↔ Conn (ed ropes (pre ++ ks)) x y := fun x y => by
          constructor
          · refine Conn.lift fun p q m => ?_
            obtain ⟨j, mj, ej⟩ := List.mem_map.mp m
            rcases List.mem_append.mp mj with mj | mj
            · exact Conn.edge (ej ▸ List.mem_map.mpr ⟨j, List.mem_append.mpr (.inl mj), rfl⟩)
            · rcases List.mem_cons.mp mj with rfl | mj
              · injection ej with e1 e2
                subst e1; subst e2
                exact c.mono fun z mz => by rw [ed_append]; exact List.mem_append.mpr (.inl mz)
              · exact Conn.edge (ej ▸ List.mem_map.mpr ⟨j, List.mem_append.mpr (.inr mj), rfl⟩)
          · refine Conn.mono fun z mz => ?_
            obtain ⟨j, mj, rfl⟩ := List.mem_map.mp mz
            refine List.mem_map.mpr ⟨j, ?_, rfl⟩
            rcases List.mem_append.mp mj with mj | mj
            · exact List.mem_append.mpr (.inl mj)
            · exact List.mem_append.mpr (.inr (List.mem_cons.mpr (.inr mj)))
        have hv : Valid n (ed ropes (pre ++ ks)) := valid_ed v fun j m => ok2 j (by
          rcases List.mem_append.mp m with mj | mj
          · exact List.mem_append.mpr (.inl mj)
          · exact List.mem_append.mpr (.inr (List.mem_cons.mpr (.inr mj))))
        have le := comps_le hv
        have ec := comps_congr (n := n) hc
        have l1 : (ed ropes (pre ++ k :: ks)).length = (ed ropes (pre ++ ks)).length + 1 := by
          simp [ed]
          omega
        omega
      · rw [egok, decide_eq_false e]
        have R1 : Grp n (gstep ropes G k) (ed ropes (pre ++ [k])) := by
          unfold gstep
          rw [ea, eb, ed_snoc]
          exact (R.join va vb ma mb xa xb e).congr fun _ _ => conn_snoc.symm
        have f1 : Forest (ed ropes (pre ++ [k])) := by
          rw [ed_snoc, forest_snoc vv]
          exact ⟨fun c => e (sm.mpr c), fo⟩
        have ih := joins_spec v (ks := ks) ok1 f1 R1
        show match joins ropes (gstep ropes G k) ks with
          | none => _
          | some G' => _
        cases h : joins ropes (gstep ropes G k) ks with
        | none =>
          rw [h] at ih
          rintro ⟨ok, f⟩
          exact ih ⟨fun j m => ok j (List.mem_cons.mpr (.inr m)), edk ▸ f⟩
        | some G' =>
          rw [h] at ih
          obtain ⟨i1, i2, i3⟩ := ih
          refine ⟨fun j m => ?_, edk ▸ i2, edk ▸ i3⟩
          rcases List.mem_cons.mp m with rfl | m
          · exact hk
          · exact i1 j m
    · have : gok ropes G k = false := by
        unfold gok
        rw [decide_eq_false hk]
        rfl
      rw [this]
      show ¬ _
      rintro ⟨ok, _⟩
      exact hk (ok k (List.mem_cons.mpr (.inl rfl)))
theorem within_iff (v : Okr n ropes) (R : Grp n G es) : within ropes G = true ↔ ∀ r ∈ ropes, Conn es r.1 r.2.1 := by
  unfold within
  rw [List.all_eq_true]
  constructor
  · intro h r mr
    have := List.all_eq_true.mp (h r mr)
    obtain ⟨va, vb⟩ := v r mr
    obtain ⟨g, mg, mx⟩ := R.cov r.1 va.1 va.2
    refine (R.cls g mg r.1 mx r.2.1 vb.1 vb.2).mp ?_
    have q := this g mg
    rw [beq_iff_eq] at q
    have e1 : g.contains r.1 = true := by simpa using mx
    rw [e1] at q
    simpa using q.symm
  · intro h r mr
    refine List.all_eq_true.mpr fun g mg => ?_
    obtain ⟨va, vb⟩ := v r mr
    have c := h r mr
    rw [beq_iff_eq, Bool.eq_iff_iff]
    simp only [List.contains_iff_mem]
    exact ⟨fun m => (R.cls g mg r.1 m r.2.1 vb.1 vb.2).mpr c, fun m => (R.cls g mg r.2.1 m r.1 va.1 va.2).mpr c.symm⟩
theorem rp_get {r : Rope} (h : r ∈ ropes) : ∃ k : Int, (0 ≤ k ∧ k < ropes.length) ∧ rp ropes k = r := by
  obtain ⟨i, hi, e⟩ := List.getElem_of_mem h
  refine ⟨i, by omega, ?_⟩
  unfold rp
  rw [List.getD_eq_getElem?_getD]
  simp [hi, e]
theorem isATree_iff (v : Okr n ropes) : isATree n ropes ns = true ↔ Tree n ropes ns := by
  unfold isATree
  have J := joins_spec v (ks := ns) (pre := []) (G := alone n) (fun _ m => absurd m (by simp)) trivial Grp.init
  rw [List.nil_append] at J
  cases h : joins ropes (alone n) ns with
  | none =>
    rw [h] at J
    exact ⟨fun z => (nomatch z), fun T => absurd ⟨T.ok, T.fo⟩ J⟩
  | some G =>
    rw [h] at J
    obtain ⟨ok, fo, R⟩ := J
    show within ropes G = true ↔ _
    rw [within_iff v R]
    constructor
    · intro h
      refine ⟨ok, fo, fun x y c => c.lift fun a b m => ?_⟩
      obtain ⟨k, mk, ek⟩ := List.mem_map.mp m
      have := h _ (rp_mem (mem_all.mp mk))
      injection ek with e1 e2
      subst e1; subst e2
      exact this
    · intro T r mr
      obtain ⟨k, hk, rfl⟩ := rp_get mr
      exact T.sp _ _ (Conn.edge (List.mem_map.mpr ⟨k, mem_all.mpr hk, rfl⟩))
/-- K01 -/
theorem isTree_eq (v : Okr n ropes) : isTree n ropes ns = isATree n ropes ns := by
  rw [Bool.eq_iff_iff, isTree_iff v, isATree_iff v]
end
end RT

namespace RT
def cost (ropes : List Rope) (k : Int) : Int := (rp ropes k).2.2
/-- i is cheaper than j -/
def Chp (ropes : List Rope) (i j : Int) : Prop := cost ropes i < cost ropes j ∨ (cost ropes i = cost ropes j ∧ i < j)
/-- an order of all ropes, from the cheapest on -/
structure Ord (ropes : List Rope) (order : List Int) : Prop where
  mem : ∀ k, k ∈ order ↔ 0 ≤ k ∧ k < ropes.length
  srt : order.Pairwise (Chp ropes)
section
variable {n : Nat} {ropes : List Rope} {ns ms order : List Int} {i j k : Int} {d : Bool}
theorem Chp.irr : ¬ Chp ropes i i := by unfold Chp; omega
theorem Chp.trans (h : Chp ropes i j) (h' : Chp ropes j k) : Chp ropes i k := by unfold Chp at *; omega
theorem Chp.tri (h : i ≠ j) : Chp ropes i j ∨ Chp ropes j i := by unfold Chp; omega
theorem Ord.nodup (O : Ord ropes order) : order.Nodup := O.srt.imp fun h e => by subst e; exact Chp.irr h
theorem Ord.okn (O : Ord ropes order) : Okn ropes order := fun k m => (O.mem k).mp m
theorem Ord.conn (O : Ord ropes order) {x y : Int} : Conn (ed ropes order) x y ↔ Conn (ed ropes (all ropes)) x y := by
  refine conn_congr fun e => ?_
  unfold ed
  rw [List.mem_map, List.mem_map]
  constructor
  · rintro ⟨k, m, h⟩
    exact ⟨k, mem_all.mpr ((O.mem k).mp m), h⟩
  · rintro ⟨k, m, h⟩
    exact ⟨k, (O.mem k).mpr (mem_all.mp m), h⟩
/-- what is taken stays taken -/
theorem fold_more : ∀ (ks : List Int) (st : List Int × List Int), ∃ more, (ks.foldl (tstep d ropes) st).2 = st.2 ++ more ∧ more.Sublist ks
  | [], st => ⟨[], by simp, List.Sublist.refl _⟩
  | k :: ks, st => by
    obtain ⟨more, e, s⟩ := fold_more ks (tstep d ropes st k)
    rw [List.foldl_cons, e]
    unfold tstep
    split
    · exact ⟨k :: more, by simp, s.cons_cons k⟩
    · exact ⟨more, rfl, s.cons k⟩
theorem tstep_in {st : List Int × List Int} (h : lab st.1 (rp ropes k).1 ≠ lab st.1 (rp ropes k).2.1) : k ∈ (tstep d ropes st k).2 := by
  unfold tstep
  rw [if_pos h]
  exact List.mem_append.mpr (.inr (List.mem_singleton.mpr rfl))
theorem take_tree (v : Okr n ropes) (h : Okn ropes ns) (hall : ∀ k : Int, 0 ≤ k → k < ropes.length → k ∈ ns) : Tree n ropes (take d n ropes ns) := by
  have T := took (d := d) v h
  refine ⟨take_okn v h, T.fo, fun x y c => (T.sp x y).mpr (c.mono fun e m => ?_)⟩
  obtain ⟨k, mk, rfl⟩ := List.mem_map.mp m
  have := mem_all.mp mk
  exact List.mem_map.mpr ⟨k, hall k this.1 this.2, rfl⟩
/-- the tree without one of its ropes -/
def wo (ns : List Int) (e : Int) : List Int := ns.filter fun k => k != e
theorem mem_wo {e : Int} : k ∈ wo ns e ↔ k ∈ ns ∧ k ≠ e := by
  unfold wo
  rw [List.mem_filter, bne_iff_ne]
/-- a rope that isn't dearer than one of the least tree doesn't lead over the gap that this one leaves -/
theorem least_cut {e f : Int} (v : Okr n ropes) (O : Ord ropes order) (he : e ∈ take d n ropes order) (hf : 0 ≤ f ∧ f < ropes.length) (h : Chp ropes f e) :
    Conn (ed ropes (wo (take d n ropes order) e)) (rp ropes f).1 (rp ropes f).2.1 := by
  have mo : e ∈ order := (take_sub v O.okn).subset he
  obtain ⟨pre, post, eo⟩ := List.append_of_mem mo
  have mf : f ∈ order := (O.mem f).mpr hf
  have srt := O.srt
  rw [eo] at mf srt
  have fp : f ∈ pre := by
    rcases List.mem_append.mp mf with m | m
    · exact m
    · rcases List.mem_cons.mp m with rfl | m
      · exact absurd h Chp.irr
      · have := (List.pairwise_cons.mp (List.pairwise_append.mp srt).2.1).1 f m
        exact absurd (h.trans this) Chp.irr
  have okp : Okn ropes pre := fun k m => O.okn k (by rw [eo]; exact List.mem_append.mpr (.inl m))
  have T := took (d := d) v okp
  have c : Conn (ed ropes (take d n ropes pre)) (rp ropes f).1 (rp ropes f).2.1 := (T.sp _ _).mpr (Conn.edge (List.mem_map.mpr ⟨f, fp, rfl⟩))
  refine c.mono fun x m => ?_
  obtain ⟨k, mk, rfl⟩ := List.mem_map.mp m
  refine List.mem_map.mpr ⟨k, mem_wo.mpr ⟨?_, fun z => ?_⟩, rfl⟩
  · unfold take run
    rw [eo, List.foldl_append]
    obtain ⟨more, e1, _⟩ := fold_more (d := d) (ropes := ropes) (e :: post) (pre.foldl (tstep d ropes) (iota n, []))
    rw [e1]
    exact List.mem_append.mpr (.inl mk)
  · have nd := O.nodup
    rw [eo] at nd
    have kp : k ∈ pre := (take_sub v okp).subset mk
    rw [z] at kp
    exact (List.nodup_append.mp nd).2.2 e kp e (List.mem_cons.mpr (.inl rfl)) rfl
/-- for a rope that isn't in the least tree: cheaper ropes of it join its places -/
theorem least_out {f : Int} (v : Okr n ropes) (O : Ord ropes order) (hf : 0 ≤ f ∧ f < ropes.length) (hn : f ∉ take d n ropes order) :
    Conn (ed ropes ((take d n ropes order).filter fun k => decide (cost ropes k < cost ropes f ∨ (cost ropes k = cost ropes f ∧ k < f)))) (rp ropes f).1 (rp ropes f).2.1 := by
  have mf : f ∈ order := (O.mem f).mpr hf
  obtain ⟨pre, post, eo⟩ := List.append_of_mem mf
  have srt := O.srt
  rw [eo] at srt
  have okp : Okn ropes pre := fun k m => O.okn k (by rw [eo]; exact List.mem_append.mpr (.inl m))
  have T := took (d := d) v okp
  have sub : ∀ k, k ∈ take d n ropes pre → k ∈ take d n ropes order := fun k m => by
    unfold take run
    rw [eo, List.foldl_append]
    obtain ⟨more, e1, _⟩ := fold_more (d := d) (ropes := ropes) (f :: post) (pre.foldl (tstep d ropes) (iota n, []))
    rw [e1]
    exact List.mem_append.mpr (.inl m)
  have c : Conn (ed ropes (take d n ropes pre)) (rp ropes f).1 (rp ropes f).2.1 := by
    refine Classical.byContradiction fun nc => hn ?_
    obtain ⟨va, vb⟩ := v.at hf
    have ne : lab (run d n ropes pre).1 (rp ropes f).1 ≠ lab (run d n ropes pre).1 (rp ropes f).2.1 := fun z => nc ((T.lb.iff _ _ va.1 va.2 vb.1 vb.2).mp z)
    unfold take run
    rw [eo, List.foldl_append, List.foldl_cons]
    obtain ⟨more, e1, _⟩ := fold_more (d := d) (ropes := ropes) post (tstep d ropes (pre.foldl (tstep d ropes) (iota n, [])) f)
    rw [e1]
    refine List.mem_append.mpr (.inl ?_)
    exact tstep_in ne
  refine c.mono fun x m => ?_
  obtain ⟨k, mk, rfl⟩ := List.mem_map.mp m
  refine List.mem_map.mpr ⟨k, List.mem_filter.mpr ⟨sub k mk, decide_eq_true ?_⟩, rfl⟩
  exact (List.pairwise_append.mp srt).2.2 k ((take_sub v okp).subset mk) f (List.mem_cons.mpr (.inl rfl))
end
end RT

namespace RT
def sumC (ropes : List Rope) (ns : List Int) : Int := (ns.map (cost ropes)).sum
def sumIf (c : Int → Int) (p : Int → Bool) : List Int → Int
  | [] => 0
  | k :: l => (if p k then c k else 0) + sumIf c p l
def cntIf (p : Int → Bool) : List Int → Nat
  | [] => 0
  | k :: l => (if p k then 1 else 0) + cntIf p l
theorem sumIf_none {c : Int → Int} {p : Int → Bool} : ∀ {l : List Int}, (∀ k ∈ l, p k = false) → sumIf c p l = 0
  | [], _ => rfl
  | k :: l, h => by
    unfold sumIf
    rw [h k (List.mem_cons.mpr (.inl rfl)), sumIf_none fun j m => h j (List.mem_cons.mpr (.inr m))]
    rfl
theorem sumIf_one {c : Int → Int} {a : Int} : ∀ {l : List Int}, l.Nodup → a ∈ l → sumIf c (fun k => decide (k = a)) l = c a
  | [], _, m => absurd m (by simp)
  | k :: l, nd, m => by
    obtain ⟨n1, n2⟩ := List.nodup_cons.mp nd
    unfold sumIf
    by_cases e : k = a
    · subst e
      rw [sumIf_none (p := fun j => decide (j = k)) fun j mj => decide_eq_false fun z : j = k => n1 (z ▸ mj)]
      simp
    · rw [sumIf_one n2 ((List.mem_cons.mp m).resolve_left fun z => e z.symm), decide_eq_false e]
      simp
theorem sumIf_or {c : Int → Int} {p q : Int → Bool} : ∀ {l : List Int}, (∀ k ∈ l, ¬ (p k = true ∧ q k = true)) → sumIf c (fun k => p k || q k) l = sumIf c p l + sumIf c q l
  | [], _ => rfl
  | k :: l, h => by
    unfold sumIf
    rw [sumIf_or fun j m => h j (List.mem_cons.mpr (.inr m))]
    have := h k (List.mem_cons.mpr (.inl rfl))
    cases e1 : p k <;> cases e2 : q k <;> simp [e1, e2] at this ⊢ <;> omega
theorem sumIf_congr {c : Int → Int} {p q : Int → Bool} : ∀ {l : List Int}, (∀ k ∈ l, p k = q k) → sumIf c p l = sumIf c q l
  | [], _ => rfl
  | k :: l, h => by
    unfold sumIf
    rw [h k (List.mem_cons.mpr (.inl rfl)), sumIf_congr fun j m => h j (List.mem_cons.mpr (.inr m))]
theorem sumIf_mem {c : Int → Int} {order : List Int} (nd : order.Nodup) : ∀ {ns : List Int}, ns.Nodup → (∀ k ∈ ns, k ∈ order) → sumIf c (fun k => decide (k ∈ ns)) order = (ns.map c).sum
  | [], _, _ => by rw [sumIf_none (fun k _ => by simp)]; rfl
  | a :: ns, hn, h => by
    obtain ⟨n1, n2⟩ := List.nodup_cons.mp hn
    have e : sumIf c (fun k => decide (k ∈ a :: ns)) order = sumIf c (fun k => decide (k = a) || decide (k ∈ ns)) order := sumIf_congr fun k _ => by
      by_cases h1 : k = a <;> by_cases h2 : k ∈ ns <;> simp [h1, h2]
    rw [e, sumIf_or, sumIf_one nd (h a (List.mem_cons.mpr (.inl rfl))), sumIf_mem nd n2 fun k m => h k (List.mem_cons.mpr (.inr m))]
    · simp
    · rintro k _ ⟨e1, e2⟩
      have e1 := of_decide_eq_true e1
      have e2 := of_decide_eq_true e2
      exact n1 (e1 ▸ e2)
theorem cntIf_filter {p : Int → Bool} : ∀ {l : List Int}, cntIf p l = (l.filter p).length
  | [] => rfl
  | k :: l => by
    unfold cntIf
    rw [cntIf_filter, List.filter_cons]
    split
    · simp; omega
    · simp
/-- p is ahead of q at every place of a row that gets dearer, by d: then it costs less -/
theorem ahead {c : Int → Int} {p q : Int → Bool} : ∀ {l : List Int} {d : Nat} {b : Int}, l.Pairwise (fun i j => c i ≤ c j) → (∀ k ∈ l, b ≤ c k) →
    (∀ m, cntIf q (l.take m) ≤ d + cntIf p (l.take m)) → d + cntIf p l = cntIf q l → sumIf c p l + d * b ≤ sumIf c q l
  | [], d, b, _, _, _, h => by
    have : d = 0 := by simpa [cntIf] using h
    subst this
    simp [sumIf]
  | k :: l, d, b, srt, hb, hp, he => by
    obtain ⟨s1, s2⟩ := List.pairwise_cons.mp srt
    have hk := hb k (List.mem_cons.mpr (.inl rfl))
    have h1 := hp 1
    simp only [List.take_succ_cons, List.take_zero, cntIf, Nat.add_zero] at h1
    simp only [cntIf] at he
    have hp' : ∀ m, (if q k then 1 else 0) + cntIf q (l.take m) ≤ d + ((if p k then 1 else 0) + cntIf p (l.take m)) := fun m => by
      have := hp (m + 1)
      simpa only [List.take_succ_cons, cntIf] using this
    unfold sumIf
    have mul : (d : Int) * b ≤ d * c k := Int.mul_le_mul_of_nonneg_left hk (by omega)
    cases e1 : p k <;> cases e2 : q k <;> simp only [e1, e2, if_true, Bool.false_eq_true, if_false] at h1 he hp' ⊢
    · have := ahead (p := p) (q := q) (l := l) (d := d) (b := c k) s2 s1 (fun m => by have := hp' m; omega) (by omega)
      omega
    · have := ahead (p := p) (q := q) (l := l) (d := d - 1) (b := c k) s2 s1 (fun m => by have := hp' m; omega) (by omega)
      have e : ((d - 1 : Nat) : Int) * c k = d * c k - c k := by
        have : ((d - 1 : Nat) : Int) = (d : Int) - 1 := by omega
        rw [this, Int.sub_mul, Int.one_mul]
      omega
    · have := ahead (p := p) (q := q) (l := l) (d := d + 1) (b := c k) s2 s1 (fun m => by have := hp' m; omega) (by omega)
      have e : ((d + 1 : Nat) : Int) * c k = d * c k + c k := by
        have : ((d + 1 : Nat) : Int) = (d : Int) + 1 := by omega
        rw [this, Int.add_mul, Int.one_mul]
      omega
    · have := ahead (p := p) (q := q) (l := l) (d := d) (b := c k) s2 s1 (fun m => by have := hp' m; omega) (by omega)
      omega
section
variable {n : Nat} {ropes : List Rope} {ns ms order : List Int} {d : Bool}
theorem forest_nodup (v : Okr n ropes) : ∀ {ns : List Int}, Okn ropes ns → Forest (ed ropes ns) → ns.Nodup
  | [], _, _ => List.nodup_nil
  | k :: ns, ok, f => by
    have f : ¬ Conn (ed ropes ns) (rp ropes k).1 (rp ropes k).2.1 ∧ Forest (ed ropes ns) := f
    refine List.nodup_cons.mpr ⟨fun m => f.1 (Conn.edge (List.mem_map.mpr ⟨k, m, rfl⟩)), forest_nodup v (fun j m => ok j (List.mem_cons.mpr (.inr m))) f.2⟩
theorem Tree.nodup (v : Okr n ropes) (T : Tree n ropes ns) : ns.Nodup := forest_nodup v T.ok T.fo
theorem forest_sub : ∀ {es fs : List (Int × Int)}, fs.Sublist es → Forest es → Forest fs := by
  intro es fs h
  induction h with
  | slnil => exact fun f => f
  | cons a s ih => exact fun f => ih f.2
  | cons_cons a s ih => exact fun f => ⟨fun c => f.1 (c.mono fun e m => s.subset m), ih f.2⟩
/-- of the first ropes a tree has no more than were taken -/
theorem tree_ahead (v : Okr n ropes) (T : Tree n ropes ns) {pre : List Int} (ok : Okn ropes pre) (nd : pre.Nodup) : cntIf (fun k => decide (k ∈ ns)) pre ≤ (take d n ropes pre).length := by
  rw [cntIf_filter]
  have L := take_len (d := d) v ok
  -- as a part of the tree
  have ndt := T.nodup v
  have len : (pre.filter fun k => decide (k ∈ ns)).length = (ns.filter fun k => decide (k ∈ pre)).length := by
    have h1 : ∀ (a b : List Int), a.Nodup → (∀ k ∈ a, k ∈ b) → a.length ≤ b.length := by
      intro a
      induction a with
      | nil => intro b _ _; exact Nat.zero_le _
      | cons x a ih =>
        intro b hn hs
        obtain ⟨n1, n2⟩ := List.nodup_cons.mp hn
        have mb := hs x (List.mem_cons.mpr (.inl rfl))
        have := ih (b.erase x) n2 fun k mk => (List.mem_erase_of_ne (fun z : k = x => n1 (z ▸ mk))).mpr (hs k (List.mem_cons.mpr (.inr mk)))
        rw [List.length_erase_of_mem mb] at this
        have : 0 < b.length := List.length_pos_of_mem mb
        simp only [List.length_cons]
        omega
    refine Nat.le_antisymm (h1 _ _ (nd.sublist List.filter_sublist) fun k m => ?_) (h1 _ _ (ndt.sublist List.filter_sublist) fun k m => ?_)
    · obtain ⟨m1, m2⟩ := List.mem_filter.mp m
      exact List.mem_filter.mpr ⟨of_decide_eq_true m2, decide_eq_true m1⟩
    · obtain ⟨m1, m2⟩ := List.mem_filter.mp m
      exact List.mem_filter.mpr ⟨of_decide_eq_true m2, decide_eq_true m1⟩
  rw [len]
  have sub : (ed ropes (ns.filter fun k => decide (k ∈ pre))).Sublist (ed ropes ns) := List.Sublist.map _ List.filter_sublist
  have f := forest_sub sub T.fo
  have okf : Okn ropes (ns.filter fun k => decide (k ∈ pre)) := fun k m => T.ok k (List.mem_filter.mp m).1
  have e := (forest_iff (n := n) (valid_ed v okf)).mp f
  have c := comps_anti (n := n) (es := ed ropes (ns.filter fun k => decide (k ∈ pre))) (fs := ed ropes pre) fun x y h => h.mono fun z m => by
    obtain ⟨k, mk, rfl⟩ := List.mem_map.mp m
    exact List.mem_map.mpr ⟨k, of_decide_eq_true (List.mem_filter.mp mk).2, rfl⟩
  have l2 : (ed ropes (ns.filter fun k => decide (k ∈ pre))).length = (ns.filter fun k => decide (k ∈ pre)).length := List.length_map ..
  omega
theorem take_prefix (v : Okr n ropes) (O : Ord ropes order) (m : Nat) : cntIf (fun k => decide (k ∈ take d n ropes order)) (order.take m) = (take d n ropes (order.take m)).length := by
  have okp : Okn ropes (order.take m) := fun k h => O.okn k (List.mem_of_mem_take h)
  have key : ∀ k ∈ order.take m, (k ∈ take d n ropes order ↔ k ∈ take d n ropes (order.take m)) := fun k mk => by
    have e : take d n ropes order = ((order.drop m).foldl (tstep d ropes) (run d n ropes (order.take m))).2 := by
      unfold take run
      rw [← List.foldl_append, List.take_append_drop]
    obtain ⟨more, e1, s⟩ := fold_more (d := d) (ropes := ropes) (order.drop m) (run d n ropes (order.take m))
    rw [e, e1, List.mem_append]
    constructor
    · rintro (h | h)
      · exact h
      · have nd := O.nodup
        rw [← List.take_append_drop m order] at nd
        exact absurd rfl ((List.nodup_append.mp nd).2.2 k mk k (s.subset h))
    · exact .inl
  rw [cntIf_filter, ← (filter_len_eq (l := order.take m) (p := fun k => decide (k ∈ take d n ropes (order.take m))) fun k mk => by
    have := key k mk
    by_cases h : k ∈ take d n ropes order
    · rw [decide_eq_true h, decide_eq_true (this.mp h)]
    · rw [decide_eq_false h, decide_eq_false fun z => h (this.mpr z)])]
  -- all that was taken is of the prefix
  have s := take_sub (d := d) v okp
  have nd : (order.take m).Nodup := O.nodup.sublist (List.take_sublist _ _)
  have aux : ∀ {l a : List Int}, l.Nodup → a.Sublist l → (l.filter fun k => decide (k ∈ a)).length = a.length := by
    intro l a hn hs
    induction hs with
    | slnil => rfl
    | @cons a' l' x s ih =>
      obtain ⟨n1, n2⟩ := List.nodup_cons.mp hn
      rw [List.filter_cons, if_neg (by simp; exact fun z => n1 (s.subset z))]
      exact ih n2
    | @cons_cons a' l' x s ih =>
      obtain ⟨n1, n2⟩ := List.nodup_cons.mp hn
      rw [List.filter_cons, if_pos (by simp)]
      simp only [List.length_cons]
      rw [← ih n2]
      congr 1
      refine filter_len_eq fun k mk => ?_
      have : k ≠ x := fun z => n1 (z ▸ mk)
      simp [this]
  exact aux nd s
theorem least_cost (v : Okr n ropes) (O : Ord ropes order) (T : Tree n ropes ns) : sumC ropes (take d n ropes order) ≤ sumC ropes ns := by
  have nd := O.nodup
  have ndt : (take d n ropes order).Nodup := nd.sublist (take_sub v O.okn)
  have TT : Tree n ropes (take d n ropes order) := take_tree v O.okn fun k h0 h1 => (O.mem k).mpr ⟨h0, h1⟩
  unfold sumC
  rw [← sumIf_mem (c := cost ropes) nd ndt fun k m => (take_sub v O.okn).subset m, ← sumIf_mem (c := cost ropes) nd (T.nodup v) fun k m => (O.mem k).mpr (T.ok k m)]
  have srt : order.Pairwise fun i j => cost ropes i ≤ cost ropes j := O.srt.imp fun h => by unfold Chp at h; omega
  have lo : ∃ b, ∀ k ∈ order, b ≤ cost ropes k := by
    cases order with
    | nil => exact ⟨0, fun _ m => absurd m (by simp)⟩
    | cons x l =>
      refine ⟨cost ropes x, fun k m => ?_⟩
      rcases List.mem_cons.mp m with rfl | m
      · exact Int.le_refl _
      · exact (List.pairwise_cons.mp srt).1 k m
  obtain ⟨b, hb⟩ := lo
  have h := ahead (c := cost ropes) (p := fun k => decide (k ∈ take d n ropes order)) (q := fun k => decide (k ∈ ns)) (l := order) (d := 0) (b := b) srt hb (fun m => ?_) ?_
  · simpa using h
  · rw [take_prefix v O m, Nat.zero_add]
    exact tree_ahead v T (fun k h => O.okn k (List.mem_of_mem_take h)) (nd.sublist (List.take_sublist _ _))
  · have e1 := take_prefix (d := d) v O order.length
    rw [List.take_length] at e1
    rw [e1, Nat.zero_add]
    have := tree_ahead (d := d) v T O.okn nd
    -- as many as it has
    have cnt : cntIf (fun k => decide (k ∈ ns)) order = ns.length := by
      have one : sumIf (fun _ => 1) (fun k => decide (k ∈ ns)) order = ((ns.map fun _ => (1 : Int))).sum := sumIf_mem nd (T.nodup v) fun k m => (O.mem k).mpr (T.ok k m)
      have e2 : ∀ (p : Int → Bool) (l : List Int), sumIf (fun _ => 1) p l = (cntIf p l : Int) := by
        intro p l
        induction l with
        | nil => rfl
        | cons x l ih => unfold sumIf cntIf; rw [ih]; split <;> simp
      have e3 : ∀ l : List Int, ((l.map fun _ => (1 : Int))).sum = (l.length : Int) := by
        intro l
        induction l with
        | nil => rfl
        | cons x l ih => simp only [List.map_cons, List.sum_cons, List.length_cons]; omega
      rw [e2, e3] at one
      omega
    rw [cnt, T.len (d := d) v, (TT.len (d := d) v)]
end
end RT

namespace RT
section
variable {n : Nat} {ropes : List Rope} {ns : List Int} {G : List (List Int)} {k : Int}
end
end RT

namespace RT
theorem count_le {p q : Nat → Bool} : ∀ {l : List Nat}, (∀ x ∈ l, p x = true → q x = true) → l.countP p ≤ l.countP q
  | [], _ => Nat.le_refl _
  | x :: l, h => by
    have ih := count_le (l := l) fun y m => h y (List.mem_cons_of_mem _ m)
    rw [List.countP_cons, List.countP_cons]
    cases hp : p x with
    | false => simp only [Bool.false_eq_true, if_false]; omega
    | true => rw [h x List.mem_cons_self hp]; omega
theorem count_lt {p q : Nat → Bool} {a : Nat} : ∀ {l : List Nat}, (∀ x ∈ l, p x = true → q x = true) → a ∈ l → p a = false → q a = true → l.countP p < l.countP q
  | x :: l, h, m, hp, hq => by
    rw [List.countP_cons, List.countP_cons]
    have le := count_le (l := l) fun y m => h y (List.mem_cons_of_mem _ m)
    rcases List.mem_cons.mp m with rfl | m
    · rw [hp, hq]
      simp only [Bool.false_eq_true, if_false, if_true]
      omega
    · have ih := count_lt (l := l) (fun y m => h y (List.mem_cons_of_mem _ m)) m hp hq
      cases hx : p x with
      | false => simp only [Bool.false_eq_true, if_false]; omega
      | true => rw [h x List.mem_cons_self hx]; omega
def chpB (ropes : List Rope) (i j : Nat) : Bool := decide (cost ropes i < cost ropes j ∨ (cost ropes i = cost ropes j ∧ i < j))
theorem chpB_iff {ropes : List Rope} {i j : Nat} : chpB ropes i j = true ↔ Chp ropes i j := by
  unfold chpB Chp
  rw [decide_eq_true_iff]
  omega
def rank (ropes : List Rope) (i : Nat) : Int := ((List.range ropes.length).countP fun j => chpB ropes j i : Nat)
theorem rank_lt {ropes : List Rope} {i j : Nat} (hi : i < ropes.length) (h : Chp ropes i j) : rank ropes i < rank ropes j := by
  unfold rank
  have : (List.range ropes.length).countP (fun x => chpB ropes x i) < (List.range ropes.length).countP (fun x => chpB ropes x j) := by
    refine count_lt (a := i) (fun x _ e => chpB_iff.mpr ((chpB_iff.mp e).trans h)) (List.mem_range.mpr hi) ?_ (chpB_iff.mpr h)
    cases e : chpB ropes i i with
    | false => rfl
    | true => exact absurd (chpB_iff.mp e) Chp.irr
  omega
theorem rank_iff {ropes : List Rope} {i j : Nat} (hi : i < ropes.length) (hj : j < ropes.length) : rank ropes i < rank ropes j ↔ Chp ropes i j := by
  refine ⟨fun h => ?_, rank_lt hi⟩
  by_cases e : i = j
  · subst e; omega
  · rcases Chp.tri (ropes := ropes) (i := (i : Int)) (j := (j : Int)) (by omega) with z | z
    · exact z
    · have := rank_lt hj z
      omega
theorem rank_inj {ropes : List Rope} {i j : Nat} (hi : i < ropes.length) (hj : j < ropes.length) (e : rank ropes i = rank ropes j) : i = j := by
  refine Classical.byContradiction fun ne => ?_
  rcases Chp.tri (ropes := ropes) (i := (i : Int)) (j := (j : Int)) (by omega) with z | z
  · have := rank_lt hi z
    omega
  · have := rank_lt hj z
    omega
theorem ord_of {ropes : List Rope} {os : List Nat} (hp : os.Perm (List.range ropes.length)) (hs : os.Pairwise fun i j => rank ropes i < rank ropes j) : Ord ropes (os.map fun i : Nat => (i : Int)) where
  mem := fun k => by
    rw [List.mem_map]
    constructor
    · rintro ⟨i, m, rfl⟩
      have := List.mem_range.mp (hp.mem_iff.mp m)
      omega
    · rintro ⟨h1, h2⟩
      exact ⟨k.toNat, hp.mem_iff.mpr (List.mem_range.mpr (by omega)), by omega⟩
  srt := by
    rw [List.pairwise_map]
    refine hs.imp_of_mem fun {i j} mi mj h => ?_
    have h1 := List.mem_range.mp (hp.mem_iff.mp mi)
    have h2 := List.mem_range.mp (hp.mem_iff.mp mj)
    exact (rank_iff h1 h2).mp h
/-- the least tree's numbers, from the least on -/
def Least (n : Nat) (ropes : List Rope) (ns : List Int) : Prop := ∃ order, Ord ropes order ∧ ns.Perm (take true n ropes order) ∧ ns.Pairwise (· ≤ ·)
/-- all costs turned -/
def neg (ropes : List Rope) : List Rope := ropes.map fun r => (r.1, r.2.1, -r.2.2)
theorem okr_neg {n : Nat} {ropes : List Rope} (v : Okr n ropes) : Okr n (neg ropes) := fun r m => by
  obtain ⟨r', m', rfl⟩ := List.mem_map.mp m
  exact v r' m'
end RT

namespace RT
section
variable {n : Nat} {ropes : List Rope} {ns ms zs : List Int} {st : Int}
structure Side (n : Nat) (es : List (Int × Int)) (st : Int) (zs : List Int) : Prop where
  nd : zs.Nodup
  mst : st ∈ zs
  ok : ∀ x ∈ zs, 0 ≤ x ∧ x < n
  cn : ∀ x ∈ zs, Conn es st x
theorem nodup_le : ∀ {n : Nat} {zs : List Int}, zs.Nodup → (∀ x ∈ zs, 0 ≤ x ∧ x < n) → zs.length ≤ n
  | 0, zs, _, h => by
    cases zs with
    | nil => exact Nat.le_refl _
    | cons x zs => have := h x List.mem_cons_self; omega
  | n + 1, zs, nd, h => by
    have ih := nodup_le (n := n) (zs := zs.filter fun x => x != (n : Int)) (nd.sublist List.filter_sublist) fun x m => by
      rw [List.mem_filter] at m
      have h1 := h x m.1
      have h2 : x ≠ n := by simpa using m.2
      omega
    have : zs.length ≤ (zs.filter fun x => x != (n : Int)).length + 1 := by
      clear ih h
      induction zs with
      | nil => simp
      | cons x zs ih =>
        have nx := (List.nodup_cons.mp nd)
        by_cases e : x = (n : Int)
        · subst e
          rw [List.filter_cons_of_neg (by simp), List.filter_eq_self.mpr]
          · simp
          · intro y m
            have : y ≠ (n : Int) := fun z => nx.1 (z ▸ m)
            simpa using this
        · rw [List.filter_cons_of_pos (by simpa using e), List.length_cons, List.length_cons]
          have := ih nx.2
          omega
    omega
theorem Side.len {es : List (Int × Int)} (S : Side n es st zs) : zs.length ≤ n := nodup_le S.nd S.ok
def ins (zs : List Int) (x : Int) : List Int := if x ∈ zs then zs else zs ++ [x]
theorem mem_ins {x y : Int} : y ∈ ins zs x ↔ y ∈ zs ∨ y = x := by
  unfold ins
  split
  · rename_i m
    constructor
    · exact .inl
    · rintro (h | rfl)
      · exact h
      · exact m
  · simp
theorem nodup_ins {x : Int} (h : zs.Nodup) : (ins zs x).Nodup := by
  unfold ins
  split
  · exact h
  · rename_i m
    exact nodup_snoc h m
theorem ins_len {x : Int} (h : x ∉ zs) : (ins zs x).length = zs.length + 1 := by
  unfold ins
  rw [if_neg h]
  simp
theorem ins_le {x : Int} : zs.length ≤ (ins zs x).length := by
  unfold ins
  split
  · exact Nat.le_refl _
  · simp
/-- a rope that leads over the rim -/
theorem Side.grow {k : Int} (v : Okr n ropes) (S : Side n (ed ropes ns) st zs) (hk : 0 ≤ k ∧ k < ropes.length) (m : k ∈ ns) (h : ¬ ((rp ropes k).1 ∈ zs ↔ (rp ropes k).2.1 ∈ zs)) :
    Side n (ed ropes ns) st (ins (ins zs (rp ropes k).1) (rp ropes k).2.1) ∧ zs.length < (ins (ins zs (rp ropes k).1) (rp ropes k).2.1).length := by
  obtain ⟨va, vb⟩ := v.at hk
  have ed' : ((rp ropes k).1, (rp ropes k).2.1) ∈ ed ropes ns := List.mem_map.mpr ⟨k, m, rfl⟩
  have both : Conn (ed ropes ns) st (rp ropes k).1 ∧ Conn (ed ropes ns) st (rp ropes k).2.1 := by
    by_cases a : (rp ropes k).1 ∈ zs
    · exact ⟨S.cn _ a, .step (S.cn _ a) (.inl ed')⟩
    · have b : (rp ropes k).2.1 ∈ zs := Classical.byContradiction fun b => h ⟨fun z => absurd z a, fun z => absurd z b⟩
      exact ⟨.step (S.cn _ b) (.inr ed'), S.cn _ b⟩
  refine ⟨⟨nodup_ins (nodup_ins S.nd), mem_ins.mpr (.inl (mem_ins.mpr (.inl S.mst))), fun x mx => ?_, fun x mx => ?_⟩, ?_⟩
  · rcases mem_ins.mp mx with mx | rfl
    · rcases mem_ins.mp mx with mx | rfl
      · exact S.ok x mx
      · exact va
    · exact vb
  · rcases mem_ins.mp mx with mx | rfl
    · rcases mem_ins.mp mx with mx | rfl
      · exact S.cn x mx
      · exact both.1
    · exact both.2
  · by_cases a : (rp ropes k).1 ∈ zs
    · have b : (rp ropes k).2.1 ∉ zs := fun b => h ⟨fun _ => b, fun _ => a⟩
      have e : ins zs (rp ropes k).1 = zs := by unfold ins; rw [if_pos a]
      rw [e, ins_len b]
      omega
    · have := ins_len a
      have := ins_le (zs := ins zs (rp ropes k).1) (x := (rp ropes k).2.1)
      omega
theorem Side.closed (S : Side n (ed ropes ns) st zs) (h : ∀ k ∈ ns, ((rp ropes k).1 ∈ zs ↔ (rp ropes k).2.1 ∈ zs)) (x : Int) : x ∈ zs ↔ Conn (ed ropes ns) st x := by
  refine ⟨S.cn x, fun c => ?_⟩
  induction c with
  | refl => exact S.mst
  | step _ e ih =>
    rcases e with e | e
    · obtain ⟨k, m, ek⟩ := List.mem_map.mp e
      cases ek
      exact (h k m).mp ih
    · obtain ⟨k, m, ek⟩ := List.mem_map.mp e
      cases ek
      exact (h k m).mpr ih
theorem Side.one (h : 0 ≤ st ∧ st < n) {es : List (Int × Int)} : Side n es st [st] where
  nd := by simp
  mst := by simp
  ok := fun x m => by rw [List.mem_singleton.mp m]; exact h
  cn := fun x m => by rw [List.mem_singleton.mp m]; exact .refl _
theorem sorted_eq : ∀ {l m : List Int}, l.Perm m → l.Pairwise (· ≤ ·) → m.Pairwise (· ≤ ·) → l = m
  | [], m, h, _, _ => by rw [List.nil_perm.mp h]
  | a :: l, [], h, _, _ => by have := h.length_eq; simp at this
  | a :: l, b :: m, h, h1, h2 => by
    have ha := List.pairwise_cons.mp h1
    have hb := List.pairwise_cons.mp h2
    have e : a = b := by
      have m1 : a ∈ b :: m := h.mem_iff.mp List.mem_cons_self
      have m2 : b ∈ a :: l := h.mem_iff.mpr List.mem_cons_self
      rcases List.mem_cons.mp m1 with e | m1
      · exact e
      · rcases List.mem_cons.mp m2 with e | m2
        · exact e.symm
        · have := ha.1 b m2
          have := hb.1 a m1
          omega
    subst e
    rw [sorted_eq (List.perm_cons a |>.mp h) ha.2 hb.2]
end
end RT
namespace RT
section
variable {n : Nat} {ropes : List Rope} {ns ms : List Int}
theorem ed_mem (h : ns.Perm ms) (e : Int × Int) : e ∈ ed ropes ns ↔ e ∈ ed ropes ms := (h.map _).mem_iff
theorem Tree.perm (v : Okr n ropes) (h : ns.Perm ms) (T : Tree n ropes ms) : Tree n ropes ns := by
  have ok : Okn ropes ns := fun k m => T.ok k (h.mem_iff.mp m)
  have cc : ∀ x y, Conn (ed ropes ns) x y ↔ Conn (ed ropes ms) x y := fun x y => conn_congr fun e => ed_mem h e
  refine ⟨ok, ?_, fun x y c => (cc x y).mpr (T.sp x y c)⟩
  refine (forest_iff (n := n) (valid_ed v ok)).mpr ?_
  have f := (forest_iff (n := n) (valid_ed v T.ok)).mp T.fo
  have l : (ed ropes ns).length = (ed ropes ms).length := (h.map _).length_eq
  rw [comps_congr (n := n) cc, l]
  exact f
theorem Least.tree (v : Okr n ropes) (L : Least n ropes ns) : Tree n ropes ns := by
  obtain ⟨order, O, hp, _⟩ := L
  exact Tree.perm v hp (take_tree v O.okn fun k h0 h1 => (O.mem k).mpr ⟨h0, h1⟩)
theorem wo_mem (h : ns.Perm ms) {e k : Int} : k ∈ wo ns e ↔ k ∈ wo ms e := by rw [mem_wo, mem_wo, h.mem_iff]
/-- what the law asks of each rope of the least tree: no cheaper one leads over its gap -/
theorem Least.cut (v : Okr n ropes) (L : Least n ropes ns) {e f : Int} (he : e ∈ ns) (hf : 0 ≤ f ∧ f < ropes.length) (h : Chp ropes f e) (x : Int) :
    Conn (ed ropes (wo ns e)) x (rp ropes f).1 ↔ Conn (ed ropes (wo ns e)) x (rp ropes f).2.1 := by
  obtain ⟨order, O, hp, _⟩ := L
  have c := least_cut v O (hp.mem_iff.mp he) hf h
  have c' : Conn (ed ropes (wo ns e)) (rp ropes f).1 (rp ropes f).2.1 := c.mono fun y m => by
    obtain ⟨k, mk, rfl⟩ := List.mem_map.mp m
    exact List.mem_map.mpr ⟨k, (wo_mem hp).mpr mk, rfl⟩
  exact ⟨fun z => z.trans c', fun z => z.trans c'.symm⟩
end
end RT
namespace RT
theorem Least.len {n : Nat} {ropes : List Rope} {ns : List Int} (v : Okr n ropes) (L : Least n ropes ns) : ns.length ≤ ropes.length := by
  obtain ⟨order, O, hp, _⟩ := L
  rw [hp.length_eq]
  exact Nat.le_trans (take_sub v O.okn).length_le (nodup_le O.nodup O.okn)
end RT

namespace RT
section
variable {n : Nat} {ropes : List Rope} {ns ms : List Int} {k : Int}
theorem neg_len : (neg ropes).length = ropes.length := by unfold neg; rw [List.length_map]
theorem rp_neg : rp (neg ropes) k = ((rp ropes k).1, (rp ropes k).2.1, -(rp ropes k).2.2) := by
  unfold rp neg
  rw [List.getD_eq_getElem?_getD, List.getD_eq_getElem?_getD, List.getElem?_map]
  cases ropes[k.toNat]? with
  | none => rfl
  | some r => rfl
theorem ed_neg : ed (neg ropes) ns = ed ropes ns := by
  unfold ed
  refine List.map_congr_left fun k _ => ?_
  unfold e1
  rw [rp_neg]
theorem all_neg : all (neg ropes) = all ropes := by unfold all; rw [neg_len]
theorem Tree.neg (T : Tree n ropes ns) : Tree n (neg ropes) ns := by
  refine ⟨fun k m => by rw [neg_len]; exact T.ok k m, by rw [ed_neg]; exact T.fo, fun x y c => ?_⟩
  rw [ed_neg] at c ⊢
  rw [all_neg] at c
  exact T.sp x y c
theorem cost_neg : cost (RT.neg ropes) k = -cost ropes k := by unfold cost; rw [rp_neg]
theorem sum_neg : ∀ {ns : List Int}, sumC (RT.neg ropes) ns = -sumC ropes ns
  | [] => by simp [sumC]
  | k :: ns => by
    have ih := sum_neg (ns := ns)
    unfold sumC at ih ⊢
    rw [List.map_cons, List.sum_cons, List.map_cons, List.sum_cons, ih, cost_neg]
    omega
theorem sum_perm (h : ns.Perm ms) : sumC ropes ns = sumC ropes ms := by
  unfold sumC
  induction h with
  | nil => rfl
  | cons x _ ih => simp only [List.map_cons, List.sum_cons, ih]
  | swap x y l => simp only [List.map_cons, List.sum_cons]; omega
  | trans _ _ a b => exact a.trans b
theorem Least.cost (v : Okr n ropes) (L : Least n ropes ns) (T : Tree n ropes ms) : sumC ropes ns ≤ sumC ropes ms := by
  obtain ⟨order, O, hp, _⟩ := L
  rw [sum_perm hp]
  exact least_cost v O T
theorem Least.most (v : Okr n ropes) (L : Least n (RT.neg ropes) ns) (T : Tree n ropes ms) : sumC ropes ms ≤ sumC ropes ns := by
  have := Least.cost (okr_neg v) L T.neg
  rw [sum_neg, sum_neg] at this
  omega
/-- a tree with its first rope gone is none -/
theorem isTree_of (v : Okr n ropes) (T : Tree n ropes ns) : isTree n ropes ns = true := by rw [isTree_eq v]; exact (isATree_iff v).mpr T
end
end RT

namespace RT
section
variable {n : Nat} {ropes : List Rope} {ns ms ks ps : List Int} {a b c k e f : Int}
/-- the rope k joins b and c -/
def Joins (ropes : List Rope) (k b c : Int) : Prop := e1 ropes k = (b, c) ∨ e1 ropes k = (c, b)
theorem Joins.symm (h : Joins ropes k b c) : Joins ropes k c b := Or.symm h
theorem Joins.conn (h : Joins ropes k b c) (m : k ∈ ns) : Conn (ed ropes ns) b c := by
  rcases h with h | h
  · exact Conn.edge (by rw [← h]; exact List.mem_map.mpr ⟨k, m, rfl⟩)
  · exact (Conn.edge (by rw [← h]; exact List.mem_map.mpr ⟨k, m, rfl⟩)).symm
/-- the ropes ks lead from a to b over the places ps, none twice -/
inductive Lead (ropes : List Rope) (a : Int) : List Int → Int → List Int → Prop
  | nil : Lead ropes a [] a [a]
  | snoc {ks ps : List Int} {b k c : Int} : Lead ropes a ks b ps → Joins ropes k b c → c ∉ ps → Lead ropes a (ks ++ [k]) c (ps ++ [c])
theorem Lead.lst (h : Lead ropes a ks b ps) : b ∈ ps := by
  cases h with
  | nil => simp
  | snoc _ _ _ => simp
theorem Lead.nodup (h : Lead ropes a ks b ps) : ps.Nodup := by
  induction h with
  | nil => simp
  | snoc _ _ n ih => exact nodup_snoc ih n
theorem Lead.len (h : Lead ropes a ks b ps) : ps.length = ks.length + 1 := by
  induction h with
  | nil => rfl
  | snoc _ _ _ ih => simp [ih]
theorem Lead.conn (h : Lead ropes a ks b ps) : Conn (ed ropes ks) a b := by
  induction h with
  | nil => exact .refl _
  | snoc h j _ ih =>
    rw [ed_snoc]
    refine (ih.mono fun x m => List.mem_append.mpr (.inl m)).trans ?_
    have := j.conn (ns := [_]) (List.mem_singleton.mpr rfl)
    exact this.mono fun x m => List.mem_append.mpr (.inr m)
theorem Lead.ends (h : Lead ropes a ks b ps) (m : k ∈ ks) : (rp ropes k).1 ∈ ps ∧ (rp ropes k).2.1 ∈ ps := by
  induction h with
  | nil => cases m
  | snoc h j n ih =>
    rcases List.mem_append.mp m with m | m
    · exact ⟨List.mem_append.mpr (.inl (ih m).1), List.mem_append.mpr (.inl (ih m).2)⟩
    · have := List.mem_singleton.mp m
      subst this
      rcases j with j | j
      · unfold e1 at j
        injection j with j1 j2
        rw [j1, j2]
        exact ⟨List.mem_append.mpr (.inl h.lst), by simp⟩
      · unfold e1 at j
        injection j with j1 j2
        rw [j1, j2]
        exact ⟨by simp, List.mem_append.mpr (.inl h.lst)⟩
/-- no rope stands twice in a way -/
theorem Lead.once (h : Lead ropes a ks b ps) : ks.Nodup := by
  induction h with
  | nil => simp
  | snoc h j n ih =>
    refine nodup_snoc ih fun m => n ?_
    have := h.ends m
    rcases j with j | j
    · unfold e1 at j
      injection j with j1 j2
      rw [← j2]
      exact this.2
    · unfold e1 at j
      injection j with j1 j2
      rw [← j1]
      exact this.1
/-- the ropes of a list, the one of them first -/
theorem wo_perm (nd : ns.Nodup) (m : k ∈ ns) : ns.Perm (k :: wo ns k) := by
  induction ns with
  | nil => cases m
  | cons x xs ih =>
    obtain ⟨nx, nd'⟩ := List.nodup_cons.mp nd
    by_cases e : x = k
    · subst e
      have : wo (x :: xs) x = xs := by
        unfold wo
        rw [List.filter_cons, if_neg (by simp)]
        exact List.filter_eq_self.mpr fun y my => by rw [bne_iff_ne]; exact fun z => nx (z ▸ my)
      rw [this]
    · have mk : k ∈ xs := by
        rcases List.mem_cons.mp m with z | z
        · exact absurd z.symm e
        · exact z
      have : wo (x :: xs) k = x :: wo xs k := by
        unfold wo
        rw [List.filter_cons, if_pos (by rw [bne_iff_ne]; exact e)]
      rw [this]
      exact ((ih nd' mk).cons x).trans (List.Perm.swap k x _)
theorem forest_perm (v : Okr n ropes) (ok : Okn ropes ns) (h : ns.Perm ms) (fo : Forest (ed ropes ns)) : Forest (ed ropes ms) := by
  have ok2 : Okn ropes ms := fun k m => ok k (h.mem_iff.mpr m)
  have f1 := (forest_iff (valid_ed v ok)).mp fo
  refine (forest_iff (valid_ed v ok2)).mpr ?_
  have : comps n (ed ropes ms) = comps n (ed ropes ns) := comps_congr fun x y => conn_congr fun e => (ed_mem h e).symm
  rw [this]
  have l : (ed ropes ms).length = (ed ropes ns).length := by unfold ed; rw [List.length_map, List.length_map, h.length_eq]
  omega
theorem okn_wo (ok : Okn ropes ns) : Okn ropes (wo ns k) := fun j m => ok j (mem_wo.mp m).1
/-- without one of its ropes a forest doesn't join its places -/
theorem forest_gap (v : Okr n ropes) (ok : Okn ropes ns) (fo : Forest (ed ropes ns)) (m : k ∈ ns) : ¬ Conn (ed ropes (wo ns k)) (rp ropes k).1 (rp ropes k).2.1 ∧ Forest (ed ropes (wo ns k)) := by
  have nd := forest_nodup v ok fo
  have := forest_perm v ok (wo_perm nd m) fo
  exact this
theorem wo_len (nd : ns.Nodup) (m : k ∈ ns) : (wo ns k).length + 1 = ns.length := by
  have := (wo_perm nd m).length_eq
  rw [List.length_cons] at this
  omega
/-- in a forest a way is the only one: without one of its ropes its ends don't hang together -/
theorem Lead.gap (v : Okr n ropes) (ok : Okn ropes ns) (fo : Forest (ed ropes ns)) (h : Lead ropes a ks b ps) (sub : ∀ k ∈ ks, k ∈ ns) (m : k ∈ ks) : ¬ Conn (ed ropes (wo ns k)) a b := by
  have key : ∀ {ks ps : List Int} {b : Int}, Lead ropes a ks b ps → (∀ k ∈ ks, k ∈ ns) → (k ∉ ks → Conn (ed ropes (wo ns k)) a b) ∧ (k ∈ ks → ¬ Conn (ed ropes (wo ns k)) a b) := by
    intro ks ps b h
    induction h with
    | nil => exact fun _ => ⟨fun _ => .refl _, fun m => nomatch m⟩
    | snoc h j nc ih =>
      rename_i ks ps b j' c
      intro sub
      have ih := ih fun k m => sub k (List.mem_append.mpr (.inl m))
      have mj : j' ∈ ns := sub j' (by simp)
      constructor
      · intro nk
        have n1 : k ∉ ks := fun z => nk (List.mem_append.mpr (.inl z))
        have n2 : j' ≠ k := fun z => nk (List.mem_append.mpr (.inr (by rw [z]; simp)))
        exact (ih.1 n1).trans (j.conn (mem_wo.mpr ⟨mj, n2⟩))
      · intro mk hc
        by_cases e : j' = k
        · subst e
          have n1 : j' ∉ ks := fun z => nc (by
            have := h.ends z
            rcases j with j | j
            · unfold e1 at j; injection j with j1 j2; rw [← j2]; exact this.2
            · unfold e1 at j; injection j with j1 j2; rw [← j1]; exact this.1)
          have := (ih.1 n1).symm.trans hc
          refine (forest_gap v ok fo mj).1 ?_
          rcases j with j | j
          · unfold e1 at j; injection j with j1 j2; rw [j1, j2]; exact this
          · unfold e1 at j; injection j with j1 j2; rw [j1, j2]; exact this.symm
        · have mk : k ∈ ks := by
            rcases List.mem_append.mp mk with z | z
            · exact z
            · exact absurd (List.mem_singleton.mp z).symm e
          refine ih.2 mk (hc.trans ((j.conn (mem_wo.mpr ⟨mj, e⟩)).symm))
  exact (key h sub).2 m
/-- an exchange makes a tree of a tree, where the one that comes leads over the gap -/
theorem Tree.swap (v : Okr n ropes) (T : Tree n ropes ns) (me : e ∈ ns) (hf : 0 ≤ f ∧ f < ropes.length) (h : ¬ Conn (ed ropes (wo ns e)) (rp ropes f).1 (rp ropes f).2.1) : Tree n ropes (f :: wo ns e) := by
  have nd := T.nodup v
  have ok : Okn ropes (f :: wo ns e) := fun k m => by
    rcases List.mem_cons.mp m with rfl | m
    · exact hf
    · exact T.ok k (mem_wo.mp m).1
  have fo : Forest (ed ropes (f :: wo ns e)) := ⟨h, (forest_gap v T.ok T.fo me).2⟩
  refine ⟨ok, fo, ?_⟩
  have c1 := (forest_iff (valid_ed v ok)).mp fo
  have c2 := (forest_iff (valid_ed v T.ok)).mp T.fo
  have l1 : (ed ropes (f :: wo ns e)).length = (wo ns e).length + 1 := by unfold ed; rw [List.length_map, List.length_cons]
  have l2 : (ed ropes ns).length = ns.length := by unfold ed; rw [List.length_map]
  have l3 := wo_len nd me
  have c3 : comps n (ed ropes (all ropes)) = comps n (ed ropes ns) := comps_congr fun x y => ⟨T.sp x y, Conn.mono (ed_sub_all T.ok)⟩
  exact span_of_comps (valid_ed v okn_all) (by omega) fun x y c => c.mono (ed_sub_all ok)
/-- where it does not, it makes none -/
theorem sum_cons : sumC ropes (f :: ns) = cost ropes f + sumC ropes ns := by unfold sumC; rw [List.map_cons, List.sum_cons]
theorem sum_wo (nd : ns.Nodup) (me : e ∈ ns) : sumC ropes ns = cost ropes e + sumC ropes (wo ns e) := by
  rw [sum_perm (wo_perm nd me), sum_cons]
/-- two trees: for each rope of the one that isn't in the other there is one of the other for it, both ways -/
theorem Tree.both (v : Okr n ropes) (T : Tree n ropes ns) (S : Tree n ropes ms) (me : e ∈ ns) (ne : e ∉ ms) :
    ∃ f, f ∈ ms ∧ f ∉ ns ∧ Tree n ropes (f :: wo ns e) ∧ Tree n ropes (e :: wo ms f) := by
  have gap := forest_gap v T.ok T.fo me
  -- of the ropes of ms that are needed to join the places of e, one leads over the gap
  have he := T.ok e me
  have cS : Conn (ed ropes ms) (rp ropes e).1 (rp ropes e).2.1 := S.sp _ _ (Conn.edge (List.mem_map.mpr ⟨e, mem_all.mpr he, rfl⟩))
  -- all ropes f of ms with ¬ Conn (wo ms f) e.1 e.2
  have key : ∃ f, f ∈ ms ∧ ¬ Conn (ed ropes (wo ns e)) (rp ropes f).1 (rp ropes f).2.1 ∧ ¬ Conn (ed ropes (wo ms f)) (rp ropes e).1 (rp ropes e).2.1 := by
    refine Classical.byContradiction fun z => ?_
    have z : ∀ f ∈ ms, ¬ Conn (ed ropes (wo ns e)) (rp ropes f).1 (rp ropes f).2.1 → Conn (ed ropes (wo ms f)) (rp ropes e).1 (rp ropes e).2.1 := fun f mf h => Classical.byContradiction fun q => z ⟨f, mf, h, q⟩
    -- take the ropes that lead over the gap away one by one
    have fo2 := S.fo
    have all : ∀ (l : List Int), (∀ f ∈ l, f ∈ ms ∧ ¬ Conn (ed ropes (wo ns e)) (rp ropes f).1 (rp ropes f).2.1) → Conn (ed ropes (ms.filter fun k => decide (k ∉ l))) (rp ropes e).1 (rp ropes e).2.1 := by
      intro l
      induction l with
      | nil =>
        intro _
        refine cS.mono fun x m => ?_
        obtain ⟨k, mk, rfl⟩ := List.mem_map.mp m
        exact List.mem_map.mpr ⟨k, List.mem_filter.mpr ⟨mk, by simp⟩, rfl⟩
      | cons g l ih =>
        intro hl
        have i1 := ih fun f m => hl f (List.mem_cons.mpr (.inr m))
        have hg := hl g (List.mem_cons.mpr (.inl rfl))
        have c2 := z g hg.1 hg.2
        -- in the forest ms: joined without g, and joined by those not in l: then by those in neither
        by_cases mg : g ∈ l
        · refine i1.mono fun x m => ?_
          obtain ⟨k, mk, rfl⟩ := List.mem_map.mp m
          obtain ⟨q1, q2⟩ := List.mem_filter.mp mk
          refine List.mem_map.mpr ⟨k, List.mem_filter.mpr ⟨q1, ?_⟩, rfl⟩
          simp at q2 ⊢
          exact ⟨fun z => q2 (z ▸ mg), q2⟩
        refine Classical.byContradiction fun nc => ?_
        have ok3 : Okn ropes (ms.filter fun k => decide (k ∉ l)) := fun k m => S.ok k (List.mem_filter.mp m).1
        -- i1 : Conn by F := ms \ l; nc : ¬ Conn by F \ g. So Conn F → over g.
        have sub : ∀ k, k ∈ (ms.filter fun k => decide (k ∉ l)) → k = g ∨ k ∈ (ms.filter fun k => decide (k ∉ g :: l)) := fun k m => by
          obtain ⟨q1, q2⟩ := List.mem_filter.mp m
          by_cases e : k = g
          · exact .inl e
          · refine .inr (List.mem_filter.mpr ⟨q1, ?_⟩)
            simp at q2 ⊢
            exact ⟨e, q2⟩
        have i2 : Conn (e1 ropes g :: ed ropes (ms.filter fun k => decide (k ∉ g :: l))) (rp ropes e).1 (rp ropes e).2.1 := i1.mono fun x m => by
          obtain ⟨k, mk, rfl⟩ := List.mem_map.mp m
          rcases sub k mk with rfl | m
          · exact List.mem_cons.mpr (.inl rfl)
          · exact List.mem_cons.mpr (.inr (List.mem_map.mpr ⟨k, m, rfl⟩))
        have up : ∀ {x y : Int}, Conn (ed ropes (ms.filter fun k => decide (k ∉ g :: l))) x y → Conn (ed ropes (wo ms g)) x y := fun h => h.mono fun x m => by
          obtain ⟨k, mk, rfl⟩ := List.mem_map.mp m
          obtain ⟨q1, q2⟩ := List.mem_filter.mp mk
          refine List.mem_map.mpr ⟨k, mem_wo.mpr ⟨q1, ?_⟩, rfl⟩
          simp at q2
          exact q2.1
        have gapg := (forest_gap v S.ok S.fo hg.1).1
        rcases conn_cons.mp i2 with h | ⟨h1, h2⟩ | ⟨h1, h2⟩
        · exact nc h
        · exact gapg ((up h1).symm.trans (c2.trans (up h2).symm))
        · exact gapg ((up h2).trans (c2.symm.trans (up h1)))
    classical
    have fin := all (ms.filter fun f => decide (¬ Conn (ed ropes (wo ns e)) (rp ropes f).1 (rp ropes f).2.1)) fun f m => by
      obtain ⟨q1, q2⟩ := List.mem_filter.mp m
      exact ⟨q1, of_decide_eq_true q2⟩
    refine gap.1 (fin.lift fun x y m => ?_)
    obtain ⟨k, mk, ek⟩ := List.mem_map.mp m
    obtain ⟨q1, q2⟩ := List.mem_filter.mp mk
    have q2 := of_decide_eq_true q2
    unfold e1 at ek
    injection ek with k1 k2
    rw [← k1, ← k2]
    exact Classical.byContradiction fun c => q2 (List.mem_filter.mpr ⟨q1, decide_eq_true c⟩)
  obtain ⟨f, mf, h1, h2⟩ := key
  have nf : f ∉ ns := fun z => h1 (Conn.edge (List.mem_map.mpr ⟨f, mem_wo.mpr ⟨z, fun q => ne (q ▸ mf)⟩, rfl⟩))
  exact ⟨f, mf, nf, T.swap v me (S.ok f mf) h1, S.swap v mf he h2⟩
end
end RT

namespace RT
section
variable {n : Nat} {ropes : List Rope} {ns ms ks ps zs os : List Int} {a b c k e f st : Int}
theorem ord_eq : ∀ {l m : List Int}, l.Perm m → l.Pairwise (Chp ropes) → m.Pairwise (Chp ropes) → l = m
  | [], m, h, _, _ => h.nil_eq
  | x :: l, [], h, _, _ => absurd h.length_eq (by simp)
  | x :: l, y :: m, h, p1, p2 => by
    obtain ⟨q1, r1⟩ := List.pairwise_cons.mp p1
    obtain ⟨q2, r2⟩ := List.pairwise_cons.mp p2
    have e : x = y := by
      refine Classical.byContradiction fun ne => ?_
      have a := q1 y (by
        rcases List.mem_cons.mp (h.mem_iff.mpr (List.mem_cons.mpr (.inl rfl)) : y ∈ x :: l) with z | z
        · exact absurd z.symm ne
        · exact z)
      have b := q2 x (by
        rcases List.mem_cons.mp (h.mem_iff.mp (List.mem_cons.mpr (.inl rfl)) : x ∈ y :: m) with z | z
        · exact absurd z ne
        · exact z)
      exact Chp.irr (a.trans b)
    subst e
    rw [ord_eq (List.Perm.cons_inv h) r1 r2]
theorem Ord.uniq (O : Ord ropes ns) (P : Ord ropes ms) : ns = ms :=
  ord_eq ((List.perm_ext_iff_of_nodup O.nodup P.nodup).mpr fun k => by rw [O.mem, P.mem]) O.srt P.srt
/-- there is just one least tree -/
theorem Least.uniq (L : Least n ropes ns) (M : Least n ropes ms) : ns = ms := by
  obtain ⟨o, O, p, s⟩ := L
  obtain ⟨o', O', p', s'⟩ := M
  have := O.uniq O'
  subst this
  exact sorted_eq (p.trans p'.symm) s s'
/-- a rope that isn't in the least tree is the dearest of its ring -/
theorem Least.ring (v : Okr n ropes) (L : Least n ropes ns) (hf : 0 ≤ f ∧ f < ropes.length) (hn : f ∉ ns) (h : Lead ropes (rp ropes f).1 ks (rp ropes f).2.1 ps) (sub : ∀ k ∈ ks, k ∈ ns) (m : k ∈ ks) : Chp ropes k f := by
  obtain ⟨o, O, p, s⟩ := L
  have T : Tree n ropes ns := Least.tree v ⟨o, O, p, s⟩
  have c := least_out (d := true) v O hf fun z => hn (p.mem_iff.mpr z)
  refine Classical.byContradiction fun z => h.gap v T.ok T.fo sub m (c.mono fun x mx => ?_)
  obtain ⟨j, mj, rfl⟩ := List.mem_map.mp mx
  obtain ⟨q1, q2⟩ := List.mem_filter.mp mj
  refine List.mem_map.mpr ⟨j, mem_wo.mpr ⟨p.mem_iff.mpr q1, fun e => z ?_⟩, rfl⟩
  subst e
  have := of_decide_eq_true q2
  exact this
/-- a way of the least tree is a best one -/
theorem Least.best (v : Okr n ropes) (L : Least n ropes ns) (h : Lead ropes a ks b ps) (sub : ∀ k ∈ ks, k ∈ ns) (m : k ∈ ks) (ok : ∀ j ∈ ms, (0 ≤ j ∧ j < ropes.length) ∧ RT.cost ropes j < RT.cost ropes k) : ¬ Conn (ed ropes ms) a b := by
  have T := L.tree v
  intro c
  refine h.gap v T.ok T.fo sub m (c.lift fun x y mx => ?_)
  obtain ⟨j, mj, ej⟩ := List.mem_map.mp mx
  obtain ⟨hj, lt⟩ := ok j mj
  have := (L.cut v (sub k m) hj (.inl lt) (rp ropes j).1).mp (.refl _)
  unfold e1 at ej
  injection ej with j1 j2
  rw [← j1, ← j2]
  exact this
/-- what a walk has found: for each place a way of it -/
structure Ways (n : Nat) (ropes : List Rope) (ns : List Int) (st : Int) (W : List (Int × List Int)) : Prop where
  nd : (W.map (·.1)).Nodup
  ok : ∀ p ∈ W, 0 ≤ p.1 ∧ p.1 < n
  one : (st, []) ∈ W
  way : ∀ p ∈ W, ∃ ps, Lead ropes st p.2 p.1 ps ∧ (∀ k ∈ p.2, k ∈ ns) ∧ ∀ x ∈ ps, x ∈ W.map (·.1)
variable {W : List (Int × List Int)}
theorem Ways.init (h : 0 ≤ st ∧ st < n) : Ways n ropes ns st [(st, [])] where
  nd := by simp
  ok := fun p m => by rw [List.mem_singleton.mp m]; exact h
  one := by simp
  way := fun p m => by
    rw [List.mem_singleton.mp m]
    exact ⟨[st], .nil, fun k m => (nomatch m), fun x m => by simpa using m⟩
theorem Ways.keysOk (h : Ways n ropes ns st W) : ∀ x : Int, x ∈ W.map (·.1) → 0 ≤ x ∧ x < n := fun x m => by
  obtain ⟨p, mp, rfl⟩ := List.mem_map.mp m
  exact h.ok p mp
theorem Ways.len (h : Ways n ropes ns st W) : W.length ≤ n := by
  have := nodup_le h.nd h.keysOk
  rwa [List.length_map] at this
theorem Ways.add (h : Ways n ropes ns st W) (m : (b, ks) ∈ W) (mk : k ∈ ns) (j : Joins ropes k b c) (hc : 0 ≤ c ∧ c < n) (nc : c ∉ W.map (·.1)) : Ways n ropes ns st (W ++ [(c, ks ++ [k])]) where
  nd := by
    rw [List.map_append]
    exact nodup_snoc h.nd nc
  ok := fun p mp => by
    rcases List.mem_append.mp mp with q | q
    · exact h.ok p q
    · rw [List.mem_singleton.mp q]; exact hc
  one := List.mem_append.mpr (.inl h.one)
  way := fun p mp => by
    rcases List.mem_append.mp mp with q | q
    · obtain ⟨ps, l, s, u⟩ := h.way p q
      exact ⟨ps, l, s, fun x m => by rw [List.map_append]; exact List.mem_append.mpr (.inl (u x m))⟩
    · rw [List.mem_singleton.mp q]
      obtain ⟨ps, l, s, u⟩ := h.way _ m
      refine ⟨ps ++ [c], l.snoc j fun z => nc (u c z), fun i mi => ?_, fun x mx => ?_⟩
      · rcases List.mem_append.mp mi with z | z
        · exact s i z
        · rw [List.mem_singleton.mp z]; exact mk
      · rw [List.map_append]
        rcases List.mem_append.mp mx with z | z
        · exact List.mem_append.mpr (.inl (u x z))
        · exact List.mem_append.mpr (.inr z)
/-- at the walk's end: just the places that hang together with the start -/
theorem Ways.closed (h : Ways n ropes ns st W) (cl : ∀ x ∈ W.map (·.1), ∀ k ∈ ns, ∀ y, Joins ropes k x y → y ∈ W.map (·.1)) (x : Int) : x ∈ W.map (·.1) ↔ Conn (ed ropes ns) st x := by
  constructor
  · intro m
    obtain ⟨p, mp, rfl⟩ := List.mem_map.mp m
    obtain ⟨ps, l, s, _⟩ := h.way p mp
    refine l.conn.mono fun e me => ?_
    obtain ⟨k, mk, rfl⟩ := List.mem_map.mp me
    exact List.mem_map.mpr ⟨k, s k mk, rfl⟩
  · intro c
    induction c with
    | refl => exact List.mem_map.mpr ⟨_, h.one, rfl⟩
    | step _ e ih =>
      rcases e with e | e
      · obtain ⟨k, mk, ek⟩ := List.mem_map.mp e
        exact cl _ ih k mk _ (.inl ek)
      · obtain ⟨k, mk, ek⟩ := List.mem_map.mp e
        exact cl _ ih k mk _ (.inr ek)
/-- the other end of a rope -/
def far (r : Rope) (x : Int) : Option Int := if r.1 = x then some r.2.1 else if r.2.1 = x then some r.1 else none
theorem far_joins {x y : Int} (h : far (rp ropes k) x = some y) : Joins ropes k x y := by
  unfold far at h
  unfold Joins e1
  by_cases e : (rp ropes k).1 = x
  · rw [if_pos e] at h; cases h; left; rw [e]
  · rw [if_neg e] at h
    by_cases e2 : (rp ropes k).2.1 = x
    · rw [if_pos e2] at h; cases h; right; rw [e2]
    · rw [if_neg e2] at h; cases h
theorem joins_far {x y : Int} (h : Joins ropes k x y) : ∃ z, far (rp ropes k) x = some z ∧ (z = y ∨ y = x) := by
  unfold Joins e1 at h
  unfold far
  rcases h with h | h
  · injection h with h1 h2
    rw [if_pos h1]
    exact ⟨_, rfl, .inl h2⟩
  · injection h with h1 h2
    by_cases e : (rp ropes k).1 = x
    · rw [if_pos e]; exact ⟨_, rfl, .inr (by rw [← h1, e])⟩
    · rw [if_neg e, if_pos h2]; exact ⟨_, rfl, .inl h1⟩
/-- whose ropes are all gone through: the place x, up to the i-th rope -/
def Gone (ropes : List Rope) (ns : List Int) (W : List (Int × List Int)) (x : Int) : Prop := ∀ k ∈ ns, ∀ y, far (rp ropes k) x = some y → y ∈ W.map (·.1)
theorem Gone.more {V : List (Int × List Int)} {x : Int} (h : Gone ropes ns W x) (s : ∀ y ∈ W.map (·.1), y ∈ V.map (·.1)) : Gone ropes ns V x := fun k m y e => s y (h k m y e)
theorem Ways.done (h : Ways n ropes ns st W) (cl : ∀ x ∈ W.map (·.1), Gone ropes ns W x) (x : Int) : x ∈ W.map (·.1) ↔ Conn (ed ropes ns) st x := by
  refine h.closed (fun x mx k mk y j => ?_) x
  obtain ⟨z, e, q⟩ := joins_far j
  rcases q with rfl | rfl
  · exact cl x mx k mk z e
  · exact mx
end
end RT

namespace RT
section
variable {n : Nat} {ropes : List Rope} {ns ms ks ps zs os order : List Int} {a b c k e f st : Int}
/-- the ropes with the one made a ring -/
def tied (ropes : List Rope) (e : Int) : List Rope := ropes.set e.toNat ((rp ropes e).1, (rp ropes e).1, (rp ropes e).2.2)
theorem tied_len : (tied ropes e).length = ropes.length := by unfold tied; rw [List.length_set]
theorem rp_tied (he : 0 ≤ e ∧ e < ropes.length) (hk : 0 ≤ k) : rp (tied ropes e) k = if k = e then ((rp ropes e).1, (rp ropes e).1, (rp ropes e).2.2) else rp ropes k := by
  unfold tied
  by_cases h : k = e
  · subst h
    rw [if_pos rfl]
    conv => lhs; unfold rp
    rw [List.getD_eq_getElem?_getD, List.getElem?_set_self (by omega)]
    rfl
  · rw [if_neg h]
    unfold rp
    rw [List.getD_eq_getElem?_getD, List.getElem?_set_ne (by omega), List.getD_eq_getElem?_getD]
theorem okr_tied (v : Okr n ropes) (he : 0 ≤ e ∧ e < ropes.length) : Okr n (tied ropes e) := fun r m => by
  unfold tied at m
  rcases List.mem_or_eq_of_mem_set m with m | m
  · exact v r m
  · subst m
    have := v.at he
    exact ⟨this.1, this.1⟩
theorem cost_tied (he : 0 ≤ e ∧ e < ropes.length) (hk : 0 ≤ k) : cost (tied ropes e) k = cost ropes k := by
  unfold cost
  rw [rp_tied he hk]
  split
  · rename_i h; subst h; rfl
  · rfl
theorem ord_tied (he : 0 ≤ e ∧ e < ropes.length) (O : Ord ropes order) : Ord (tied ropes e) order where
  mem := fun k => by rw [tied_len]; exact O.mem k
  srt := by
    refine O.srt.imp_of_mem fun {i j} mi mj h => ?_
    have hi := (O.mem i).mp mi
    have hj := (O.mem j).mp mj
    unfold Chp at h ⊢
    rw [cost_tied he hi.1, cost_tied he hj.1]
    exact h
theorem run_tied {d : Bool} (he : 0 ≤ e ∧ e < ropes.length) : ∀ {ks : List Int} {s : List Int × List Int}, (∀ k ∈ ks, 0 ≤ k) → ks.foldl (tstep d (tied ropes e)) s = (wo ks e).foldl (tstep d ropes) s
  | [], s, _ => rfl
  | k :: ks, s, h => by
    have ih := fun s => run_tied (d := d) he (ks := ks) (s := s) fun j m => h j (List.mem_cons.mpr (.inr m))
    have hk := h k (List.mem_cons.mpr (.inl rfl))
    rw [List.foldl_cons, ih]
    unfold wo
    by_cases q : k = e
    · subst q
      rw [List.filter_cons, if_neg (by simp)]
      congr 1
      unfold tstep
      rw [rp_tied he hk, if_pos rfl]
      simp
    · rw [List.filter_cons, if_pos (by rw [bne_iff_ne]; exact q), List.foldl_cons]
      congr 1
      unfold tstep
      rw [rp_tied he hk, if_neg q]
theorem take_tied {d : Bool} (he : 0 ≤ e ∧ e < ropes.length) (ok : Okn ropes order) : take d n (tied ropes e) order = take d n ropes (wo order e) := by
  unfold take run
  rw [run_tied he fun k m => (ok k m).1]
theorem ed_tied (he : 0 ≤ e ∧ e < ropes.length) (ok : Okn ropes ms) (ne : e ∉ ms) : ed (tied ropes e) ms = ed ropes ms := by
  unfold ed
  refine List.map_congr_left fun k m => ?_
  have q : k ≠ e := fun z => ne (z ▸ m)
  unfold e1
  rw [rp_tied he (ok k m).1, if_neg q]
theorem tree_tied (he : 0 ≤ e ∧ e < ropes.length) (S : Tree n ropes ms) (ne : e ∉ ms) : Tree n (tied ropes e) ms := by
  refine ⟨fun k m => by rw [tied_len]; exact S.ok k m, by rw [ed_tied he S.ok ne]; exact S.fo, fun x y c => ?_⟩
  rw [ed_tied he S.ok ne]
  refine c.lift fun p q m => ?_
  obtain ⟨k, mk, ek⟩ := List.mem_map.mp m
  have hk := okn_all k mk
  rw [tied_len] at hk
  unfold e1 at ek
  rw [rp_tied he hk.1] at ek
  by_cases z : k = e
  · rw [if_pos z] at ek
    injection ek with k1 k2
    rw [← k1, ← k2]
    exact .refl _
  · rw [if_neg z] at ek
    exact S.sp _ _ (Conn.edge (List.mem_map.mpr ⟨k, mem_all.mpr hk, ek⟩))
theorem sum_tied (he : 0 ≤ e ∧ e < ropes.length) (ok : Okn ropes ms) : sumC (tied ropes e) ms = sumC ropes ms := by
  unfold sumC
  congr 1
  exact List.map_congr_left fun k m => cost_tied he (ok k m).1
/-- the cheapest that can be had without the rope e, from the least number on -/
def Rest (n : Nat) (ropes : List Rope) (e : Int) (ms : List Int) : Prop := ∃ order, Ord ropes order ∧ ms.Perm (take true n ropes (wo order e)) ∧ ms.Pairwise (· ≤ ·)
theorem okn_wo' (O : Ord ropes order) : Okn ropes (wo order e) := fun k m => O.okn k (mem_wo.mp m).1
theorem Rest.ok (v : Okr n ropes) (R : Rest n ropes e ms) : Okn ropes ms ∧ e ∉ ms ∧ Forest (ed ropes ms) := by
  obtain ⟨o, O, p, _⟩ := R
  have T := took (d := true) v (okn_wo' (e := e) O)
  have sub := T.sub
  have ok : Okn ropes (take true n ropes (wo o e)) := take_okn v (okn_wo' O)
  refine ⟨fun k m => ok k (p.mem_iff.mp m), fun z => ?_, forest_perm v ok p.symm T.fo⟩
  exact (mem_wo.mp (sub.subset (p.mem_iff.mp z))).2 rfl
theorem tree_of_len (v : Okr n ropes) (T : Tree n ropes ns) (ok : Okn ropes ms) (fo : Forest (ed ropes ms)) (l : ms.length = ns.length) : Tree n ropes ms := by
  refine ⟨ok, fo, ?_⟩
  have c1 := (forest_iff (valid_ed v ok)).mp fo
  have c2 := (forest_iff (valid_ed v T.ok)).mp T.fo
  have l1 : (ed ropes ms).length = ms.length := by unfold ed; rw [List.length_map]
  have l2 : (ed ropes ns).length = ns.length := by unfold ed; rw [List.length_map]
  have c3 : comps n (ed ropes (all ropes)) = comps n (ed ropes ns) := comps_congr fun x y => ⟨T.sp x y, Conn.mono (ed_sub_all T.ok)⟩
  exact span_of_comps (valid_ed v okn_all) (by omega) fun x y c => c.mono (ed_sub_all ok)
theorem Rest.tree (v : Okr n ropes) (T : Tree n ropes ns) (R : Rest n ropes e ms) (l : ms.length = ns.length) : Tree n ropes ms := tree_of_len v T (R.ok v).1 (R.ok v).2.2 l
theorem Tree.lens (v : Okr n ropes) (T : Tree n ropes ns) (S : Tree n ropes ms) : ns.length = ms.length := by
  rw [T.len (d := true) v, S.len (d := true) v]
/-- where a tree can do without e, the rest is a tree that costs no more -/
theorem Rest.cheap (v : Okr n ropes) (he : 0 ≤ e ∧ e < ropes.length) (R : Rest n ropes e ms) (S : Tree n ropes ks) (ne : e ∉ ks) : ms.length = ks.length ∧ sumC ropes ms ≤ sumC ropes ks := by
  obtain ⟨o, O, p, s⟩ := R
  have S' := tree_tied he S ne
  have v' := okr_tied v he
  have O' := ord_tied he O
  have c := least_cost (d := true) v' O' S'
  have t := take_tree (d := true) v' O'.okn fun k h0 h1 => (O'.mem k).mpr ⟨h0, h1⟩
  rw [take_tied he O.okn] at c t
  have ok : Okn ropes (take true n ropes (wo o e)) := take_okn v (okn_wo' O)
  rw [sum_tied he ok, sum_tied he S.ok] at c
  exact ⟨by rw [p.length_eq]; exact Tree.lens v' t S', by rw [sum_perm p]; exact c⟩
/-- a tree that isn't the one is without some rope of it -/
theorem Tree.other (v : Okr n ropes) (T : Tree n ropes ns) (S : Tree n ropes ms) (h : ¬ ns.Perm ms) : ∃ e ∈ ns, e ∉ ms := by
  refine Classical.byContradiction fun z => h ?_
  have sub : ∀ e ∈ ns, e ∈ ms := fun e m => Classical.byContradiction fun q => z ⟨e, m, q⟩
  have go : ∀ {l m : List Int}, l.Nodup → m.Nodup → (∀ e ∈ l, e ∈ m) → l.length = m.length → l.Perm m := by
    intro l
    induction l with
    | nil => intro m _ _ _ hl; rw [List.length_eq_zero_iff.mp hl.symm]
    | cons x l ih =>
      intro m nd nm sub hl
      have mx := sub x (List.mem_cons.mpr (.inl rfl))
      have p := wo_perm nm mx
      have nd' := List.nodup_cons.mp nd
      refine ((ih nd'.2 (List.Nodup.sublist List.filter_sublist nm : (wo m x).Nodup) (fun e me => mem_wo.mpr ⟨sub e (List.mem_cons.mpr (.inr me)), fun q => nd'.1 (q ▸ me)⟩) ?_).cons x).trans p.symm
      have := wo_len nm mx
      rw [List.length_cons] at hl
      omega
  exact go (T.nodup v) (S.nodup v) sub (Tree.lens v T S)
/-- each tree that isn't the least one costs no less than some exchange makes of it -/
theorem Least.exchange (v : Okr n ropes) (L : Least n ropes ns) (S : Tree n ropes ms) (me : e ∈ ns) (ne : e ∉ ms) :
    ∃ f, f ∉ ns ∧ Tree n ropes (f :: wo ns e) ∧ sumC ropes (f :: wo ns e) ≤ sumC ropes ms := by
  have T := L.tree v
  obtain ⟨f, mf, nf, t1, t2⟩ := Tree.both v T S me ne
  refine ⟨f, nf, t1, ?_⟩
  have c := L.cost v t2
  rw [sum_cons] at c ⊢
  have q1 := sum_wo (ropes := ropes) (T.nodup v) me
  have q2 := sum_wo (ropes := ropes) (S.nodup v) mf
  omega
end
end RT

namespace RT
section
variable {n : Nat} {ropes : List Rope} {one other tree ns ms ks ps : List Int} {a b c k o : Int}
/-- of the ring that a rope of the other tree makes, one isn't in that tree -/
theorem ring_leaves (v : Okr n ropes) (S : Tree n ropes other) (mk : k ∈ other) (nk : k ∉ ks) (h : Lead ropes (rp ropes k).1 ks (rp ropes k).2.1 ps) : ∃ j ∈ ks, j ∉ other := by
  refine Classical.byContradiction fun z => (forest_gap v S.ok S.fo mk).1 (h.conn.mono fun e me => ?_)
  obtain ⟨j, mj, rfl⟩ := List.mem_map.mp me
  refine List.mem_map.mpr ⟨j, mem_wo.mpr ⟨Classical.byContradiction fun q => z ⟨j, mj, q⟩, fun q => nk (q ▸ mj)⟩, rfl⟩
theorem snoc_perm : (k :: ns).Perm (ns ++ [k]) := by
  have := List.perm_append_comm (l₁ := [k]) (l₂ := ns)
  exact this
theorem ring_swap (v : Okr n ropes) (T : Tree n ropes tree) (hk : 0 ≤ k ∧ k < ropes.length) (h : Lead ropes (rp ropes k).1 ks (rp ropes k).2.1 ps) (sub : ∀ j ∈ ks, j ∈ tree) (mo : o ∈ ks) : Tree n ropes (wo tree o ++ [k]) :=
  (T.swap v (sub o mo) hk (h.gap v T.ok T.fo sub mo)).perm v snoc_perm.symm
/-- the tree behind these exchanges -/
def walk (one : List Int) (st : List (Int × Int)) : List Int := st.foldl (fun t s => wo t s.1 ++ [s.2]) one
theorem walk_snoc {st : List (Int × Int)} {s : Int × Int} : walk one (st ++ [s]) = wo (walk one st) s.1 ++ [s.2] := by unfold walk; rw [List.foldl_append]; rfl
/-- each is an exchange -/
def Good (n : Nat) (ropes : List Rope) (one : List Int) (st : List (Int × Int)) : Prop := ∀ (i : Nat) s, st[i]? = some s → s.1 ∈ walk one (st.take i) ∧ s.2 ∉ walk one (st.take i) ∧ Tree n ropes (walk one (st.take (i + 1)))
theorem Good.nil : Good n ropes one [] := fun i s e => by simp at e
theorem Good.snoc {st : List (Int × Int)} (G : Good n ropes one st) (mo : o ∈ walk one st) (nk : k ∉ walk one st) (T : Tree n ropes (wo (walk one st) o ++ [k])) : Good n ropes one (st ++ [(o, k)]) := fun i s e => by
  by_cases hi : i < st.length
  · rw [List.getElem?_append_left hi] at e
    have := G i s e
    rw [List.take_append_of_le_length (by omega), List.take_append_of_le_length (by omega)]
    exact this
  · have hi2 := (List.getElem?_eq_some_iff.mp e).1
    have hi3 : i = st.length := by simp at hi2; omega
    subst hi3
    rw [List.getElem?_append_right (by omega)] at e
    simp at e
    subst e
    rw [List.take_append_of_le_length (by omega), List.take_length, List.take_of_length_le (by simp)]
    refine ⟨mo, nk, ?_⟩
    rw [walk_snoc]
    exact T
/-- where the way to the other tree stands, its first i ropes gone through -/
structure Mid (n : Nat) (ropes : List Rope) (one other : List Int) (i : Nat) (st : List (Int × Int)) : Prop where
  tr : Tree n ropes (walk one st)
  good : Good n ropes one st
  keep : ∀ k ∈ one, k ∈ other → k ∈ walk one st
  got : ∀ k ∈ other.take i, k ∈ walk one st
  only : ∀ k ∈ walk one st, k ∈ one ∨ k ∈ other.take i
  cnt : st.length = ((other.take i).filter fun k => decide (k ∉ one)).length
theorem Mid.init (T : Tree n ropes one) : Mid n ropes one other 0 [] where
  tr := T
  good := Good.nil
  keep := fun k m _ => m
  got := fun k m => by simp at m
  only := fun k m => .inl m
  cnt := by simp
theorem take_succ_of {α : Type} {l : List α} {i : Nat} {x : α} (h : l[i]? = some x) : l.take (i + 1) = l.take i ++ [x] := by
  rw [List.take_add_one, h]
  rfl
theorem Mid.skip {st : List (Int × Int)} {i : Nat} (M : Mid n ropes one other i st) (e : other[i]? = some k) (m : k ∈ one) : Mid n ropes one other (i + 1) st where
  tr := M.tr
  good := M.good
  keep := M.keep
  got := fun j mj => by
    rw [take_succ_of e] at mj
    rcases List.mem_append.mp mj with q | q
    · exact M.got j q
    · rw [List.mem_singleton.mp q]; exact M.keep k m (List.mem_of_getElem? e)
  only := fun j mj => (M.only j mj).imp id fun q => by rw [take_succ_of e]; exact List.mem_append.mpr (.inl q)
  cnt := by
    rw [take_succ_of e, List.filter_append, M.cnt]
    simp [m]
theorem nodup_take_not (nd : other.Nodup) {i : Nat} (e : other[i]? = some k) : k ∉ other.take i := fun m => by
  have := take_succ_of e
  have nd2 : (other.take i ++ [k]).Nodup := by rw [← this]; exact nd.sublist (List.take_sublist _ _)
  exact (List.nodup_append.mp nd2).2.2 k m k (by simp) rfl
theorem Mid.fresh {st : List (Int × Int)} {i : Nat} (M : Mid n ropes one other i st) (nd : other.Nodup) (e : other[i]? = some k) (m : k ∉ one) : k ∉ walk one st := fun z => (M.only k z).elim m (nodup_take_not nd e)
theorem Mid.step {st : List (Int × Int)} {i : Nat} (v : Okr n ropes) (S : Tree n ropes other) (M : Mid n ropes one other i st) (e : other[i]? = some k) (m : k ∉ one) (h : Lead ropes (rp ropes k).1 ks (rp ropes k).2.1 ps) (sub : ∀ j ∈ ks, j ∈ walk one st) (mo : o ∈ ks) (no : o ∉ other) : Mid n ropes one other (i + 1) (st ++ [(o, k)]) := by
  have nk := M.fresh (S.nodup v) e m
  have hk := S.ok k (List.mem_of_getElem? e)
  have T := ring_swap v M.tr hk h sub mo
  constructor
  · rw [walk_snoc]; exact T
  · exact M.good.snoc (sub o mo) nk T
  · intro j mj mo'
    rw [walk_snoc]
    exact List.mem_append.mpr (.inl (mem_wo.mpr ⟨M.keep j mj mo', fun q => no (by have q : j = o := q; rw [← q]; exact mo')⟩))
  · intro j mj
    rw [walk_snoc]
    rw [take_succ_of e] at mj
    rcases List.mem_append.mp mj with q | q
    · exact List.mem_append.mpr (.inl (mem_wo.mpr ⟨M.got j q, fun z => no (by have z : j = o := z; rw [← z]; exact List.mem_of_mem_take q)⟩))
    · exact List.mem_append.mpr (.inr q)
  · intro j mj
    rw [walk_snoc] at mj
    rw [take_succ_of e]
    rcases List.mem_append.mp mj with q | q
    · exact (M.only j (mem_wo.mp q).1).imp id fun z => List.mem_append.mpr (.inl z)
    · exact .inr (List.mem_append.mpr (.inr q))
  · rw [take_succ_of e, List.filter_append, List.length_append, List.length_append, M.cnt]
    simp [m]
theorem perm_of_sub : ∀ {l m : List Int}, l.Nodup → m.Nodup → (∀ e ∈ l, e ∈ m) → l.length = m.length → l.Perm m := by
  intro l
  induction l with
  | nil => intro m _ _ _ hl; rw [List.length_eq_zero_iff.mp hl.symm]
  | cons x l ih =>
    intro m nd nm sub hl
    have mx := sub x (List.mem_cons.mpr (.inl rfl))
    have p := wo_perm nm mx
    have nd' := List.nodup_cons.mp nd
    refine ((ih nd'.2 (List.Nodup.sublist List.filter_sublist nm : (wo m x).Nodup) (fun e me => mem_wo.mpr ⟨sub e (List.mem_cons.mpr (.inr me)), fun q => nd'.1 (q ▸ me)⟩) ?_).cons x).trans p.symm
    have := wo_len nm mx
    rw [List.length_cons] at hl
    omega
theorem count_both : ∀ {l m : List Int}, l.Nodup → m.Nodup → (l.filter fun k => decide (k ∈ m)).length = (m.filter fun k => decide (k ∈ l)).length := by
  intro l m nl nm
  refine (?_ : (l.filter fun k => decide (k ∈ m)).Perm (m.filter fun k => decide (k ∈ l))).length_eq
  refine (List.perm_ext_iff_of_nodup (nl.sublist List.filter_sublist) (nm.sublist List.filter_sublist)).mpr fun x => ?_
  simp [List.mem_filter, and_comm]
theorem count_split (l : List Int) (p : Int → Bool) : (l.filter p).length + (l.filter fun k => !p k).length = l.length := by
  induction l with
  | nil => rfl
  | cons x l ih =>
    rw [List.filter_cons, List.filter_cons]
    cases p x <;> simp <;> omega
theorem Mid.end {st : List (Int × Int)} (v : Okr n ropes) (T : Tree n ropes one) (S : Tree n ropes other) (M : Mid n ropes one other other.length st) : (walk one st).Perm other ∧ st.length = (one.filter fun k => decide (k ∉ other)).length := by
  have got := M.got
  rw [List.take_length] at got
  have len := Tree.lens v M.tr S
  refine ⟨(perm_of_sub (S.nodup v) (M.tr.nodup v) got len.symm).symm, ?_⟩
  have c := M.cnt
  rw [List.take_length] at c
  have l2 := Tree.lens v T S
  have b := count_both (T.nodup v) (S.nodup v)
  have s1 := count_split one fun k => decide (k ∈ other)
  have s2 := count_split other fun k => decide (k ∈ one)
  simp only [← decide_not] at s1 s2
  omega
end
end RT

namespace RT
section
variable {n : Nat} {ropes : List Rope} {ns ms ks pre : List Int} {k : Int} {d d' : Bool}
/-- which label of two is kept doesn't matter -/
theorem set_eq (h1 : ns.Nodup) (h2 : ms.Nodup) (s1 : ns.Pairwise (· ≤ ·)) (s2 : ms.Pairwise (· ≤ ·)) (h : ∀ x, x ∈ ns ↔ x ∈ ms) : ns = ms := sorted_eq ((List.perm_ext_iff_of_nodup h1 h2).mpr h) s1 s2
variable {a b : Int} {ps : List Int}
theorem Lead.last (h : Lead ropes a ks b ps) : ps.getLast? = some b := by
  cases h with
  | nil => rfl
  | snoc _ _ _ => simp
theorem Lead.head (h : Lead ropes a ks b ps) : ps.take 1 = [a] := by
  induction h with
  | nil => rfl
  | snoc h _ _ ih =>
    have := h.len
    rw [List.take_append_of_le_length (by omega)]
    exact ih
theorem Lead.cut (h : Lead ropes a ks b ps) : ∀ i, i < ks.length → ∃ b c k, Lead ropes a (ks.take i) b (ps.take (i + 1)) ∧ ks[i]? = some k ∧ Joins ropes k b c ∧ c ∉ ps.take (i + 1) ∧ ps.take (i + 2) = ps.take (i + 1) ++ [c] ∧ Lead ropes a (ks.take (i + 1)) c (ps.take (i + 2)) := by
  induction h with
  | nil => intro i hi; simp at hi
  | snoc h j nc ih =>
    rename_i ks ps b k c
    intro i hi
    have lp := h.len
    rw [List.length_append, List.length_singleton] at hi
    by_cases hlt : i < ks.length
    · obtain ⟨b', c', k', l1, e1, j1, n1, e2, l2⟩ := ih i hlt
      refine ⟨b', c', k', ?_⟩
      rw [List.take_append_of_le_length (by omega), List.take_append_of_le_length (by omega), List.take_append_of_le_length (by omega), List.take_append_of_le_length (by omega), List.getElem?_append_left hlt]
      exact ⟨l1, e1, j1, n1, e2, l2⟩
    · have : i = ks.length := by omega
      subst this
      refine ⟨b, c, k, ?_⟩
      rw [List.take_append_of_le_length (by omega), List.take_length, List.take_append_of_le_length (by omega), List.take_of_length_le (l := ps) (by omega), List.take_of_length_le (l := ps ++ [c]) (by simp; omega), List.take_of_length_le (l := ks ++ [k]) (by simp), List.getElem?_append_right (by omega)]
      exact ⟨h, by simp, j, nc, rfl, h.snoc j nc⟩
/-- where the way stands behind i ropes, and the next rope -/
theorem Lead.next (h : Lead ropes a ks b ps) {i : Nat} {c : Int} (l : Lead ropes a (ks.take i) c (ps.take (i + 1))) (e : ks[i]? = some k) : ∃ c', Joins ropes k c c' ∧ c' ≠ c ∧ c' ∉ ps.take (i + 1) ∧ ps.take (i + 2) = ps.take (i + 1) ++ [c'] ∧ Lead ropes a (ks.take (i + 1)) c' (ps.take (i + 2)) := by
  obtain ⟨b', c', k', l1, e1, j1, n1, e2, l2⟩ := h.cut i (List.getElem?_eq_some_iff.mp e).1
  rw [e] at e1
  cases e1
  have : b' = c := Option.some.inj (l1.last.symm.trans l.last)
  subst this
  exact ⟨c', j1, fun z => n1 (by rw [z]; exact l.lst), n1, e2, l2⟩
theorem Lead.whole (h : Lead ropes a ks b ps) {c : Int} (l : Lead ropes a (ks.take ks.length) c (ps.take (ks.length + 1))) : c = b := by
  have e : ps.take (ks.length + 1) = ps := List.take_of_length_le (by rw [h.len]; exact Nat.le_refl _)
  rw [e] at l
  exact Option.some.inj (l.last.symm.trans h.last)
theorem Lead.start (h : Lead ropes a ks b ps) : Lead ropes a (ks.take 0) a (ps.take (0 + 1)) := by
  rw [h.head]
  exact .nil
end
end RT

namespace RT
section
variable {n : Nat} {ropes : List Rope} {ns ms ks : List Int} {e f k : Int}
theorem Rest.uniq (R : Rest n ropes e ms) (S : Rest n ropes e ks) : ms = ks := by
  obtain ⟨o, O, p, s⟩ := R
  obtain ⟨o', O', p', s'⟩ := S
  have := O.uniq O'
  subst this
  exact sorted_eq (p.trans p'.symm) s s'
theorem Rest.len {n : Nat} {ropes : List Rope} {ms : List Int} (v : Okr n ropes) (R : Rest n ropes e ms) : ms.length ≤ ropes.length := by
  obtain ⟨h1, _, h3⟩ := R.ok v
  exact nodup_le (forest_nodup v h1 h3) h1
/-- what second_tree finds -/
def Second (n : Nat) (ropes : List Rope) (ns ms : List Int) : Prop := (∃ e ∈ ns, Rest n ropes e ms) ∧ ms.length = ns.length ∧ ∀ e ∈ ns, ∀ ks, Rest n ropes e ks → ks.length = ns.length → sumC ropes ms ≤ sumC ropes ks
theorem Second.tree (v : Okr n ropes) (L : Least n ropes ns) (S : Second n ropes ns ms) : Tree n ropes ms := by
  obtain ⟨⟨e, _, R⟩, l, _⟩ := S
  exact R.tree v (L.tree v) l
theorem Second.srt (S : Second n ropes ns ms) : ms.Pairwise (· ≤ ·) := by
  obtain ⟨⟨e, _, o, _, _, s⟩, _⟩ := S
  exact s
theorem Second.ne (v : Okr n ropes) (S : Second n ropes ns ms) : ms ≠ ns := by
  obtain ⟨⟨e, me, R⟩, _⟩ := S
  intro z
  exact (R.ok v).2.1 (z ▸ me)
/-- no other tree costs less -/
theorem Second.cost (v : Okr n ropes) (L : Least n ropes ns) (S : Second n ropes ns ms) (hR : ∀ e ∈ ns, ∃ ks, Rest n ropes e ks) (T : Tree n ropes ks) (h : ¬ ns.Perm ks) : sumC ropes ms ≤ sumC ropes ks := by
  have TL := L.tree v
  obtain ⟨e, me, ne⟩ := Tree.other v TL T h
  obtain ⟨r, R⟩ := hR e me
  obtain ⟨l, c⟩ := R.cheap v (TL.ok e me) T ne
  exact Int.le_trans (S.2.2 e me r R (l.trans (Tree.lens v T TL))) c
/-- the second tree costs no less than some exchange -/
theorem Second.exchange (v : Okr n ropes) (L : Least n ropes ns) (S : Second n ropes ns ms) : ∃ e f, e ∈ ns ∧ f ∉ ns ∧ Tree n ropes (f :: wo ns e) ∧ sumC ropes (f :: wo ns e) ≤ sumC ropes ms := by
  obtain ⟨⟨e, me, R⟩, l, _⟩ := id S
  obtain ⟨f, nf, T, c⟩ := L.exchange v (S.tree v L) me (R.ok v).2.1
  exact ⟨e, f, me, nf, T, c⟩
end
end RT

namespace RT
section
variable {n : Nat} {es : List (Int × Int)} {ropes : List Rope} {zs ns : List Int} {p x y : Int}
open Classical in
/-- all places that hang together with p, from the least on -/
noncomputable def sideL (n : Nat) (es : List (Int × Int)) (p : Int) : List Int := (iota n).filter fun x => decide (Conn es p x)
theorem iota_sorted : ∀ n : Nat, (iota n).Pairwise (· < ·) := by
  intro n
  unfold iota
  rw [List.pairwise_map]
  exact List.pairwise_lt_range.imp fun h => by omega
theorem mem_iota : x ∈ iota n ↔ 0 ≤ x ∧ x < n := by
  unfold iota
  rw [List.mem_map]
  constructor
  · rintro ⟨i, mi, rfl⟩
    have := List.mem_range.mp mi
    omega
  · intro h
    exact ⟨x.toNat, List.mem_range.mpr (by omega), by omega⟩
theorem mem_sideL : x ∈ sideL n es p ↔ (0 ≤ x ∧ x < n) ∧ Conn es p x := by
  unfold sideL
  rw [List.mem_filter, mem_iota]
  simp
theorem sideL_lt : (sideL n es p).Pairwise (· < ·) := (iota_sorted n).sublist List.filter_sublist
theorem sideL_srt : (sideL n es p).Pairwise (· ≤ ·) := sideL_lt.imp fun h => Int.le_of_lt h
theorem sideL_nd : (sideL n es p).Nodup := sideL_lt.imp fun h => Int.ne_of_lt h
/-- places that hang together with a place are places -/
theorem conn_place (v : Valid n es) (h : Conn es x y) (hx : 0 ≤ x ∧ x < n) : 0 ≤ y ∧ y < n := by
  induction h with
  | refl => exact hx
  | step _ e ih =>
    rcases e with e | e
    · exact (v _ e).2
    · exact (v _ e).1
theorem side_is (v : Valid n es) (hp : 0 ≤ p ∧ p < n) (nd : zs.Nodup) (srt : zs.Pairwise (· ≤ ·)) (h : ∀ x, x ∈ zs ↔ Conn es p x) : zs = sideL n es p :=
  set_eq nd sideL_nd srt sideL_srt fun x => by
    rw [h, mem_sideL]
    exact ⟨fun c => ⟨conn_place v c hp, c⟩, fun c => c.2⟩
/-- p is the least of its group -/
def Least1 (n : Nat) (es : List (Int × Int)) (p : Int) : Prop := ∀ q : Int, 0 ≤ q → q < p → ¬ Conn es q p
theorem head_sideL (hp : 0 ≤ p ∧ p < n) : (sideL n es p).head? = some p ↔ Least1 n es p := by
  have mp : p ∈ sideL n es p := mem_sideL.mpr ⟨hp, .refl _⟩
  have lt := sideL_lt (n := n) (es := es) (p := p)
  cases e : sideL n es p with
  | nil => rw [e] at mp; cases mp
  | cons a l =>
    rw [e] at mp lt
    have q1 := (List.pairwise_cons.mp lt).1
    have ma : a ∈ sideL n es p := by rw [e]; simp
    have ha := mem_sideL.mp ma
    constructor
    · intro h
      have h : a = p := by simpa using h
      subst h
      intro q hq hlt c
      have mq : q ∈ a :: l := by rw [← e]; exact mem_sideL.mpr ⟨⟨hq, by omega⟩, c.symm⟩
      rcases List.mem_cons.mp mq with z | z
      · omega
      · have := q1 q z; omega
    · intro h
      rcases List.mem_cons.mp mp with z | z
      · rw [z]; rfl
      · have := q1 p z
        exact absurd ha.2.symm (h a ha.1.1 this)
open Classical in
/-- the groups, in the order of their least places, of the first i places -/
noncomputable def grps (n : Nat) (es : List (Int × Int)) (i : Nat) : List (List Int) := ((iota i).filter fun p => decide ((sideL n es p).head? = some p)).map (sideL n es)
theorem iota_succ {i : Nat} : iota (i + 1) = iota i ++ [(i : Int)] := by unfold iota; rw [List.range_succ, List.map_append]; rfl
theorem grps_yes {i : Nat} (h : (sideL n es (i : Int)).head? = some (i : Int)) : grps n es (i + 1) = grps n es i ++ [sideL n es (i : Int)] := by
  unfold grps
  rw [iota_succ, List.filter_append, List.map_append]
  simp [h]
theorem grps_no {i : Nat} (h : ¬ (sideL n es (i : Int)).head? = some (i : Int)) : grps n es (i + 1) = grps n es i := by
  unfold grps
  rw [iota_succ, List.filter_append, List.map_append]
  simp [h]
theorem grps_len {i : Nat} : (grps n es i).length ≤ i := by
  unfold grps
  rw [List.length_map]
  refine Nat.le_trans (List.length_filter_le _ _) ?_
  unfold iota
  rw [List.length_map, List.length_range]
  exact Nat.le_refl _
end
end RT

namespace RT
section
variable {n : Nat} {ropes : List Rope} {ms : List Int}
/-- a tree from its least number on is one of the choices -/
theorem Least.srt (L : Least n ropes ms) : ms.Pairwise (· ≤ ·) := by
  obtain ⟨_, _, _, s⟩ := L
  exact s
end
end RT

namespace RT
section
variable {n : Nat} {rs : List Rope} {ns ms : List Int} {k c j : Int}
open Classical in
noncomputable def lt (n : Nat) (rs : List Rope) : List Int := if h : ∃ ns, Least n rs ns then h.choose else []
def recst (rs : List Rope) (k c : Int) : List Rope := rs.set k.toNat ((rp rs k).1, (rp rs k).2.1, c)
theorem len_recst : (recst rs k c).length = rs.length := by unfold recst; exact List.length_set
theorem e1_recst : e1 (recst rs k c) j = e1 rs j := by
  unfold e1 rp recst
  simp only [List.getD_eq_getElem?_getD, List.getElem?_set]
  by_cases h : k.toNat = j.toNat
  · rw [if_pos h]
    by_cases h2 : k.toNat < rs.length
    · rw [if_pos h2]
      simp [rp, h]
    · rw [if_neg h2]
      have : rs[j.toNat]? = none := List.getElem?_eq_none (by omega)
      rw [this]
  · rw [if_neg h]
theorem ed_recst : ed (recst rs k c) ns = ed rs ns := by
  unfold ed
  exact List.map_congr_left fun j _ => e1_recst
theorem all_recst : all (recst rs k c) = all rs := by unfold all; rw [len_recst]
theorem Tree.recst (T : Tree n (recst rs k c) ns) : Tree n rs ns :=
  ⟨fun j m => by have := T.ok j m; rwa [len_recst] at this, by have := T.fo; rwa [ed_recst] at this, fun x y h => by
    have := T.sp x y
    rw [ed_recst, ed_recst, all_recst] at this
    exact this h⟩
end
end RT

namespace L2
open PySem PySem.Spec PyProof.Rows
theorem rng_iota (n : Nat) : rngV 0 n = (RT.iota n).map V.int := by
  unfold rngV RT.iota
  rw [List.map_map]
  refine List.map_congr_left fun i _ => ?_
  show V.int (0 + (i : Int)) = V.int (i : Int)
  rw [Int.zero_add]
theorem ints_got {ns : List Int} {i : Nat} {x : V} (h : (ns.map V.int)[i]? = some x) : ∃ z, ns[i]? = some z ∧ x = .int z := by
  rw [List.getElem?_map] at h
  cases e : ns[i]? with
  | none => rw [e] at h; cases h
  | some z => rw [e] at h; exact ⟨z, rfl, (Option.some.inj h).symm⟩
theorem lab_at {g : List Int} {x : Int} (h0 : 0 ≤ x) (h1 : x < g.length) : atI (g.map V.int) x = some (.int (RT.lab g x)) := by
  refine atI_int h0 ?_
  rw [List.getElem?_map, RT.lab_eq h0 h1]
  rfl
theorem relab_map (g : List Int) (p q : Int) : ((g.map V.int).map fun x => if x = .int p then .int q else x) = (RT.relab g p q).map V.int := by
  unfold RT.relab
  rw [List.map_map, List.map_map]
  refine List.map_congr_left fun x _ => ?_
  show (if V.int x = V.int p then V.int q else V.int x) = V.int (if x = p then q else x)
  by_cases h : x = p
  · simp [h]
  · simp [h]
/-- ropes are tuples: a list that grows is none of them -/
theorem ropes_upd {H : Hp} {q : Addr} {o : HO} {ys : List V} (hq : H q = some (.lst ys)) : ∀ {rs : List (Int × Int × Int)} {xs : List V}, Reps H (rs.map ropeD) xs → Reps (upd H q o) (rs.map ropeD) xs
  | [], _, h => by rw [List.map_nil, reps_nil] at h ⊢; exact h
  | r :: rs, _, h => by
    rw [List.map_cons] at h
    obtain ⟨x, xr, rfl, h1, h2⟩ := reps_cons.mp h
    obtain ⟨p, rfl, hp⟩ := rep_rope.mp h1
    have ne : p ≠ q := ne_of hp hq (by intro z; cases z)
    exact reps_cc.mpr ⟨rep_rope.mpr ⟨p, rfl, by rw [upd_ne ne]; exact hp⟩, ropes_upd hq h2⟩
/-- an item of a written row of numbers -/
theorem pick_at {ns : List Int} {i : Int} (h0 : 0 ≤ i) (h1 : i < ns.length) : ∃ z ∈ ns, atI (ns.map V.int) i = some (.int z) := by
  have hi : i.toNat < ns.length := by omega
  refine ⟨ns[i.toNat], List.getElem_mem hi, atI_int h0 ?_⟩
  rw [List.getElem?_map, List.getElem?_eq_getElem hi]
  rfl
theorem cell_at {ns : List Int} {i : Int} (h0 : 0 ≤ i) (h1 : i < ns.length) : atI (ns.map V.int) i = some (.int (ns.getD i.toNat 0)) := by
  have hi : i.toNat < ns.length := by omega
  refine atI_int h0 ?_
  rw [List.getElem?_map, List.getElem?_eq_getElem hi, List.getD_eq_getElem?_getD, List.getElem?_eq_getElem hi]
  rfl
theorem atI_neg1 {α : Type} {xs : List α} {v : α} (h : xs[xs.length - 1]? = some v) : atI xs (-1) = some v := by
  have hl : xs.length - 1 < xs.length := (List.getElem?_eq_some_iff.mp h).1
  have e : ixN xs.length (-1) = some (xs.length - 1) := by
    unfold ixN
    rw [if_neg (by decide), if_pos (by omega)]
    congr 1
    omega
  unfold atI
  rw [e]
  exact h
theorem ropes_last {H : Hp} {rs : List (Int × Int × Int)} {xs : List V} (h : Reps H (rs.map ropeD) xs) (h0 : 0 < rs.length) :
    ∃ p r, r ∈ rs ∧ atI xs (-1) = some (.ref p) ∧ H p = some (.tup [.int r.1, .int r.2.1, .int r.2.2]) := by
  have hl := h.length
  rw [List.length_map] at hl
  obtain ⟨x, e1, e2⟩ := h.get (i := rs.length - 1) (d := ropeD rs[rs.length - 1]) (by rw [List.getElem?_map, List.getElem?_eq_getElem (by omega)]; rfl)
  obtain ⟨p, rfl, hp⟩ := rep_rope.mp e2
  exact ⟨p, _, List.getElem_mem (by omega), atI_neg1 (by rw [← hl]; exact e1), hp⟩
theorem cut_ints (ns : List Int) (lo hi : Option Int) : ∃ ms : List Int, cutV (ns.map V.int) lo hi = ms.map V.int ∧ ms.length ≤ ns.length ∧ ∀ k ∈ ms, k ∈ ns := by
  unfold cutV
  refine ⟨(ns.drop (HT.sIx (ns.map V.int).length 0 lo)).take (HT.sIx (ns.map V.int).length (ns.map V.int).length hi - HT.sIx (ns.map V.int).length 0 lo), ?_, ?_, fun k m => List.mem_of_mem_drop (List.mem_of_mem_take m)⟩
  · rw [List.map_take, List.map_drop]
  · rw [List.length_take, List.length_drop]
    omega
/-- what stands at x, as a test of its items -/
theorem inV_ints (v : Int) (g : List Int) : inV (.int v) (g.map V.int) = g.contains v := by
  unfold inV
  rw [List.any_map, List.contains_eq_any_beq]
  congr 1
  funext x
  show eqV (V.int x) (V.int v) = (v == x)
  show (x == v) = (v == x)
  exact BEq.comm
theorem flat_ints (g : List Int) : (g.map V.int).all flatV = true := by
  rw [List.all_map, List.all_eq_true]
  intro x _
  rfl
end L2

namespace L2
open PySem PySem.Spec PyProof.Rows PySem.W

/-- the tree of questions, answered by c -/
def kRun {α : Type} (c : Nat → Nat → Bool) : KasT α → α
  | .ret a => a
  | .ask i j k => kRun c (k (c i j))
theorem kRun_bind {α β : Type} {c : Nat → Nat → Bool} {f : α → KasT β} : ∀ t : KasT α, kRun c (t.bind f) = kRun c (f (kRun c t))
  | .ret _ => rfl
  | .ask i j k => by
    show kRun c ((k (c i j)).bind f) = _
    exact kRun_bind _
/-- only numbers below N are asked -/
def Asks {α : Type} (N : Nat) : KasT α → Prop
  | .ret _ => True
  | .ask i j k => i < N ∧ j < N ∧ ∀ b, Asks N (k b)
theorem Asks.bind {α β : Type} {N : Nat} {f : α → KasT β} (hf : ∀ a, Asks N (f a)) : ∀ t : KasT α, Asks N t → Asks N (t.bind f)
  | .ret a, _ => hf a
  | .ask i j k, h => ⟨h.1, h.2.1, fun b => Asks.bind hf (k b) (h.2.2 b)⟩
/-- .. where every value of the first part is fit -/
def AsksR {α : Type} (N : Nat) (P : α → Prop) : KasT α → Prop
  | .ret a => P a
  | .ask i j k => i < N ∧ j < N ∧ ∀ b, AsksR N P (k b)
theorem AsksR.asks {α : Type} {N : Nat} {P : α → Prop} : ∀ {t : KasT α}, AsksR N P t → Asks N t
  | .ret _, _ => trivial
  | .ask _ _ k, h => ⟨h.1, h.2.1, fun b => (h.2.2 b).asks⟩
theorem AsksR.bind {α β : Type} {N : Nat} {P : α → Prop} {Q : β → Prop} {f : α → KasT β} (hf : ∀ a, P a → AsksR N Q (f a)) : ∀ {t : KasT α}, AsksR N P t → AsksR N Q (t.bind f)
  | .ret a, h => hf a h
  | .ask i j k, h => ⟨h.1, h.2.1, fun b => AsksR.bind hf (h.2.2 b)⟩
/-- the state may change as long as C holds -/
theorem kasWp_run {α : Type} {cmp : Nat → Nat → (Bool → Shared → Prop) → Shared → Prop} {c : Nat → Nat → Bool} {N : Nat} {C : Shared → Prop} (hc : ∀ i j (Q : Bool → Shared → Prop) s, i < N → j < N → C s → (∀ s', C s' → Q (c i j) s') → cmp i j Q s) {Q : α → Shared → Prop} :
    ∀ (t : KasT α) (s : Shared), Asks N t → C s → (∀ s', C s' → Q (kRun c t) s') → t.kasWp cmp Q s
  | .ret a, s, _, h, q => q s h
  | .ask i j k, s, ha, h, q => hc i j _ s ha.1 ha.2.1 h fun s' h' => kasWp_run hc (k (c i j)) s' (ha.2.2 _) h' q

section
variable {N : Nat} {r : Nat → Int}
/-- all numbers below N, each once -/
structure Prm (N : Nat) (p : Array Nat) : Prop where
  perm : p.Perm (List.toArray (List.range N))
theorem Prm.size {p : Array Nat} (h : Prm N p) : p.size = N := by
  have := h.perm.size_eq
  simpa using this
theorem Prm.lt {p : Array Nat} (h : Prm N p) (hN : 0 < N) (i : Nat) : p.getD i 0 < N := by
  rw [Array.getD_eq_getD_getElem?]
  cases e : p[i]? with
  | none => exact hN
  | some v =>
    have m : v ∈ p := Array.mem_of_getElem? e
    have := h.perm.mem_iff.mp m
    simpa using this
theorem Prm.inj {p : Array Nat} (h : Prm N p) {i j : Nat} (hi : i < N) (hj : j < N) (e : p.getD i 0 = p.getD j 0) : i = j := by
  have hs := h.size
  have nd : p.toList.Nodup := by
    have : p.toList.Perm (List.range N) := by
      have := Array.perm_iff_toList_perm.mp h.perm
      simpa using this
    exact this.nodup_iff.mpr List.nodup_range
  rw [Array.getD_eq_getD_getElem?, Array.getD_eq_getD_getElem?, Array.getElem?_eq_getElem (by omega), Array.getElem?_eq_getElem (by omega)] at e
  have e : p[i] = p[j] := e
  have a1 : p.toList[i]'(by simpa using (by omega : i < p.size)) = p[i] := by simp
  have a2 : p.toList[j]'(by simpa using (by omega : j < p.size)) = p[j] := by simp
  have i1 : p.toList[i]? = p.toList[j]? := by
    rw [List.getElem?_eq_getElem (by simpa using (by omega : i < p.size)), List.getElem?_eq_getElem (by simpa using (by omega : j < p.size)), a1, a2, e]
  exact (List.getElem?_inj (by simpa using (by omega : i < p.size)) nd).mp i1
theorem Prm.rev {p : Array Nat} (h : Prm N p) (i j : Nat) : Prm N (kas_rev p i j) := ⟨(mirror_perm ..).trans h.perm⟩
theorem Prm.bub {p : Array Nat} (h : Prm N p) (i j : Nat) : Prm N (bubble p i j) := ⟨(bubble_perm ..).trans h.perm⟩
theorem Prm.start : Prm N (List.toArray (List.range N)) := ⟨Array.Perm.refl _⟩
def Up (r : Nat → Int) (p : Array Nat) (k : Nat) : Prop := ∀ i j, i < j → j < k → r (p.getD i 0) < r (p.getD j 0)
def Dn (r : Nat → Int) (p : Array Nat) (k : Nat) : Prop := ∀ i j, i < j → j < k → r (p.getD j 0) < r (p.getD i 0)
def Inj (N : Nat) (r : Nat → Int) : Prop := ∀ i j, i < N → j < N → r i = r j → i = j
abbrev ck (r : Nat → Int) : Nat → Nat → Bool := fun i j => decide (r i < r j)
theorem asc_step {p : Array Nat} {f n : Nat} : kRun (ck r) (kas_asc p (f + 1) n) = if r (p.getD n 0) < r (p.getD (n - 1) 0) then n else kRun (ck r) (kas_asc p f (n + 1)) := by
  show kRun (ck r) (if decide (r (p.getD n 0) < r (p.getD (n - 1) 0)) = true then .ret n else kas_asc p f (n + 1)) = _
  by_cases c : r (p.getD n 0) < r (p.getD (n - 1) 0)
  · rw [if_pos (decide_eq_true c), if_pos c]; rfl
  · rw [if_neg (by rw [decide_eq_false c]; simp), if_neg c]
theorem asc_run {p : Array Nat} (h : Prm N p) (hN : 0 < N) (hr : Inj N r) : ∀ (f n : Nat), 1 ≤ n → n + f ≤ N → Up r p n → ∃ m, kRun (ck r) (kas_asc p f n) = m ∧ n ≤ m ∧ m ≤ n + f ∧ Up r p m ∧ (m = n + f ∨ r (p.getD m 0) < r (p.getD (m - 1) 0))
  | 0, n, h1, h2, u => ⟨n, rfl, Nat.le_refl _, Nat.le_refl _, u, .inl rfl⟩
  | f + 1, n, h1, h2, u => by
    rw [asc_step]
    by_cases c : r (p.getD n 0) < r (p.getD (n - 1) 0)
    · rw [if_pos c]
      exact ⟨n, rfl, Nat.le_refl _, by omega, u, .inr c⟩
    · rw [if_neg c]
      have ne : r (p.getD n 0) ≠ r (p.getD (n - 1) 0) := fun e => by
        have := h.inj (by omega) (by omega) (hr _ _ (h.lt hN _) (h.lt hN _) e)
        omega
      have u' : Up r p (n + 1) := fun i j hij hj => by
        by_cases e : j = n
        · subst e
          by_cases e2 : i = j - 1
          · subst e2; omega
          · have := u i (j - 1) (by omega) (by omega)
            omega
        · exact u i j hij (by omega)
      obtain ⟨m, e, a, b, c, d⟩ := asc_run h hN hr f (n + 1) (by omega) (by omega) u'
      exact ⟨m, e, by omega, by omega, c, d.elim (fun d => .inl (by omega)) .inr⟩
theorem desc_step {p : Array Nat} {f n : Nat} : kRun (ck r) (kas_desc (f + 1) p n 0) = if r (p.getD n 0) < r (p.getD (n - 1) 0) then kRun (ck r) (kas_desc f p (n + 1) 0) else if r (p.getD (n - 1) 0) < r (p.getD n 0) then (p, n, 0) else kRun (ck r) (kas_desc f p (n + 1) (0 + 1)) := by
  show kRun (ck r) (if decide (r (p.getD n 0) < r (p.getD (n - 1) 0)) = true then (if 0 > 0 then kas_desc f (kas_rev p (n - (0 + 1)) n) (n + 1) 0 else kas_desc f p (n + 1) 0)
      else .ask (p.getD (n - 1) 0) (p.getD n 0) fun d => if d = true then .ret (p, n, 0) else kas_desc f p (n + 1) (0 + 1)) = _
  by_cases c : r (p.getD n 0) < r (p.getD (n - 1) 0)
  · rw [if_pos (decide_eq_true c), if_pos c, if_neg (by omega)]
  · rw [if_neg (by rw [decide_eq_false c]; simp), if_neg c]
    show kRun (ck r) (if decide (r (p.getD (n - 1) 0) < r (p.getD n 0)) = true then .ret (p, n, 0) else kas_desc f p (n + 1) (0 + 1)) = _
    by_cases d : r (p.getD (n - 1) 0) < r (p.getD n 0)
    · rw [if_pos (decide_eq_true d), if_pos d]; rfl
    · rw [if_neg (by rw [decide_eq_false d]; simp), if_neg d]
theorem desc_run {p : Array Nat} (h : Prm N p) (hN : 0 < N) (hr : Inj N r) : ∀ (f n : Nat), 1 ≤ n → n + f ≤ N → Dn r p n → ∃ m, kRun (ck r) (kas_desc f p n 0) = (p, m, 0) ∧ n ≤ m ∧ m ≤ n + f ∧ Dn r p m
  | 0, n, h1, h2, u => ⟨n, rfl, Nat.le_refl _, Nat.le_refl _, u⟩
  | f + 1, n, h1, h2, u => by
    rw [desc_step]
    by_cases c : r (p.getD n 0) < r (p.getD (n - 1) 0)
    · rw [if_pos c]
      have u' : Dn r p (n + 1) := fun i j hij hj => by
        by_cases e : j = n
        · subst e
          by_cases e2 : i = j - 1
          · subst e2; exact c
          · have := u i (j - 1) (by omega) (by omega)
            omega
        · exact u i j hij (by omega)
      obtain ⟨m, a, b, d, e⟩ := desc_run h hN hr f (n + 1) (by omega) (by omega) u'
      exact ⟨m, a, by omega, by omega, e⟩
    · rw [if_neg c]
      have ne : r (p.getD n 0) ≠ r (p.getD (n - 1) 0) := fun e => by
        have := h.inj (by omega) (by omega) (hr _ _ (h.lt hN _) (h.lt hN _) e)
        omega
      rw [if_pos (by omega)]
      exact ⟨n, rfl, Nat.le_refl _, by omega, u⟩
theorem getD_rev {p : Array Nat} {m : Nat} (hm : m ≤ p.size) (k : Nat) : (kas_rev p 0 m).getD k 0 = if k < m then p.getD (m - 1 - k) 0 else p.getD k 0 := by
  unfold kas_rev
  rw [Array.getD_eq_getD_getElem?, getElem?_mirror_all (i := 0) hm k]
  by_cases h : k < m
  · rw [if_pos ⟨Nat.zero_le _, h⟩, if_pos h, Nat.zero_add, ← Array.getD_eq_getD_getElem?]
  · rw [if_neg (fun z => h z.2), if_neg h, ← Array.getD_eq_getD_getElem?]
theorem tail3_run {p : Array Nat} {m : Nat} (h : Prm N p) (hN : 0 < N) (hr : Inj N r) (h1 : 1 ≤ m) (hm : m ≤ N) (d : Dn r p m) : ∃ q, kRun (ck r) (kas_tail3 m N p) = q ∧ 1 ≤ q.1 ∧ q.1 ≤ N ∧ Prm N q.2 ∧ Up r q.2 q.1 := by
  unfold kas_tail3
  rw [kRun_bind]
  have hs := h.size
  have u : Up r (kas_rev p 0 m) m := fun i j hij hj => by
    rw [getD_rev (by omega), getD_rev (by omega), if_pos (by omega), if_pos hj]
    exact d _ _ (by omega) (by omega)
  obtain ⟨k, e, a, b, c, _⟩ := asc_run (h.rev 0 m) hN hr (N - m) m h1 (by omega) u
  rw [e]
  exact ⟨(k, kas_rev p 0 m), rfl, by show 1 ≤ k; omega, by show k ≤ N; omega, h.rev 0 m, c⟩
theorem count_run {p : Array Nat} (h : Prm N p) (hN : 2 ≤ N) (hr : Inj N r) : ∃ q, kRun (ck r) (kas_count N p) = q ∧ 1 ≤ q.1 ∧ q.1 ≤ N ∧ Prm N q.2 ∧ Up r q.2 q.1 := by
  unfold kas_count
  rw [kRun_bind]
  obtain ⟨m, e0, a, b, c, d⟩ := asc_run h (by omega) hr (N - 1) 1 (by omega) (by omega) (fun i j _ _ => by omega)
  rw [e0]
  by_cases e : m = N
  · rw [if_pos (by simpa using e)]
    exact ⟨(m, p), rfl, a, by show m ≤ N; omega, h, c⟩
  · rw [if_neg (by simpa using e)]
    by_cases e2 : m > 1
    · rw [if_pos e2]
      refine ⟨(m, p), ?_, a, by show m ≤ N; omega, h, c⟩
      show kRun (ck r) (if decide (r (p.getD 0 0) < r (p.getD (m - 1) 0)) = true then .ret (m, p) else kas_descPart m N (kas_rev p 0 m)) = _
      rw [if_pos (decide_eq_true (c 0 (m - 1) (by omega) (by omega)))]
      rfl
    · rw [if_neg e2]
      have e3 : m = 1 := by omega
      subst e3
      have d : r (p.getD 1 0) < r (p.getD 0 0) := by
        rcases d with d | d
        · omega
        · exact d
      unfold kas_descPart
      rw [kRun_bind]
      obtain ⟨m, e1, b1, b2, b3⟩ := desc_run h (by omega) hr (N - (1 + 1)) (1 + 1) (by omega) (by omega) (fun i j hij hj => by
        have i0 : i = 0 := by omega
        have j1 : j = 1 := by omega
        rw [i0, j1]
        exact d)
      rw [e1]
      rw [if_neg (show ¬ (0 : Nat) > 0 by omega)]
      exact tail3_run (m := m) h (by omega) hr (by omega) (by omega) b3
theorem place_step {p : Array Nat} {k f l b : Nat} : kRun (ck r) (kas_place p k (f + 1) l b) = if l ≥ b then l else if r (p.getD k 0) < r (p.getD ((l + b) / 2) 0) then kRun (ck r) (kas_place p k f l ((l + b) / 2)) else kRun (ck r) (kas_place p k f ((l + b) / 2 + 1) b) := by
  show kRun (ck r) (if l ≥ b then .ret l else .ask (p.getD k 0) (p.getD ((l + b) / 2) 0) fun c => if c = true then kas_place p k f l ((l + b) / 2) else kas_place p k f ((l + b) / 2 + 1) b) = _
  by_cases e : l ≥ b
  · rw [if_pos e, if_pos e]; rfl
  · rw [if_neg e, if_neg e]
    show kRun (ck r) (if decide (r (p.getD k 0) < r (p.getD ((l + b) / 2) 0)) = true then kas_place p k f l ((l + b) / 2) else kas_place p k f ((l + b) / 2 + 1) b) = _
    by_cases c : r (p.getD k 0) < r (p.getD ((l + b) / 2) 0)
    · rw [if_pos (decide_eq_true c), if_pos c]
    · rw [if_neg (by rw [decide_eq_false c]; simp), if_neg c]
theorem place_run {p : Array Nat} {k : Nat} (h : Prm N p) (hr : Inj N r) (hk : k < N) (u : Up r p k) : ∀ (f l b : Nat), b ≤ k → b - l ≤ f → l ≤ b → (∀ i, i < l → r (p.getD i 0) < r (p.getD k 0)) → (∀ i, b ≤ i → i < k → r (p.getD k 0) < r (p.getD i 0)) →
    ∃ m, kRun (ck r) (kas_place p k f l b) = m ∧ m ≤ k ∧ (∀ i, i < m → r (p.getD i 0) < r (p.getD k 0)) ∧ ∀ i, m ≤ i → i < k → r (p.getD k 0) < r (p.getD i 0)
  | 0, l, b, hb, hf, hl, lo, hi => ⟨l, rfl, by omega, lo, fun i h1 h2 => hi i (by omega) h2⟩
  | f + 1, l, b, hb, hf, hl, lo, hi => by
    rw [place_step]
    by_cases e : l ≥ b
    · rw [if_pos e]
      exact ⟨l, rfl, by omega, lo, fun i h1 h2 => hi i (by omega) h2⟩
    · rw [if_neg e]
      have hN : 0 < N := by omega
      by_cases c : r (p.getD k 0) < r (p.getD ((l + b) / 2) 0)
      · rw [if_pos c]
        refine place_run h hr hk u f l ((l + b) / 2) (by omega) (by omega) (by omega) lo fun i h1 h2 => ?_
        by_cases e2 : i = (l + b) / 2
        · subst e2; exact c
        · have := u ((l + b) / 2) i (by omega) h2
          omega
      · rw [if_neg c]
        have ne : r (p.getD k 0) ≠ r (p.getD ((l + b) / 2) 0) := fun z => by
          have := h.inj hk (by omega) (hr _ _ (h.lt hN _) (h.lt hN _) z)
          omega
        refine place_run h hr hk u f ((l + b) / 2 + 1) b hb (by omega) (by omega) (fun i h1 => ?_) hi
        by_cases e2 : i = (l + b) / 2
        · subst e2; omega
        · have := u i ((l + b) / 2) (by omega) (by omega)
          omega
theorem getD_bub {p : Array Nat} {k d : Nat} (hk : k < p.size) (hd : d ≤ k) (i : Nat) : (bubble p k d).getD i 0 = if i = k - d then p.getD k 0 else if k - d < i ∧ i ≤ k then p.getD (i - 1) 0 else p.getD i 0 := by
  rw [Array.getD_eq_getD_getElem?, getElem?_bubble hk d hd i]
  by_cases h1 : i = k - d
  · rw [if_pos h1, if_pos h1, ← Array.getD_eq_getD_getElem?]
  · rw [if_neg h1, if_neg h1]
    by_cases h2 : k - d < i ∧ i ≤ k
    · rw [if_pos h2, if_pos h2, ← Array.getD_eq_getD_getElem?]
    · rw [if_neg h2, if_neg h2, ← Array.getD_eq_getD_getElem?]
theorem bin_run (hr : Inj N r) : ∀ (f k : Nat) (p : Array Nat), Prm N p → k + f ≤ N → Up r p k → ∃ q, kRun (ck r) (kas_bin f p k) = q ∧ Prm N q ∧ Up r q (k + f)
  | 0, k, p, h, _, u => ⟨p, rfl, h, u⟩
  | f + 1, k, p, h, hk, u => by
    have hs := h.size
    show ∃ q, kRun (ck r) ((kas_place p k k 0 k).bind fun l => kas_bin f (bubble p k (k - l)) (k + 1)) = q ∧ Prm N q ∧ Up r q (k + (f + 1))
    rw [kRun_bind]
    obtain ⟨l, e0, a, lo, hi⟩ := place_run h hr (by omega) u k 0 k (Nat.le_refl _) (by omega) (by omega) (fun i hi => by omega) (fun i h1 h2 => by omega)
    rw [e0]
    have u' : Up r (bubble p k (k - l)) (k + 1) := fun i j hij hj => by
      rw [getD_bub (by omega) (by omega), getD_bub (by omega) (by omega)]
      have e : k - (k - l) = l := by omega
      rw [e]
      by_cases i1 : i = l
      · rw [if_pos i1, if_neg (by omega), if_pos (by omega)]
        exact hi _ (by omega) (by omega)
      · rw [if_neg i1]
        by_cases i2 : l < i ∧ i ≤ k
        · rw [if_pos i2, if_neg (by omega), if_pos (by omega)]
          exact u _ _ (by omega) (by omega)
        · rw [if_neg i2]
          by_cases j1 : j = l
          · rw [if_pos j1]
            exact lo _ (by omega)
          · rw [if_neg j1]
            by_cases j2 : l < j ∧ j ≤ k
            · rw [if_pos j2]
              exact u _ _ (by omega) (by omega)
            · rw [if_neg j2]
              exact u _ _ hij (by omega)
    have := bin_run hr f (k + 1) _ (h.bub k (k - l)) (by omega) u'
    have e2 : k + 1 + f = k + (f + 1) := by omega
    rw [e2] at this
    exact this
theorem sort_run (hN : 2 ≤ N) (hr : Inj N r) : Prm N (kRun (ck r) (kas_sort N)) ∧ Up r (kRun (ck r) (kas_sort N)) N := by
  unfold kas_sort
  rw [kRun_bind]
  obtain ⟨t, e0, a, b, c, d⟩ := count_run (Prm.start (N := N)) hN hr
  rw [e0]
  by_cases e : t.1 < N
  · rw [if_pos e]
    have m : max t.1 1 = t.1 := by omega
    rw [m]
    obtain ⟨q, e1, q1, q2⟩ := bin_run hr (N - t.1) t.1 t.2 c (by omega) d
    rw [e1]
    rw [show t.1 + (N - t.1) = N by omega] at q2
    exact ⟨q1, q2⟩
  · rw [if_neg e]
    have : t.1 = N := by omega
    rw [this] at d
    exact ⟨c, d⟩
theorem asc_asks {p : Array Nat} (h : Prm N p) (hN : 0 < N) : ∀ (f n : Nat), AsksR N (fun _ => True) (kas_asc p f n)
  | 0, _ => trivial
  | f + 1, n => ⟨h.lt hN _, h.lt hN _, fun b => by
    show AsksR N _ (if b = true then .ret n else kas_asc p f (n + 1))
    split
    · trivial
    · exact asc_asks h hN f (n + 1)⟩
theorem desc_asks (hN : 0 < N) : ∀ (f n q : Nat) (p : Array Nat), Prm N p → AsksR N (fun t => Prm N t.1) (kas_desc f p n q)
  | 0, n, q, p, h => h
  | f + 1, n, q, p, h => ⟨h.lt hN _, h.lt hN _, fun b => by
    show AsksR N _ (if b = true then (if q > 0 then kas_desc f (kas_rev p (n - (q + 1)) n) (n + 1) 0 else kas_desc f p (n + 1) 0)
      else .ask (p.getD (n - 1) 0) (p.getD n 0) fun d => if d = true then .ret (p, n, q) else kas_desc f p (n + 1) (q + 1))
    split
    · split
      · exact desc_asks hN f _ _ _ (h.rev _ _)
      · exact desc_asks hN f _ _ _ h
    · refine ⟨h.lt hN _, h.lt hN _, fun d => ?_⟩
      show AsksR N _ (if d = true then .ret (p, n, q) else kas_desc f p (n + 1) (q + 1))
      split
      · exact h
      · exact desc_asks hN f _ _ _ h⟩
theorem tail3_asks {p : Array Nat} {n m : Nat} (h : Prm N p) (hN : 0 < N) : AsksR N (fun t : Nat × Array Nat => Prm N t.2) (kas_tail3 n m p) := by
  unfold kas_tail3
  refine AsksR.bind (P := fun _ => True) (fun k _ => ?_) (asc_asks (h.rev 0 n) hN _ _)
  exact h.rev 0 n
theorem descPart_asks {p : Array Nat} {n m : Nat} (h : Prm N p) (hN : 0 < N) : AsksR N (fun t => Prm N t.2) (kas_descPart n m p) := by
  refine AsksR.bind (fun t ht => ?_) (desc_asks hN _ _ _ p h)
  split
  · exact tail3_asks (ht.rev _ _) hN
  · exact tail3_asks ht hN
theorem count_asks {p : Array Nat} {m : Nat} (h : Prm N p) (hN : 0 < N) : AsksR N (fun t => Prm N t.2) (kas_count m p) := by
  refine AsksR.bind (fun n _ => ?_) (asc_asks h hN _ _)
  split
  · exact h
  · split
    · refine ⟨h.lt hN _, h.lt hN _, fun b => ?_⟩
      show AsksR N _ (if b = true then .ret (n, p) else kas_descPart n m (kas_rev p 0 n))
      split
      · exact h
      · exact descPart_asks (h.rev 0 n) hN
    · exact descPart_asks h hN
theorem place_asks {p : Array Nat} {k : Nat} (h : Prm N p) (hN : 0 < N) : ∀ (f l b : Nat), AsksR N (fun _ => True) (kas_place p k f l b)
  | 0, _, _ => trivial
  | f + 1, l, b => by
    show AsksR N _ (if l ≥ b then .ret l else .ask (p.getD k 0) (p.getD ((l + b) / 2) 0) fun c => if c = true then kas_place p k f l ((l + b) / 2) else kas_place p k f ((l + b) / 2 + 1) b)
    split
    · trivial
    · refine ⟨h.lt hN _, h.lt hN _, fun c => ?_⟩
      show AsksR N _ (if c = true then kas_place p k f l ((l + b) / 2) else kas_place p k f ((l + b) / 2 + 1) b)
      split
      · exact place_asks h hN f _ _
      · exact place_asks h hN f _ _
theorem bin_asks (hN : 0 < N) : ∀ (f k : Nat) (p : Array Nat), Prm N p → AsksR N (fun t => Prm N t) (kas_bin f p k)
  | 0, _, p, h => h
  | f + 1, k, p, h => AsksR.bind (fun l _ => bin_asks hN f (k + 1) _ (h.bub _ _)) (place_asks h hN _ _ _)
theorem sort_asks (hN : 0 < N) : Asks N (kas_sort N) := by
  refine AsksR.asks (P := fun t => Prm N t) (AsksR.bind (fun t ht => ?_) (count_asks Prm.start hN))
  split
  · exact bin_asks hN _ _ _ ht
  · exact ht
end
end L2

namespace L2
open PySem PySem.Spec PyProof.Rows PySem.W

/-- what the module's names say of the built-ins' module -/
def Bm (mg : Str → Option Value) (h : Heap) : Prop :=
  ∃ bm ob, mg "__builtins__" = some (.ref bm) ∧ bm ≠ builtinsNs ∧ h.get? bm = some ob ∧ ob.cls = .type "module" ∧ ob.dict = some builtinsNs ∧ ob.data = .plain
theorem among_snoc {pos pos' : Pos} {c v : Value} (l : List Value) (h : TriplesOk l) (e : codeAmong pos' (l ++ [rawInt pos.line, rawInt pos.col, c]) = some v) : codeAmong pos' l = some v ∨ v = c := by
  fun_induction TriplesOk l with
  | case1 =>
    simp only [List.nil_append, codeAmong, rawInt] at e
    split at e
    · cases e; exact .inr rfl
    · cases e
  | case2 a t b u d rest ih =>
    simp only [List.cons_append, codeAmong] at e ⊢
    split
    · rename_i q
      rw [if_pos q] at e
      exact .inl e
    · rename_i q
      rw [if_neg q] at e
      exact ih h e
  | case3 => exact h.elim

section
variable {X : Cx} {pins : List (Addr × Obj)} {σ : St} {H : Hp} {s : Shared} {scope : Scope} {ts : List Str} {cs : List Nat}
/-- the lambda's function object -/
def LamO (X : Cx) (q : Addr) (params : Arguments) (body : Expr) (scope : Scope) (c' : Addr) (ctv : Value) : HO :=
  .ext fun h => h.get? q = some (kla_obj "<lambda>" (X.env.qual ++ "<lambda>") params body scope (closGo X.env.cells scope.names []) ((X.mg "__name__").getD .none) c' ctv)
theorem lam_make {M : Model} {E : Value → Shared → Prop} {Q : Value → Shared → Prop} {params : Arguments} {body : Expr} {pos : Pos} {c P : Addr} (I : Inv X pins σ H s) (O : CompOk X scope ts cs)
    (hcode : X.env.code = .ref c) (C : CodeHd X.base c P) (B : Bm X.mg X.base) (hP : H P = some (.ctab (X.env.qual ++ "<lambda>"))) (hdef : defaultsOf params X.env = ([], []))
    (h : ∀ q c' ctv H' s', Inv X pins σ H' s' → Same H H' → H q = none → H' q = some (LamO X q params body scope c' ctv) → H' c' = some (.cod (X.env.qual ++ "<lambda>")) → Q (.ref q) s') :
    wpAny M X.A (eval (.Lambda params body scope pos) X.env) Q E s := by
  refine kla_eval hdef ?_
  obtain ⟨ps, eP, tr, al⟩ := I.hok P _ hP
  have hg : s.heap.Ns mainGlobals X.mg := I.ok.mod.glob.keeps I.bk
  have C' : CodeHd s.heap c P := C.keeps I.bk
  have nP : ∀ b o, X.base.get? b = some o → b ≠ P := fun b o e z => by
    have q := (I.bs b o e).2
    rw [z, hP] at q
    cases q
  have hgP : mainGlobals ≠ P := by
    obtain ⟨o, es, ep, e, _⟩ := I.ok.mod.glob
    exact nP _ _ e
  have hb : s.heap.BuiltinsAt X.mg P := by
    obtain ⟨bm, ob, b1, b2, b3, b4, b5, b6⟩ := B
    refine ⟨bm, ob, b1, b2, fun q => ?_, nP _ _ b3, I.bk _ _ b3, b4, b5, b6⟩
    obtain ⟨o, es, ep, e, hd, _⟩ := I.ok.mod.glob
    rw [q, e] at b3
    cases b3
    rw [hd] at b6
    cases b6
  have hcl := O.clos I
  cases hn : codeAmong pos ps.toList with
  | none =>
    refine kla_makeFunction (mg := X.mg) hcl I.ok.glob hg hcode C' eP tr hn hgP hb fun c' ctv h' tk hx hge hlt hrec htb => ?_
    have hc0 : H c' = none := I.hok.fresh hge
    have hq0 : H h'.objs.size = none := I.hok.fresh (Nat.le_trans hge (Nat.le_of_lt hlt))
    have ncq : c' ≠ h'.objs.size := Nat.ne_of_lt hlt
    have hcP : c' ≠ P := fun z => by rw [z, hP] at hc0; cases hc0
    generalize hf : (kla_obj "<lambda>" (X.env.qual ++ "<lambda>") params body scope (closGo X.env.cells scope.names []) ((X.mg "__name__").getD .none) c' ctv) = fo
    have sm : Same H (upd (upd H c' (.cod (X.env.qual ++ "<lambda>"))) h'.objs.size (LamO X h'.objs.size params body scope c' ctv)) := fun b u e => by
      rw [upd_ne (ne_of_none e hq0), upd_ne (ne_of_none e hc0)]; exact e
    have keep : ∀ b o, b ≠ P → s.heap.get? b = some o → (h'.push fo).get? b = some o := fun b o hb e => Heap.get?_push_of_some _ (hx b o hb e)
    have nb : ∀ b, H b = none → b ≠ P := fun b n z => by rw [z, hP] at n; cases n
    have hq : (h'.push fo).get? h'.objs.size = some fo := Heap.get?_push_size _ (by rw [← hf]; rfl)
    have hokN : HOk X.prog X.w (upd (upd H c' (.cod (X.env.qual ++ "<lambda>"))) h'.objs.size (LamO X h'.objs.size params body scope c' ctv)) (h'.push fo) := by
      intro b u e
      by_cases hbq : b = h'.objs.size
      · subst hbq
        rw [upd_same] at e
        cases e
        refine ⟨?_, ⟨_, hq⟩, fun h1 h2 e1 k => k _ e1⟩
        exact hq.trans (congrArg some hf.symm)
      · rw [upd_ne hbq] at e
        by_cases hbc : b = c'
        · subst hbc
          rw [upd_same] at e
          cases e
          exact hrec.push _
        · rw [upd_ne hbc] at e
          by_cases hbP : b = P
          · subst hbP
            rw [hP] at e
            cases e
            refine ⟨_, Heap.get?_push_of_some _ htb, ?_, fun pos' v z => ?_⟩
            · rw [Array.toList_append]
              exact TriplesOk_snoc _ _ _ _ tr
            · rw [Array.toList_append] at z
              rcases among_snoc _ tr z with z | z
              · obtain ⟨c2, e1, e2⟩ := al pos' v z
                exact ⟨c2, e1, sm _ _ e2⟩
              · exact ⟨c', z, by rw [upd_ne ncq, upd_same]⟩
          · refine (I.hok b u e).stay (fun c2 v hc2 q => keep c2 v ?_ q) (fun c2 q => sm _ _ q) (fun c2 xs q => sm _ _ q) fun c2 xs q => sm _ _ q
            rcases hc2 with z | z
            · rw [z]; exact hbP
            · intro z2
              rw [z2, hP] at z
              cases z
    refine h _ c' ctv _ _ (I.un (t' := tk) (h' := h'.push fo) ⟨fun b o e n _ _ => keep b o (nb b n) e, fun b o e n _ _ => ⟨o.slots, keep b o (nb b n) e⟩, fun b o e n _ => ?_, fun b o e _ => ?_, fun b xs e => sm _ _ e, fun b o u e => sm _ _ e, fun b ps e => ⟨#[], by rw [sm _ _ e]; simp⟩⟩ hokN) sm hq0 upd_same (by rw [upd_ne ncq, upd_same])
    · have l := Heap.lt_size e
      rw [upd_ne (Nat.ne_of_lt (Nat.lt_of_lt_of_le l (Nat.le_trans hge (Nat.le_of_lt hlt)))), upd_ne (Nat.ne_of_lt (Nat.lt_of_lt_of_le l hge))]
      exact n
    · by_cases hb : b = P
      · exact ⟨_, by rw [hb]; exact Heap.get?_push_of_some _ htb⟩
      · exact ⟨o, keep b o hb e⟩
  | some cv =>
    obtain ⟨c', rfl, hc'⟩ := al pos cv hn
    refine kla_makeFunctionHit (mg := X.mg) hcl I.ok.glob hg hcode C' eP tr hn hb fun ctv h' tk hk hsz => ?_
    have hq0 : H h'.objs.size = none := I.hok.fresh hsz
    have sm : Same H (upd H h'.objs.size (LamO X h'.objs.size params body scope c' ctv)) := Same.upd_new hq0
    refine h _ c' ctv _ _ (I.laid (t' := tk) (fun b o e => Heap.get?_push_of_some _ (hk b o e)) hsz ?_) sm hq0 upd_same (sm _ _ hc')
    exact ⟨Heap.get?_push_size _ rfl, ⟨_, Heap.get?_push_size _ rfl⟩, fun h1 h2 e1 k => k _ e1⟩

/-- the lambda's body running -/
def cxLam (X : Cx) (A' : Around) (qual : Str) (scope : Scope) (x : Str) (cs : List Nat) (f : Addr) (cd : Value) (s : Shared) (H : Hp) : Cx where
  prog := X.prog
  w := X.w
  K := X.K
  mg := X.mg
  base := X.base
  A := A'.deeper (envX qual scope s.heap.objs.size f cd (closGo X.env.cells scope.names []))
  N := capN X.N [x] cs
  s₀ := s
  H₀ := H
  env := envX qual scope s.heap.objs.size f cd (closGo X.env.cells scope.names [])
  outer := X.stack
  stack := envX qual scope s.heap.objs.size f cd (closGo X.env.cells scope.names []) :: X.stack
  ex := []
  fn := fun _ => false
  calm := true
  pn := []
  xe := fun _ _ => False
def capL (v : V) (σ : St) (cs : List Nat) : St := some v :: cs.map fun i => σ.getD i none
theorem lam_start {A' : Around} {qual : Str} {x : Str} {f : Addr} {cd : Value} {h1 : Heap} {tk : Nat} {v : V} {u : Value} (O : CompOk X scope [x] cs) (I : Inv X pins σ H s) (hd : A'.handled = none) (hA : A'.frames = X.A.frames)
    (hn : h1.Ns s.heap.objs.size (fun y => [(x, u)].reverse.lookup y)) (old : ∀ b o, s.heap.get? b = some o → h1.get? b = some o) (r : RelV v u) :
    Inv (cxLam X A' qual scope x cs f cd s H) [] (capL v σ cs) H { s with heap := h1, toks := tk } := by
  have hx : scope.names.lookup x = some .local := O.tgt x (List.mem_singleton.mpr rfl)
  have nof : ∀ b, b ∉ (cxLam X A' qual scope x cs f cd s H).ex := fun b z => nomatch z
  have ok : (cxLam X A' qual scope x cs f cd s H).Ok :=
    { mod := I.ok.mod, kind := O.kind, glob := rfl, blt := rfl, above := Nat.le_refl _
      inj := fun x y c h1 h2 => I.ok.inj x y c (closGo_lookup h1) (closGo_lookup h2)
      has := fun y hy => by
        have hy : scope.names.lookup y = some .cell ∨ scope.names.lookup y = some .free := hy
        rcases hy with hy | hy
        · exact absurd rfl (O.nocell _ (PySem.mem_of_lookup hy))
        · have m := PySem.mem_of_lookup hy
          obtain ⟨c, hc⟩ := I.ok.has y (O.fre _ m rfl)
          exact ⟨c, closGo_has hc m⟩
      cab := fun _ _ h => nomatch h
      hd := fun _ => hd
      frames := Around.frames_deeper (hA.trans I.ok.frames)
      stk := .inr ⟨rfl, rfl⟩
      exf := fun b z => nomatch z
      bs := I.bs
      bsz := Nat.le_trans I.ok.bsz I.sz
      noex := fun b _ _ => nof b
      exfs := fun b z => nomatch z
      funs := I.stack
      frf := I.stkFree }
  refine ⟨ok, rfl, I.bare, Un.kept old, ⟨_, hn, fun i y w e1 e2 e3 => ?_⟩, fun y c h => ?_, I.hok.fresh (Nat.le_refl _), fun y c h => I.freeC y c (closGo_lookup h), fun p hp => absurd (show p ∈ ([] : List (Addr × Obj)) from hp) (by simp), I.hok.kept old, ?_⟩
  · have e1 : (capN X.N [x] cs)[i]? = some y := e1
    cases i with
    | zero =>
      have e1 : x = y := by simpa [capN] using e1
      have e2 : v = w := by simpa [capL] using e2
      subst e1; subst e2
      exact ⟨u, r, .inl ⟨hx, by simp⟩⟩
    | succ i =>
      have e1 : (cs.map fun i => X.N.getD i "")[i]? = some y := by simpa [capN] using e1
      have e2 : (cs.map fun i => σ.getD i none)[i]? = some (some w) := by simpa [capL] using e2
      rw [List.getElem?_map] at e1 e2
      cases q : cs[i]? with
      | none => rw [q] at e1; cases e1
      | some j =>
        rw [q] at e1 e2
        have e1 : X.N.getD j "" = y := Option.some.inj e1
        have e2 : σ.getD j none = some w := Option.some.inj e2
        obtain ⟨y', n1, n2, n3⟩ := O.cap j (List.mem_of_getElem? q)
        have ey : y' = y := n2.symm.trans e1
        subst ey
        have e2' : σ[j]? = some (some w) := by
          rw [List.getD_eq_getElem?_getD] at e2
          cases z : σ[j]? with
          | none => rw [z] at e2; cases e2
          | some z2 => rw [z] at e2; rw [show z2 = some w from e2]
        obtain ⟨m, _, hl⟩ := I.loc
        have m3 := PySem.mem_of_lookup n3
        have kn := O.fre _ m3 rfl
        obtain ⟨u2, r2, lk⟩ := hl j y' w n1 e2' (kn.elim (fun z => .inr (.inl z)) fun z => .inr (.inr z))
        refine ⟨u2, r2, .inr ⟨.inr n3, ?_⟩⟩
        rcases lk with ⟨k, _⟩ | ⟨_, c, hc, hv⟩
        · rcases kn with z | z
          · rw [k] at z; cases z
          · rw [k] at z; cases z
        · obtain ⟨o, ho, hd⟩ := hv
          exact ⟨c, closGo_has hc m3, ⟨o, old _ _ ho, hd⟩⟩
  · obtain ⟨v2, o, ho, hd⟩ := I.cell y c (closGo_lookup h)
    exact ⟨v2, o, old _ _ ho, hd⟩
  · show (capL v σ cs).length = (capN X.N [x] cs).length
    simp [capL, capN]
/-- a lambda of one parameter is called -/
theorem lam_call {A' : Around} {E : Value → Shared → Prop} {x : Str} {q c' : Addr} {params : Arguments} {body : Expr} {ctv u : Value} {v : V} {te : TE} {Q : VK} (O : CompOk X scope [x] cs) (I : Inv X pins σ H s) (hd : A'.handled = none) (hA : A'.frames = X.A.frames) (room : A'.depth < recursionLimit)
    (hq : H q = some (LamO X q params body scope c' ctv)) (hc : H c' = some (.cod (X.env.qual ++ "<lambda>"))) (r : RelV v u)
    (hbind : ∀ fd : FuncData, fd.params = params → fd.defaults = .none → fd.kwdefaults = .none → bindArgs fd ⟨[u], []⟩ = pure [(x, u)])
    (hco : scope.isCoroutine = false) (hgen : scope.isGenerator = false)
    (he : ∀ cd s H, PE (cxLam X A' (X.env.qual ++ "<lambda>") scope x cs q cd s H) body te) (h : te (capL v σ cs) H Q) :
    wpAny (model X.prog X.w) A' (call (.ref q) [u]) (EP X pins σ Q) E s := by
  refine wpAny_call ?_
  obtain ⟨eq, _⟩ := I.hok q _ hq
  have hcd : s.heap.CodeRec (.ref c') (X.env.qual ++ "<lambda>") := I.hok c' _ hc
  refine kla_callFunE room eq rfl hco hgen rfl hcd ?_
  rw [hbind _ rfl rfl rfl]
  refine wpAny_pure (wpAny_newFunctionEnv O.nocell (fun y hy => by rw [List.mem_singleton.mp hy]; exact O.tgt x (List.mem_singleton.mpr rfl)) (fun h₁ hns hsb => ⟨?_, ?_⟩) O.kind)
  · exact (I.nolimit).fresh _ hsb
  · have old : ∀ b o, s.heap.get? b = some o → h₁.get? b = some o := fun b o e => hsb.extBut b o (Nat.ne_of_lt (Heap.lt_size e)) (Heap.get?_push_of_some _ e)
    have J := lam_start (A' := A') (qual := X.env.qual ++ "<lambda>") (f := q) (cd := .ref c') (tk := s.toks + [(x, u)].length) O I hd hA hns old r
    refine kla_codeExpr ?_
    refine wpAny_mono (he (.ref c') s H [] _ _ H Q J h) (fun w' s' hw => ?_) fun _ _ z => z.elim
    obtain ⟨v', H', J', rv, q'⟩ := hw
    exact ⟨v', H', I.call' (ch := []) J'.os J'.base J'.hok J'.bare (fun b z => absurd z (by simp)), rv, q'⟩
end
end L2

namespace L2
open PySem PySem.Spec PyProof.Rows PySem.W

section
variable {prog : Program} {w : World} {A : Around} {E : Value → Shared → Prop} {s : Shared}
theorem collect_range {r : Addr} {a b c : Int} {t u v : Tok} {n : Nat} {Q : List Value → Shared → Prop} (hh : A.handled = none) (hr : IsRange s.heap r a b c t u v) (hsmall : Builtin.Range.small a b c = true) (hn : Builtin.Range.rangeSize a b c = n) (hlen : n ≤ 2 ^ 24)
    (h : ∀ h' tk (acc : Array Value), (∀ b o, s.heap.get? b = some o → h'.get? b = some o) → ItemsOf (fun i v => ∃ t, v = .int (a + i * c) t) acc n → Q acc.toList { s with heap := h', toks := tk }) :
    wpAny (model prog w) A (collect (.ref r)) Q E s := by
  unfold collect
  refine wpAny_bind (wpAny_runValue (codeAny_builtin entry_proto_collect' ?_))
  show wpAny _ _ (do again (.builtin "list.__iadd__" ⟨[← newList [], .ref r], []⟩)) _ _ s
  refine wpAny_bind (wpAny_newList (wpAny_pure ⟨Code.quiet_builtin _ (by decide +kernel), codeAny_builtin entry_list_iadd' ?_⟩))
  refine wpAny_extend_range (A := A) (R := fun r s' => match r with | .ok (.ret v) => wpAny (model prog w) A (match v with | .ref a => (do match (← load a).data with | .seq xs _ => pure xs.toList | _ => unsupported "internal:collect") | _ => unsupported "internal:collect") Q E s' | .ok _ => False | .error e => E e s') (s := { s with heap := s.heap.push (seqObj "list" #[] 0) }) hh (Heap.get?_push_of_some _ hr) hsmall hn hlen s.heap.objs.size _ 0 (Heap.get?_push_size _ rfl) fun h' tk acc c' hk hS hit => ?_
  refine wpAny_bind (wpAny_load hS ?_)
  exact wpAny_pure (h h' tk acc (fun b o e => hk b o (Nat.ne_of_lt (Heap.lt_size e)) (Heap.get?_push_of_some _ e)) hit)

theorem ints_of_vals : ∀ {ns : List Int} {us : List Value}, Vals (ns.map V.int) us → IntsAre us ns
  | [], _, .nil => .nil
  | n :: ns, _, .cons r t => by
    obtain ⟨tk, rfl⟩ := r
    exact .cons n tk (ints_of_vals t)
theorem lex_ask {b fin : Bool} {Q : Bool → Shared → Prop} : ∀ {xs ys : List Int} {us vs : List Value} {i : Nat}, IntsAre us xs → IntsAre vs ys → fin = decide (xs.length < ys.length) → Q (HT.lexLt xs ys) s → KatLex prog w A b fin Q (us.zip vs) i s
  | _, _, _, _, _, .nil, .nil, hf, h => by
    subst hf
    exact kat_nil h
  | _, _, _, _, _, .nil, .cons _ _ _, hf, h => by
    subst hf
    rw [List.zip_nil_left]
    exact kat_nil (by simpa [HT.lexLt] using h)
  | _, _, _, _, _, .cons _ _ _, .nil, hf, h => by
    subst hf
    rw [List.zip_nil_right]
    exact kat_nil (by simpa [HT.lexLt] using h)
  | _, _, _, _, i, .cons (ns := xs) x t hx, .cons (ns := ys) y u hy, hf, h => by
    rw [List.zip_cons_cons]
    rw [HT.lexLt_cons] at h
    refine kat_cons (wpAny_eqBool_int (kat_go (fun e => ?_) fun e => ?_))
    · have e : x = y := by simpa using e
      rw [if_pos e] at h
      exact kat_yes (lex_ask hx hy (by rw [hf]; simp) h)
    · have e : x ≠ y := by simpa using e
      rw [if_neg e] at h
      refine kat_no ?_
      cases (b && i == 0) with
      | true => exact oneLt_int h
      | false => exact kat_one _ _ (PyProof.Rows.lt_int h)
theorem tup_ask {b : Bool} {Q : Bool → Shared → Prop} {x y : Addr} {us vs : List Value} {xs ys : List Int} (hx : IsTup s.heap x us.toArray) (hy : IsTup s.heap y vs.toArray) (ix : IntsAre us xs) (iy : IntsAre vs ys) (h : Q (HT.lexLt xs ys) s) :
    wpAny (model prog w) A (keyLt' (tuples' b) (.ref x) (.ref y)) Q E s := by
  obtain ⟨ox, ex, _, nx, dx⟩ := hx
  obtain ⟨oy, ey, _, ny, dy⟩ := hy
  refine kat_lt ex dx ey dy ?_
  exact lex_ask ix iy (by rw [List.size_toArray, List.size_toArray, ix.length, iy.length]) h

/-- what the keys are -/
def Keys (h : Heap) (ks : List Value) (kl : Nat → List Int) : Prop := ∀ i, i < ks.length → ∃ a its, ks.getD i .none = .ref a ∧ IsTup h a its.toArray ∧ IntsAre its (kl i) ∧ kl i ≠ []
theorem keys_tups {h : Heap} : ∀ {ks : List Value} {kl : Nat → List Int}, Keys h ks kl → ∃ fs, KatTups h ks fs ∧ fs.length = ks.length ∧ ∀ f ∈ fs, ∃ n t, f = .int n t
  | [], _, _ => ⟨[], .nil, rfl, fun _ z => nomatch z⟩
  | k :: ks, kl, H => by
    obtain ⟨fs, t, hl, hf⟩ := keys_tups (ks := ks) (kl := fun i => kl (i + 1)) fun i hi => by
      obtain ⟨a, its, e, r⟩ := H (i + 1) (by simp; omega)
      exact ⟨a, its, by simpa using e, r⟩
    obtain ⟨a, its, e, ⟨o, ho, hc, n, hd⟩, hi, hn⟩ := H 0 (by simp)
    have e : k = .ref a := by simpa using e
    subst e
    generalize kl 0 = l0 at hi hn
    cases hi with
    | nil => exact absurd rfl hn
    | cons m tk r =>
      exact ⟨.int m tk :: fs, .cons ho hc hd (by simp) t, by simp [hl], fun f hm => (List.mem_cons.mp hm).elim (fun z => ⟨m, tk, z⟩) (hf f)⟩

theorem up_pairs {r : Nat → Int} {N : Nat} {p : Array Nat} (hp : Prm N p) (u : Up r p N) : p.toList.Perm (List.range N) ∧ p.toList.Pairwise fun i j => r i < r j := by
  refine ⟨by simpa using Array.perm_iff_toList_perm.mp hp.perm, ?_⟩
  rw [List.pairwise_iff_getElem]
  intro i j hi hj hij
  have hs := hp.size
  have hi' : i < p.size := by simpa using hi
  have hj' : j < p.size := by simpa using hj
  have q := u i j hij (by omega)
  have e1 : p.getD i 0 = p[i] := by simp [Array.getD, hi']
  have e2 : p.getD j 0 = p[j] := by simp [Array.getD, hj']
  rw [e1, e2] at q
  simpa using q

/-- the sort itself -/
theorem end_any {ks vs : List Value} {kl : Nat → List Int} {r : Nat → Int} {a : Addr} {e1 : Nat} {kS : Value} {P : PySem.Fin → Shared → Prop} (hl : ks.length = vs.length) (h64 : vs.length < 64) (hk : Keys s.heap ks kl)
    (hr : ∀ i j, i < vs.length → j < vs.length → HT.lexLt (kl i) (kl j) = decide (r i < r j)) (hi : Inj vs.length r)
    (h : ∀ (st : SortSt) (os : List Nat), os.Perm (List.range vs.length) → os.Pairwise (fun i j => r i < r j) → (arrOf st).map (·.2) = List.toArray (os.map fun i => vs.getD i .none) → failedOf st = none → wpAny (model prog w) A (ksk_tail a false e1 kS st) P E s) :
    wpAny (model prog w) A (ksk_end a false vs.toArray e1 kS ks.toArray) P E s := by
  unfold ksk_end
  simp only [Bool.false_eq_true, if_false]
  by_cases h2 : vs.length < 2
  · have hn2 : vs.toArray.size < 2 := by rw [List.size_toArray]; exact h2
    rw [if_pos hn2, if_pos hn2]
    refine wpAny_bind (wpAny_pure (wpAny_bind (wpAny_pure ?_)))
    refine h _ (List.range vs.length) (List.Perm.refl _) ?_ ?_ rfl
    · match vs, h2 with
      | [], _ => exact .nil
      | [_], _ => exact List.pairwise_singleton _ _
      | _ :: _ :: _, h2 => simp at h2; omega
    · show (ks.toArray.zip vs.toArray).map (·.2) = _
      match ks, vs, hl, h2 with
      | [], [], _, _ => simp
      | [_], [_], _, _ => simp
      | _, _ :: _ :: _, _, h2 => simp at h2; omega
      | _ :: _ :: _, [_], hl, _ => simp at hl
  · have h2 : 2 ≤ vs.length := by omega
    have hn2 : ¬ vs.toArray.size < 2 := by rw [List.size_toArray]; omega
    rw [if_neg hn2, if_neg hn2]
    obtain ⟨fs, t, lf, hf⟩ := keys_tups hk
    refine wpAny_bind (kat_kind (T := .type "int") t (by omega) (fun v hv => ?_) rfl ?_)
    · obtain ⟨n, tk, rfl⟩ := hf v hv
      exact Looks.of_pure rfl
    · have hsr := sort_run (N := vs.length) (r := r) h2 hi
      refine wpAny_bind (wpAny_mono (kat_run (Q := fun st' s' => s' = s ∧ ∃ os : List Nat, os.Perm (List.range vs.length) ∧ os.Pairwise (fun i j => r i < r j) ∧ (arrOf st').map (·.2) = List.toArray (os.map fun i => vs.getD i .none) ∧ failedOf st' = none)
        (G := fun p s' => s' = s ∧ p = kRun (ck r) (kas_sort vs.length)) hl h2 h64 (fun p st' s' a1 a2 a3 a4 => ?_) ?_) ?_ fun _ _ z => z)
      · obtain ⟨e, rfl⟩ := a4
        obtain ⟨b1, b2⟩ := up_pairs hsr.1 hsr.2
        exact ⟨e, _, b1, b2, kat_snds hl a2, a3⟩
      · refine kasWp_run (c := ck r) (N := vs.length) (C := fun s' => s' = s) (fun i j Q s' h1 h2 hs hq => ?_) (kas_sort vs.length) s (sort_asks (by omega)) rfl fun s' hs => ⟨hs, rfl⟩
        subst hs
        unfold kas_ask
        obtain ⟨x, us, ex, tx, ix, _⟩ := hk i (by omega)
        obtain ⟨y, ws, ey, ty, iy, _⟩ := hk j (by omega)
        rw [ex, ey]
        refine tup_ask tx ty ix iy ?_
        rw [hr i j h1 h2]
        exact hq _ rfl
      · rintro ⟨⟨⟩, st'⟩ s' ⟨rfl, os, o1, o2, o3, o4⟩
        exact h st' os o1 o2 o3 o4
end

section
variable {X : Cx} {pins : List (Addr × Obj)} {σ : St} {H : Hp} {s : Shared}
/-- an object of ours that was not tracked (a pin no more) is written, and tracked from now on -/
theorem Inv.adopt {D : Addr} {h' : Heap} {o : HO} {t' : Nat} (I : Inv X pins σ H s) (hD : H D = none) (hL : D ≠ X.env.locals) (h1 : X.s₀.heap.objs.size ≤ D) (h2 : ∀ x c, X.env.cells.lookup x = some c → c ≠ D) (h3 : ∀ p ∈ X.pn ++ pins, p.1 ≠ D)
    (k : ∀ b u, b ≠ D → s.heap.get? b = some u → h'.get? b = some u) (new : ObjOk X.prog X.w (upd H D o) h' D o) : Inv X pins σ (upd H D o) { s with heap := h', toks := t' } := by
  have sm : Same H (upd H D o) := Same.upd_new hD
  have hn : ∀ b u, H b = some u → b ≠ D := fun b u e z => by rw [z, hD] at e; cases e
  refine I.step (g' := s.gens) (d' := s.drawn) (ch := [D]) (fun b hb => ?_) (fun b u _ _ hc e _ => k b u (fun z => hc (by simp [z])) e) (fun b u _ _ hc e _ => ⟨u.slots, k b u (fun z => hc (by simp [z])) e⟩) (fun b u hc e n => ?_)
    (fun b u hc e => ⟨u, k b u (fun z => hc (by simp [z])) e⟩) (fun b xs e => sm _ _ e) (fun b u xs e => sm _ _ e) (fun b ps e => ⟨#[], by rw [sm _ _ e]; simp⟩) (fun m hm => ?_) (fun b u e => ?_) I.bare
  · have e : b = D := by simpa using hb
    subst e
    exact ⟨.inr h1, hL, h2, h3⟩
  · have : b ≠ D := fun z => hc (by simp [z])
    rw [upd_ne this]
    exact n
  · obtain ⟨o', es, ep, ho, r⟩ := hm
    exact ⟨o', es, ep, k _ o' (Ne.symm hL) ho, r⟩
  · by_cases hb : b = D
    · subst hb
      rw [upd_same] at e
      cases e
      exact new
    · rw [upd_ne hb] at e
      refine (I.hok b u e).stay (fun c v hc q => k c v ?_ q) (fun _ q => sm _ _ q) (fun _ _ q => sm _ _ q) fun _ _ q => sm _ _ q
      rcases hc with z | z
      · rw [z]; exact hb
      · exact hn c _ z
end

section
variable {X : Cx} {pins : List (Addr × Obj)} {σ : St} {H : Hp} {s : Shared} {scope : Scope} {cs : List Nat} {x : Str} {q c' p : Addr} {params : Arguments} {body : Expr} {ctv : Value} {te : TE} {Q : VK} {lo hi : Int} {k : Nat → List Int} {r : Nat → Int}
theorem vals_refs : ∀ (ks : List Addr), Vals (ks.map V.ref) (ks.map Value.ref)
  | [] => .nil
  | _ :: ks => .cons rfl (vals_refs ks)
theorem vals_refs_eq : ∀ {ks : List Addr} {us : List Value}, Vals (ks.map V.ref) us → us = ks.map Value.ref
  | [], _, .nil => rfl
  | _ :: ks, _, .cons e t => by
    have e : _ = Value.ref _ := e
    rw [e, vals_refs_eq t]
    rfl
theorem vals_rng {n : Nat} {acc : Array Value} (hit : ItemsOf (fun i v => ∃ t, v = .int (lo + i * 1) t) acc n) : Vals (rngV lo n) acc.toList := by
  have hl : (rngV lo n).length = acc.toList.length := by
    unfold rngV
    rw [List.length_map, List.length_range, Array.length_toList, hit.1]
  have go : ∀ (xs : List V) (us : List Value), xs.length = us.length → (∀ (i : Nat) x u, xs[i]? = some x → us[i]? = some u → RelV x u) → Vals xs us := by
    intro xs
    induction xs with
    | nil => intro us hl _; cases us with | nil => exact .nil | cons _ _ => cases hl
    | cons x xs ih =>
      intro us hl h
      cases us with
      | nil => cases hl
      | cons u us => exact .cons (h 0 x u rfl rfl) (ih us (by simpa using hl) fun i y w e1 e2 => h (i + 1) y w (by simpa using e1) (by simpa using e2))
  refine go _ _ hl fun i x u e1 e2 => ?_
  obtain ⟨tk, rfl⟩ := hit.2 i u (by simpa using e2)
  unfold rngV at e1
  rw [List.getElem?_map] at e1
  cases z : (List.range n)[i]? with
  | none => rw [z] at e1; cases e1
  | some k =>
    rw [z] at e1
    have hik : i < n := by
      have := (List.getElem?_eq_some_iff.mp z).1
      simpa using this
    rw [List.getElem?_range hik] at z
    cases z
    have e1 : V.int (lo + ((i : Nat) : Int)) = x := Option.some.inj e1
    subst e1
    exact ⟨tk, by rw [Int.mul_one]⟩
theorem vals_pick {n : Nat} {vs : List Value} (h : Vals (rngV lo n) vs) : ∀ os : List Nat, (∀ i ∈ os, i < n) → Vals (os.map fun i : Nat => V.int (lo + i)) (os.map fun i => vs.getD i Value.none)
  | [], _ => .nil
  | i :: os, hm => by
    refine .cons ?_ (vals_pick h os fun j m => hm j (List.mem_cons_of_mem _ m))
    have hi := hm i List.mem_cons_self
    have e1 : (rngV lo n)[i]? = some (.int (lo + (i : Nat))) := by
      unfold rngV
      rw [List.getElem?_map, List.getElem?_range hi]
      rfl
    obtain ⟨u, e2, r2⟩ := h.get e1
    show RelV (V.int (lo + (i : Nat))) (vs.getD i Value.none)
    rw [List.getD_eq_getElem?_getD, e2]
    exact r2
theorem sortK_call (I : Inv X pins σ H s) (hcalm : X.calm = true) (room : X.A.depth < recursionLimit) (O : CompOk X scope [x] cs)
    (hp : H p = some (.rng lo hi)) (b1 : -(2 ^ 62) ≤ lo) (b2 : lo < 2 ^ 62) (b3 : -(2 ^ 62) ≤ hi) (b4 : hi < 2 ^ 62) (h64 : (hi - lo).toNat < 64)
    (hq : H q = some (LamO X q params body scope c' ctv)) (hc : H c' = some (.cod (X.env.qual ++ "<lambda>")))
    (hbind : ∀ (u : Value) (fd : FuncData), fd.params = params → fd.defaults = .none → fd.kwdefaults = .none → bindArgs fd ⟨[u], []⟩ = pure [(x, u)])
    (hco : scope.isCoroutine = false) (hgen : scope.isGenerator = false)
    (he : ∀ A' cd s H, PE (cxLam X A' (X.env.qual ++ "<lambda>") scope x cs q cd s H) body te)
    (hne : ∀ i, k i ≠ [])
    (hk : ∀ i, i < (hi - lo).toNat → ∀ H1, Same H H1 → ∀ Q' : VK, (∀ kp H2, Same H1 H2 → H1 kp = none → H2 kp = some (.tup ((k i).map V.int)) → Q' (.ref kp) H2) → te (capL (.int (lo + i)) σ cs) H1 Q')
    (hr : ∀ i j, i < (hi - lo).toNat → j < (hi - lo).toNat → HT.lexLt (k i) (k j) = decide (r i < r j)) (hinj : Inj (hi - lo).toNat r)
    (fin : ∀ D H' (os : List Nat), Same H H' → H D = none → os.Perm (List.range (hi - lo).toNat) → os.Pairwise (fun i j => r i < r j) → H' D = some (.lst (os.map fun i : Nat => V.int (lo + i))) → Q (.ref D) H') {E : Value → Shared → Prop} :
    wpAny (model X.prog X.w) X.A (call (.builtin "sorted") [.ref p] [(Str.ofString "key", .ref q)]) (EP X pins σ Q) E s := by
  obtain ⟨t, u, v, e⟩ := I.hok p _ hp
  have hn : Builtin.Range.rangeSize lo hi 1 = (((hi - lo).toNat : Nat) : Int) := by rw [rangeSize_one]; split <;> omega
  refine call_function_entry_kw kind_sorted plain_sorted entry_sorted (ksk_s1 _ _) ?_
  unfold Builtin.«sorted»
  refine wpAny_bind (m := checkCount "sorted" 1 1 _) (wpAny_pure ?_)
  refine wpAny_bind (collect_range (A := X.A.in1) (I.ok.hd hcalm) e (small_one b1 b2 b3 b4) hn (by omega) fun h0 tk acc hk0 hit => ?_)
  have lacc : acc.toList.length = (hi - lo).toNat := by rw [Array.length_toList]; exact hit.1
  refine wpAny_bind (wpAny_newList ?_ (by rw [lacc, sizeLine_eq]; omega))
  have I0 : Inv X pins σ H { s with heap := h0, toks := tk } := I.kept hk0
  have hD0 : H h0.objs.size = none := I0.hok.fresh (Nat.le_refl _)
  have hDs : X.s₀.heap.objs.size ≤ h0.objs.size := I0.sz
  have hDL : h0.objs.size ≠ X.env.locals := Nat.ne_of_gt I0.lt
  have hDc : ∀ y c, X.env.cells.lookup y = some c → c ≠ h0.objs.size := fun y c z => by
    obtain ⟨v, o, ho, _⟩ := I0.cell y c z
    exact Nat.ne_of_lt (Heap.lt_size ho)
  have hDp : ∀ p ∈ X.pn ++ pins, p.1 ≠ h0.objs.size := fun p hp => Nat.ne_of_lt (Heap.lt_size (I0.pin p hp).1)
  have hDf : h0.objs.size ∉ X.fs := I0.nofs (Nat.le_refl _)
  have hvi : Vals (rngV lo (hi - lo).toNat) acc.toList := vals_rng hit
  generalize hvs : acc.toList = vs at lacc hvi ⊢
  have ho1 : (h0.push (seqObj "list" vs.toArray 0)).get? h0.objs.size = some (seqObj "list" vs.toArray 0) := Heap.get?_push_size _ rfl
  refine wpAny_bind (wpAny_holding (wpAny_call_entry_kw slot_list_sort ⟨_, ho1, rfl⟩ entry_list_sort ?body (ksk_l1 _ _)))
  show wpAny (model X.prog X.w) X.A.in1.in1 (Builtin.«list.sort» ⟨[.ref h0.objs.size], [(Str.ofString "key", .ref q)]⟩) _ _ _
  rw [ksk_t1]
  unfold ksk_tree
  have ho2 := get?_update_seq ho1 (fun _ => (#[] : Array Value))
  generalize hep : (if ((fun _ => (#[] : Array Value)) vs.toArray).size == vs.toArray.size then 0 else 0 + 1) = e1 at ho2
  refine wpAny_bind (listItems_at ho1 rfl ?_)
  refine wpAny_bind (listUpdate_at ho1 rfl ?_ (by rw [List.size_toArray, sizeLine_eq]; omega) (Nat.zero_le _))
  refine wpAny_bind (seqEpoch_at ho2 rfl ?_)
  have I1 : Inv X pins σ H { s with heap := (h0.push (seqObj "list" vs.toArray 0)).update h0.objs.size (Obj.mapSeq fun _ => (#[] : Array Value)), toks := tk } :=
    I0.kept (t' := tk) fun b o e => ((Heap.SameBut.update _ _ _).2 b (Nat.ne_of_lt (Heap.lt_size e))).trans (Heap.get?_push_of_some _ e)
  have I2 : Inv X (pins ++ [(h0.objs.size, seqObj "list" #[] e1)]) σ H { s with heap := (h0.push (seqObj "list" vs.toArray 0)).update h0.objs.size (Obj.mapSeq fun _ => (#[] : Array Value)), toks := tk } :=
    I1.pins_of fun p hp => (List.mem_append.mp hp).elim (fun z => I1.pin p (List.mem_append_right _ z)) fun z => by
      rw [List.mem_singleton.mp z]
      exact ⟨ho2, hD0, hDL, hDf, fun v z => nomatch z⟩
  generalize hh2 : (h0.push (seqObj "list" vs.toArray 0)).update h0.objs.size (Obj.mapSeq fun _ => (#[] : Array Value)) = h2 at ho2 I1 I2 ⊢
  refine wpAny_bind (wpAny_newTuple ?_ (by show vs.length ≤ _; rw [sizeLine_eq]; omega))
  refine wpAny_bind (wpAny_newList ?_ (Nat.zero_le _))
  refine wpAny_holding ?_
  have I3 := I2.kept (t' := tk) (h' := h2.push (seqObj "tuple" vs.toArray 0)) fun b o e => Heap.get?_push_of_some _ e
  show wpAny (model X.prog X.w) X.A.in1.in1 (ksk_rest h0.objs.size (.ref q) false vs.toArray e1 (.ref (h2.push (seqObj "tuple" vs.toArray 0)).objs.size)) _ _ { s with heap := (h2.push (seqObj "tuple" vs.toArray 0)).push (seqObj "list" #[] 0), toks := tk }
  generalize hh3 : h2.push (seqObj "tuple" vs.toArray 0) = h3 at I3 ⊢
  have I4 := I3.laid (t' := tk) (h' := h3.push (seqObj "list" #[] 0)) (a := h3.objs.size) (o := .lst []) (fun b o e => Heap.get?_push_of_some _ e) (Nat.le_refl _) ⟨Nat.zero_le _, [], 0, .nil, Heap.get?_push_size _ rfl⟩
  have hS0 : H h3.objs.size = none := I3.hok.fresh (Nat.le_refl _)
  generalize h3.objs.size = kS at I4 hS0 ⊢
  generalize h0.objs.size = D at I2 I3 I4 hD0 hDs hDL hDc hDp hDf ⊢
  unfold ksk_rest
  refine wpAny_bind (wpAny_rule ?_)
  first
    | rw [List.forIn_toArray]
    | (rw [← Array.forIn_toList]; simp only [List.toList_toArray])
    | rw [← Array.forIn_toList]
  refine wpAny_bind (ksk_fold (fun i s' => ∃ H' ks, Inv X (pins ++ [(D, seqObj "list" #[] e1)]) σ H' s' ∧ Same H H' ∧ H' kS = some (.lst (ks.map V.ref)) ∧ ks.length = i ∧ ∀ (j : Nat) kp, ks[j]? = some kp → H' kp = some (.tup ((k j).map V.int)))
    vs 0 _ ⟨_, [], I4, Same.upd_new hS0, upd_same, rfl, fun j kp z => by simp at z⟩ (fun j y s' hy hJ => ?_) fun s' hJ => ?_)
  · rw [Nat.zero_add] at hJ ⊢
    obtain ⟨H', ks, J, sm, hkS, lks, kk⟩ := hJ
    have hjN : j < (hi - lo).toNat := by rw [← lacc]; exact (List.getElem?_eq_some_iff.mp hy).1
    have ry : RelV (.int (lo + (j : Nat))) y := by
      have e1 : (rngV lo (hi - lo).toNat)[j]? = some (.int (lo + (j : Nat))) := by
        unfold rngV
        rw [List.getElem?_map, List.getElem?_range hjN]
        rfl
      obtain ⟨u2, e2, r2⟩ := hvi.get e1
      rw [hy] at e2
      cases e2
      exact r2
    refine wpAny_bind (wpAny_attempt (wpAny_mono (lam_call (A' := X.A.in1.in1) (E := fun _ _ => False) (Q := fun v H2 => ∃ kp, v = .ref kp ∧ Same H' H2 ∧ H' kp = none ∧ H2 kp = some (.tup ((k j).map V.int))) O J (I.ok.hd hcalm) rfl room (sm _ _ hq) (sm _ _ hc) ry (hbind y) hco hgen (fun cd s H => he _ cd s H)
      (hk j hjN H' sm _ fun kp H2 s2 n2 e2 => ⟨kp, rfl, s2, n2, e2⟩)) (fun u2 s2 hu => ?_) fun _ _ hF => hF.elim))
    obtain ⟨v2, H2, J2, rv, kp, rfl, sm2, nkp, ekp⟩ := hu
    obtain rfl : u2 = Value.ref kp := rv
    have hkS2 := sm2 _ _ hkS
    obtain ⟨z, its, nn, vi, gS⟩ := J2.hok kS _ hkS2
    obtain rfl := vals_refs_eq vi
    have gS : s2.heap.get? kS = some (seqObj "list" (ks.map Value.ref).toArray nn) := gS
    have l1 : ((ks.map Value.ref).toArray).size < 64 := by rw [List.size_toArray, List.length_map]; omega
    try dsimp only
    refine wpAny_bind (listUpdate_at gS rfl ?_ (by rw [sizeLine_eq]; omega) (Nat.le_trans (Nat.le_of_eq (Array.size_push ..)) (by rw [sizeLine_eq]; omega)))
    have ea : (ks.map Value.ref).toArray.push (Value.ref kp) = ((ks ++ [kp]).map Value.ref).toArray := by simp
    have gS' := get?_update_seq gS (·.push (Value.ref kp))
    have J3 := J2.write (t' := s2.toks) (x := kS) (e := kS) (o := .lst ((ks ++ [kp]).map V.ref)) (h' := s2.heap.update kS (Obj.mapSeq (·.push (Value.ref kp)))) (by rw [hkS2]; trivial) (.inl rfl) (fun b o hb e => ((Heap.SameBut.update _ _ _).2 b hb).trans e) ⟨_, gS'⟩
      ⟨by rw [List.length_map, List.length_append, List.length_singleton, sizeLine_eq]; omega, (ks ++ [kp]).map Value.ref, _, vals_refs _, by rw [gS', ea]⟩
    have nkS : ∀ b xs, H2 b = some (.tup xs) → b ≠ kS := fun b xs e z => by rw [z, hkS2] at e; cases e
    refine wpAny_pure ⟨rfl, _, ks ++ [kp], J3, (sm.trans sm2).upd_late hS0, upd_same, by simp [lks], fun j' kp' ej => ?_⟩
    by_cases hj' : j' < ks.length
    · rw [List.getElem?_append_left hj'] at ej
      have := sm2 _ _ (kk j' kp' ej)
      rw [upd_ne (nkS _ _ this)]
      exact this
    · have lt := (List.getElem?_eq_some_iff.mp ej).1
      have ej2 : j' = j := by simp at lt; omega
      subst ej2
      rw [List.getElem?_append_right (by omega), show j' - ks.length = 0 by omega] at ej
      have ej : kp = kp' := by simpa using ej
      subst ej
      rw [upd_ne (nkS _ _ ekp)]
      exact ekp
  · rw [Nat.zero_add] at hJ
    obtain ⟨H', ks, J, sm, hkS, lks, kk⟩ := hJ
    obtain ⟨z, its, nn, vi, gS⟩ := J.hok kS _ hkS
    obtain rfl := vals_refs_eq vi
    have gS : s'.heap.get? kS = some (seqObj "list" (ks.map Value.ref).toArray nn) := gS
    refine wpAny_bind (listItems_at gS rfl ?_)
    refine end_any (kl := k) (r := r) (by rw [List.length_map]; exact lks) (by omega) (fun i hi' => ?_) (by rw [lacc]; exact hr) (by rw [lacc]; exact hinj) fun st os o1 o2 o3 o4 => ?_
    · rw [List.length_map] at hi'
      obtain ⟨_, its, vi, ti⟩ := J.hok _ _ (kk i ks[i] (List.getElem?_eq_getElem hi'))
      refine ⟨ks[i], its, ?_, ti, ints_of_vals vi, hne i⟩
      simp [hi']
    · have mD : (D, seqObj "list" #[] e1) ∈ X.pn ++ (pins ++ [(D, seqObj "list" #[] e1)]) := List.mem_append_right _ (List.mem_append_right _ (List.mem_singleton.mpr rfl))
      have gS' := get?_update_seq gS (fun _ => (#[] : Array Value))
      have J1 := J.write (t' := s'.toks) (x := kS) (e := kS) (o := .lst []) (h' := s'.heap.update kS (Obj.mapSeq fun _ => (#[] : Array Value))) (by rw [hkS]; trivial) (.inl rfl) (fun b o hb e => ((Heap.SameBut.update _ _ _).2 b hb).trans e) ⟨_, gS'⟩
        ⟨Nat.zero_le _, [], _, .nil, gS'⟩
      have gD := (J1.pin _ mD).1
      have nD := (J1.pin _ mD).2.1
      have lo' : os.length = vs.length := by have := o1.length_eq; simpa using this
      have l1 : ((ks.map Value.ref).toArray).size < 64 := by rw [List.size_toArray, List.length_map]; omega
      have hsz : (List.toArray (os.map fun i => vs.getD i .none)).size < 64 := by rw [List.size_toArray, List.length_map, lo', lacc]; exact h64
      have gD' := get?_update_seq gD (fun _ => List.toArray (os.map fun i => vs.getD i Value.none))
      have hos : ∀ i ∈ os, i < (hi - lo).toNat := fun i hm => by
        have := o1.mem_iff.mp hm
        rw [lacc] at this
        simpa using this
      have J2 : Inv X pins σ _ _ := J1.pins_of fun p hp => J1.pin p (List.mem_append_right _ (List.mem_append_left _ hp))
      have J3 := J2.adopt (t' := s'.toks) (D := D) (o := .lst (os.map fun i : Nat => V.int (lo + i))) (h' := (s'.heap.update kS (Obj.mapSeq fun _ => (#[] : Array Value))).update D (Obj.mapSeq fun _ => List.toArray (os.map fun i => vs.getD i Value.none))) nD hDL hDs hDc hDp
        (fun b o hb e => ((Heap.SameBut.update _ _ _).2 b hb).trans e) ⟨by rw [List.length_map, sizeLine_eq]; omega, os.map fun i => vs.getD i .none, _, vals_pick hvi os hos, gD'⟩
      unfold ksk_tail
      try dsimp only
      rw [o3]
      simp only [Bool.false_eq_true, if_false]
      refine wpAny_bind (listUpdate_at gS rfl ?_ (by rw [sizeLine_eq]; omega) (Nat.zero_le _))
      refine wpAny_bind (wpAny_letGo ?_)
      refine wpAny_bind (seqEpoch_at gD rfl ?_)
      refine wpAny_bind (listUpdate_at gD rfl ?_ (Nat.zero_le _) (Nat.le_of_lt (Nat.lt_of_lt_of_le hsz (by rw [sizeLine_eq]; omega))))
      rw [o4]
      simp only [bne_self_eq_false, Bool.false_eq_true, if_false]
      rw [lacc] at o1
      exact wpAny_pure ⟨_, rfl, wpAny_pure ⟨_, rfl, .ref D, _, J3, rfl, fin D _ os ((sm.upd_late hS0).upd_late hD0) hD0 o1 o2 upd_same⟩⟩
end
end L2

namespace L2
open PySem PySem.Spec PyProof.Rows PySem.W
/-- the reading of sorted(a range, key=lambda ..) -/
def tSortK (P : Addr) (qual : Str) (cs : List Nat) (ta : TA) (te : TE) : TE := fun σ H Q => ta σ H fun vs H1 => ∃ (p : Addr) (lo hi : Int) (k : Nat → List Int) (r : Nat → Int), vs = [.ref p] ∧ H1 p = some (.rng lo hi) ∧ (-(2 ^ 62) ≤ lo ∧ lo < 2 ^ 62 ∧ -(2 ^ 62) ≤ hi ∧ hi < 2 ^ 62) ∧
  (hi - lo).toNat < 64 ∧ H1 P = some (.ctab qual) ∧ (∀ i, k i ≠ []) ∧
  (∀ i, i < (hi - lo).toNat → ∀ H2, Same H1 H2 → ∀ Q' : VK, (∀ kp H3, Same H2 H3 → H2 kp = none → H3 kp = some (.tup ((k i).map V.int)) → Q' (.ref kp) H3) → te (capL (.int (lo + i)) σ cs) H2 Q') ∧
  (∀ i j, i < (hi - lo).toNat → j < (hi - lo).toNat → HT.lexLt (k i) (k j) = decide (r i < r j)) ∧ Inj (hi - lo).toNat r ∧
  (∀ D H' (os : List Nat), Same H1 H' → H1 D = none → os.Perm (List.range (hi - lo).toNat) → os.Pairwise (fun i j => r i < r j) → H' D = some (.lst (os.map fun i : Nat => V.int (lo + i))) → Q (.ref D) H')
theorem pe_sortK {X : Cx} {scope : Scope} {cs : List Nat} {x : Str} {c P : Addr} {params : Arguments} {body e : Expr} {te : TE} {ta : TA} {p pos lpos kpos : Pos} (hcalm : X.calm = true) (room : X.A.depth < recursionLimit) (hcode : X.env.code = .ref c) (hC : codeHdIn X.K c P = true) (B : Bm X.mg X.base)
    (O : CompOk X scope [x] cs) (hg : Gl X "sorted") (hm : X.mg "sorted" = none) (ha : PA X [e] ta) (he : ∀ A' q cd s H, PE (cxLam X A' (X.env.qual ++ "<lambda>") scope x cs q cd s H) body te)
    (hs : backTo pos (starEach [e] X.env) = (false, eval e X.env) :: backTo pos (starEach [] X.env) := by rfl) (hpl : (backTo pos (starEach [e] X.env)).any (·.1) = false := by rfl)
    (hdef : defaultsOf params X.env = ([], []) := by rfl)
    (hbind : ∀ (u : Value) (fd : FuncData), fd.params = params → fd.defaults = .none → fd.kwdefaults = .none → bindArgs fd ⟨[u], []⟩ = pure [(x, u)] := by intro u fd h1 h2 h3; cases fd; cases h1; cases h2; cases h3; rfl)
    (hco : scope.isCoroutine = false := by rfl) (hgen : scope.isGenerator = false := by rfl) :
    PE X (.Call (.Name "sorted" p) [e] [⟨some "key", .Lambda params body scope lpos, kpos⟩] pos) (tSortK P (X.env.qual ++ "<lambda>") cs ta te) := by
  intro pins s σ H Q I h
  refine wpAny_Call_Name_kw (ld_blt I hg hm boot_sorted ?_)
  refine callWith_kw (thn (ha pos pins s σ H _ I h) fun us s1 ⟨vs, H1, I1, r1, q1⟩ => ?_) hs hpl
  obtain ⟨a, lo, hi, k, r, rfl, hp, ⟨b1, b2, b3, b4⟩, h64, hP, hne, hk, hr, hinj, fin⟩ := q1
  obtain ⟨u, rfl, ru⟩ := vals1 r1
  cases ru
  show wpAny _ _ (evalAll [(do let v ← eval (.Lambda params body scope lpos) X.env; standAt pos; pure v)]) _ _ s1
  refine wpAny_evalAll_cons (wpAny_bind (lam_make I1 O hcode (codeHd_of_K I1.ok.mod.kin hC) B hP hdef fun q c' ctv H2 s2 I2 sm nq eq ec => wpAny_bind (wpAny_standAt (wpAny_pure (wpAny_evalAll_nil ?_)))))
  exact sortK_call I2 hcalm room O (sm _ _ hp) b1 b2 b3 b4 h64 eq ec hbind hco hgen (fun A' cd s H => he A' q cd s H) hne (fun i hi' H3 s3 => hk i hi' H3 (sm.trans s3)) hr hinj
    fun D H' os s' n' o1 o2 e' => fin D H' os (sm.trans s') (sm.free n') o1 o2 e'
end L2

namespace L2
open PySem PySem.Spec PyProof.Rows PySem.W
/-- sorted(a list of ints) -/
theorem call_sortedI {X : Cx} : CallR X (.builtin "sorted") (fun xs H Q => ∃ (a : Addr) (ns : List Int), xs = [.ref a] ∧ H a = some (.lst (ns.map V.int)) ∧ ns.length < 64 ∧ ∀ D (ns' : List Int), ns'.Perm ns → ns'.Pairwise (· ≤ ·) → H D = none → Q (.ref D) (upd H D (.lst (ns'.map V.int)))) := by
  intro pins s σ H xs us Q I r h
  obtain ⟨a, ns, rfl, ha, hl, q⟩ := h
  obtain ⟨u, rfl, ru⟩ := vals1 r
  cases ru
  obtain ⟨_, its, nn, vi, e⟩ := I.hok a _ ha
  have ii := ints_of_vals vi
  have hz : its.length = ns.length := by rw [ii.length]
  refine sorted_ints (vs := its) (ns := ns) ⟨_, e, rfl, _, rfl⟩ ii (by omega) fun out ns' hi hp hs => ?_
  obtain ⟨ep, eo⟩ := sortedAll_at s.heap its out
  have lo := hi.length
  have lp := hp.length_eq
  refine ⟨.ref (s.heap.objs.size + 1), _, I.laid (a := s.heap.objs.size + 1) (o := .lst (ns'.map V.int)) (t' := s.toks) (fun b o e => sortedAll_old e) (Nat.le_succ _) ⟨?_, out.toList, ep, vals_ints hi, by simpa using eo⟩, rfl, q _ ns' hp hs (I.hok.fresh (Nat.le_succ _))⟩
  rw [List.length_map, sizeLine_eq]
  omega
end L2

namespace L2
open PySem PySem.Spec PyProof.Rows PySem.W

theorem Fun.okC {P : Program} {w : World} {K : PySem.W.Frag} {mg : Str → Option Value} {base : Heap} {x qual : Str} {st : Stmt} {f c : Addr} {fd : FuncData} {N ps : List Str} {k : Nat} {sp : Sp} (F : Fun K x qual st f fd) (hc : fd.code = .ref c) (S : FnScope N ps (defScope st))
    (len : ∀ vs H Q E, sp vs H Q E → vs.length = ps.length)
    (hbody : ∀ (A : Around) (outer : List Env) (s : Shared) (H : Hp) (vs : List V) (Q : VK) (E : XK), Room k (A.deeper (envOfC qual (defScope st) s.heap.objs.size f (.ref c))) → sp vs H Q E →
      ∃ t, PSs (cxOf CX0 P w K mg base N qual (defScope st) f (.ref c) A outer s H E).nox (defBody st) t ∧ t { nx := fun _ H' => Q .non H', rt := Q } (start N vs) H) : FnOk P w K mg base CX0 (k + 1) f fd ps sp := by
  obtain ⟨oc, od, kV, doc, pm, an, cdv, ct, osl, rfl, lk, hcd⟩ := F.ex
  obtain rfl : cdv = .ref c := hc
  refine fn_of lk hcd S len fun A outer s H vs Q E hr hsp => ?_
  obtain ⟨t, h, q⟩ := hbody A outer s H vs Q E hr hsp
  exact ⟨t, h.nox, q⟩

section
variable {X : Cx} {A' : Around} {qual : Str} {scope : Scope} {x : Str} {cs : List Nat} {f : Addr} {cd : Value} {s : Shared} {H : Hp}
theorem ixl_list : IxR (cxLam X A' qual scope x cs f cd s H) (rIxL X.K) := ix_list
theorem ixl_tup : IxR (cxLam X A' qual scope x cs f cd s H) (rIxT X.K) := ix_tup
end
theorem law_callT {P : Program} {w : World} {K : PySem.W.Frag} {mg mb : Str → Option Value} {CX : CXT} {k : Nat} {fa a : Addr} {fd : FuncData} {x : Str} {sp : Sp} {s₁ : Shared} {vs : List Value} {ns : List Int} (tb : Addr → Option Str)
    (KX : K.In s₁.heap) (hns : s₁.heap.Ns mainGlobals mg) (hb : s₁.heap.Ns builtinsNs mb) (hbb : ∀ x : Str, x ≠ "__name__" → mb x = bootBuiltins x) (hlim : s₁.heap.NoLimit) (hg : s₁.gens = #[]) (hbm : Bm mg s₁.heap)
    (hT : ∀ T q, tb T = some q → s₁.heap.get? T = some (tabObj #[]) ∧ K.lookup T = none ∧ ∃ c, CodeHd s₁.heap c T)
    (ha : s₁.heap.get? a = some { cls := .type "list", data := .seq vs.toArray }) (hi : IntsAre vs ns) (hl : ns.length ≤ sizeLine) (hr : Room k callerA)
    (F : ∀ base : Heap, K.In base → base.Ns mainGlobals mg → Bm mg base → FnOk P w K mg base CX k fa fd [x] sp) (hbind : ∀ (s : Shared) (u : Value), BindsTo s fd ⟨[u], []⟩ [(x, u)])
    (hsp : ∀ H : Hp, (∀ T q, tb T = some q → H T = some (.ctab q)) → SqL K H a (ns.map V.int) → sp [.ref a] H (fun v H' => v = .bl true ∧ ∀ T q, tb T = some q → H' T = some (.ctab q)) fun _ _ _ => False)
    (hCX : ∀ H e s', CX [] H s₁ (fun _ _ _ => False) e s' → False) :
    codeAny (model P w) callerA (.call (.ref fa) ⟨[.ref a], []⟩) (fun r s' => r = .ok (.ret (.bool true)) ∧ OldK s₁.heap s'.heap ∧ s'.os = s₁.os ∧ AllBare s'.gens) s₁ := by
  have rv := vals_ints hi
  have lenV := hi.length
  have nta : tb a = none := by
    cases e : tb a with
    | none => rfl
    | some q =>
      have := (hT a q e).1
      rw [ha] at this
      cases this
  -- from an abstract heap in which nothing but the script and the tables is tracked
  have core : ∀ H : Hp, (∀ b u, H b = some u → (∃ q, tb b = some q ∧ u = .ctab q) ∨ (b = a ∧ ∃ o xs, u = .frz o (.lst xs))) → (∀ T q, tb T = some q → H T = some (.ctab q)) → SqL K H a (ns.map V.int) → HOk P w H s₁.heap → (H a ≠ none → K.lookup a = none) →
      codeAny (model P w) callerA (.call (.ref fa) ⟨[.ref a], []⟩) (fun r s' => r = .ok (.ret (.bool true)) ∧ OldK s₁.heap s'.heap ∧ s'.os = s₁.os ∧ AllBare s'.gens) s₁ := by
    intro H hO hTb hS hok hK
    have base_of : ∀ {b : Addr} {o : Obj}, s₁.heap.get? b = some o → H b = none → (hidT s₁.heap H).get? b = some o := fun e n => hidT_get e n
    have noA : ∀ {b : Addr} {o : Obj}, s₁.heap.get? b = some o → (∀ xs n, o.data ≠ .seq xs n) → (∀ xs, o.data ≠ .fields xs) → H b = none := fun {b o} e d1 d2 => by
      cases q : H b with
      | none => rfl
      | some u =>
        rcases hO b u q with ⟨q', e', _⟩ | ⟨e', _⟩
        · have := (hT b q' e').1
          rw [e] at this
          cases this
          exact absurd rfl (d2 _)
        · subst e'
          rw [ha] at e
          cases e
          exact absurd rfl (d1 _ _)
    have nsK : ∀ {b : Addr} {m : Str → Option Value}, s₁.heap.Ns b m → (hidT s₁.heap H).Ns b m := fun {b m} ⟨o, es, ep, e, d, r⟩ => ⟨o, es, ep, base_of e (noA e (fun _ _ z => by rw [d] at z; cases z) fun _ z => by rw [d] at z; cases z), d, r⟩
    have hKb : K.In (hidT s₁.heap H) := fun b o e => base_of (KX b o e) (by
      cases q : H b with
      | none => rfl
      | some u =>
        rcases hO b u q with ⟨q', e', _⟩ | ⟨e', _⟩
        · rw [(hT b q' e').2.1] at e; cases e
        · subst e'
          rw [hK (by rw [q]; simp)] at e; cases e)
    have hM : Mod K mg (hidT s₁.heap H) := ⟨hKb, nsK hns, ⟨mb, nsK hb, hbb⟩, let ⟨mc, h1, h2⟩ := hlim; ⟨mc, nsK h1, h2⟩⟩
    have hB : Bm mg (hidT s₁.heap H) := by
      obtain ⟨bm, ob, c1, c2, c3, c4, c5, c6⟩ := hbm
      exact ⟨bm, ob, c1, c2, base_of c3 (noA c3 (fun _ _ z => by rw [c6] at z; cases z) fun _ z => by rw [c6] at z; cases z), c4, c5, c6⟩
    have e0 : Env0 P w K mg (hidT s₁.heap H) callerA [] s₁ H := ⟨rfl, hM, fun b o e => of_hidT e, Nat.le_of_eq (hidT_size _ _), trivial, fun b hb => absurd (show b ∈ ([] : List Addr) from hb) (by simp), hok, .of_eq hg⟩
    refine codeAny_mono ((F _ hKb (nsK hns) hB).run callerA [] s₁ H ⟨[.ref a], []⟩ [.ref a] [.ref a] _ _ hr e0 (hbind s₁ (.ref a)) (.cons rfl .nil) (hsp H hTb hS)) fun r s' h => ?_
    cases r with
    | error e => exact (hCX H e s' h).elim
    | ok fl =>
      cases fl with
      | next => exact False.elim h
      | brk => exact False.elim h
      | cont => exact False.elim h
      | ret u =>
        obtain ⟨v, H', os, bare, un, hok', r', q, hT'⟩ := h
        have q' : v = .bl true := q
        subst q'
        obtain rfl : u = Value.bool true := r'
        have all : ∀ b o, s₁.heap.get? b = some o → asItWas s₁.heap s'.heap b o ∧ ∃ o', s'.heap.get? b = some o' := fun b o e => by
          cases q : H b with
          | none =>
            have k := un.keep b o e q (by intro z; exact absurd (show b ∈ ([] : List Addr) from z) (by simp)) (by simp)
            exact ⟨.inl k, o, k⟩
          | some u =>
            rcases hO b u q with ⟨q', e', eu⟩ | ⟨e', o1, xs, eu⟩
            · obtain ⟨t1, t2, c, oc, vc, _, _, _, _, _, _, _, g1, g2, g3, g4, _⟩ := hT b q' e'
              rw [e] at t1
              cases t1
              obtain ⟨ps, ep, _⟩ := hok' b _ (hT' b q' e')
              refine ⟨.inr (.inl ⟨⟨c, oc, vc, g1, g2, g3, g4⟩, rfl, #[], ps, rfl, ?_⟩), _, ep⟩
              rw [ep]
              simp
            · subst eu
              have z2 := un.frzs b o1 _ q
              obtain ⟨e1, _⟩ := hok b _ q
              obtain ⟨e2, _⟩ := hok' b _ z2
              rw [e] at e1; cases e1
              exact ⟨.inl e2, _, e2⟩
        exact ⟨rfl, ⟨fun b o e => (all b o e).1, fun b o e => (all b o e).2⟩, os, bare⟩
  have tabOk : ∀ (H : Hp) T q, tb T = some q → ObjOk P w H s₁.heap T (.ctab q) := fun H T q e => ⟨#[], (hT T q e).1, trivial, fun pos v z => by cases z⟩
  cases hk : K.lookup a with
  | some o =>
    have e := KX a o hk
    rw [ha] at e
    cases e
    refine core (fun b => (tb b).map .ctab) (fun b u z => ?_) (fun T q z => by show (tb T).map _ = _; rw [z]; rfl) (.inr ⟨_, vs.toArray, _, hk, rfl, rfl, rfl, by rw [List.size_toArray, lenV]; exact hl, by simpa using rv⟩) (fun b u z => ?_) fun z => absurd (show (tb a).map HO.ctab = none by rw [nta]; rfl) z
    · have z : (tb b).map HO.ctab = some u := z
      cases e : tb b with
      | none => rw [e] at z; cases z
      | some q => rw [e] at z; cases z; exact .inl ⟨q, rfl, rfl⟩
    · have z : (tb b).map HO.ctab = some u := z
      cases e : tb b with
      | none => rw [e] at z; cases z
      | some q => rw [e] at z; cases z; exact tabOk _ b q e
  | none =>
    refine core (fun b => if b = a then some (.frz { cls := .type "list", data := .seq vs.toArray } (.lst (ns.map V.int))) else (tb b).map .ctab) (fun b u z => ?_) (fun T q z => ?_) (.inl (.inr ⟨{ cls := .type "list", data := .seq vs.toArray }, if_pos rfl⟩)) (fun b u z => ?_) fun _ => hk
    · by_cases hb : b = a
      · have z' := (if_pos hb).symm.trans z
        cases z'
        exact .inr ⟨hb, _, _, rfl⟩
      · have z : (tb b).map HO.ctab = some u := (if_neg hb).symm.trans z
        cases e : tb b with
        | none => rw [e] at z; cases z
        | some q => rw [e] at z; cases z; exact .inl ⟨q, rfl, rfl⟩
    · have : T ≠ a := fun y => by rw [y, nta] at z; cases z
      refine (if_neg this).trans ?_
      rw [z]
      rfl
    · by_cases hb : b = a
      · have z' := (if_pos hb).symm.trans z
        cases z'
        subst hb
        exact ⟨ha, by rw [List.length_map]; exact hl, vs, _, rv, ha⟩
      · have z : (tb b).map HO.ctab = some u := (if_neg hb).symm.trans z
        cases e : tb b with
        | none => rw [e] at z; cases z
        | some q => rw [e] at z; cases z; exact tabOk _ b q e
end L2

namespace L2
open PySem PySem.Spec PyProof.Rows PySem.W
theorem reps_point {H : Hp} : ∀ {rs : List (Int × Int × Int)} {ys : List V}, ys.length = rs.length → (∀ (j : Nat) r, rs[j]? = some r → ∃ kp, ys[j]? = some (.ref kp) ∧ H kp = some (.tup [.int r.1, .int r.2.1, .int r.2.2])) → Reps H (rs.map ropeD) ys
  | [], ys, hl, _ => by
    have : ys = [] := List.length_eq_zero_iff.mp hl
    subst this
    exact reps_nil.mpr rfl
  | r :: rs, [], hl, _ => by simp at hl
  | r :: rs, y :: ys, hl, h => by
    obtain ⟨kp, e1, e2⟩ := h 0 r rfl
    have e1 : y = .ref kp := by simpa using e1
    subst e1
    refine reps_cc.mpr ⟨rep_rope.mpr ⟨kp, rfl, e2⟩, reps_point (by simpa using hl) fun j r' e => ?_⟩
    have := h (j + 1) r' (by simpa using e)
    simpa using this
theorem ropes_gotI {H : Hp} {rs : List (Int × Int × Int)} {xs : List V} {i : Nat} {x : V} (h : Reps H (rs.map ropeD) xs) (e : xs[i]? = some x) : ∃ r p, rs[i]? = some r ∧ x = .ref p ∧ H p = some (.tup [.int r.1, .int r.2.1, .int r.2.2]) := by
  obtain ⟨d, e1, e2⟩ := h.got e
  rw [List.getElem?_map] at e1
  cases q : rs[i]? with
  | none => rw [q] at e1; cases e1
  | some r =>
    rw [q] at e1
    cases e1
    obtain ⟨p, rfl, hp⟩ := rep_rope.mp e2
    exact ⟨r, p, rfl, rfl, hp⟩
/-- [a new rope for each item] -/
theorem comp_ropes {K : PySem.W.Frag} {a D : Addr} {xs : List V} {te : TE} {caps : St} {H1 : Hp} {Q : VK} {o : Option V} (rs : List (Int × Int × Int)) (ha : H1 a = some (.lst xs)) (hD : H1 D = none) (hlr : rs.length = xs.length) (hz : xs.length ≤ 1000)
    (he : ∀ (i : Nat) x r, xs[i]? = some x → rs[i]? = some r → ∀ H (Q' : VK), Same H1 H → (∀ kp H', Same H H' → H' kp = some (.tup [.int r.1, .int r.2.1, .int r.2.2]) → Q' (.ref kp) H') → te (some x :: caps) H Q')
    (hd : ∀ H', Same H1 H' → Rep H' (ropesD rs) (.ref D) → Q (.ref D) H') : cBody (Itl K a) D (gName 0) tYes te (o :: caps) (upd H1 D (.lst [])) Q := by
  have nD : a ≠ D := ne_of_none ha hD
  refine comp_list (xs := xs) (fun i ys H => Same H1 H ∧ H D = some (.lst ys) ∧ ys.length = i ∧ ∀ (j : Nat) r, j < i → rs[j]? = some r → ∃ kp, ys[j]? = some (.ref kp) ∧ H kp = some (.tup [.int r.1, .int r.2.1, .int r.2.2])) ⟨Same.upd_new hD, upd_same, rfl, fun j r z => by omega⟩ ?_ ?_ ?_
  · rintro i ys H _ ⟨s1, hd, _⟩
    exact ⟨SqL.of (s1 _ _ ha), hd⟩
  · rintro i x ys H hx ⟨s1, hdd, rfl, pt⟩
    unfold tYes
    have hi : ys.length < xs.length := (List.getElem?_eq_some_iff.mp hx).1
    refine iteT (he ys.length x _ hx (List.getElem?_eq_getElem (by omega)) _ _ s1 fun kp H' s2 e => ⟨s2 _ _ hdd, by have := big1000; omega, cn ⟨(s1.trans s2).upd_late hD, upd_same, by simp, fun j r hj hr => ?_⟩⟩)
    have nk : ∀ b zs, H' b = some (.tup zs) → b ≠ D := fun b zs z y => by rw [y, s2 _ _ hdd] at z; cases z
    by_cases hj2 : j < ys.length
    · obtain ⟨k2, e1, e2⟩ := pt j r hj2 hr
      have e2 := s2 _ _ e2
      exact ⟨k2, by rw [List.getElem?_append_left hj2]; exact e1, by rw [upd_ne (nk _ _ e2)]; exact e2⟩
    · have : j = ys.length := by omega
      subst this
      rw [List.getElem?_eq_getElem (by omega)] at hr
      cases hr
      exact ⟨kp, by simp, by rw [upd_ne (nk _ _ e)]; exact e⟩
  · rintro ys H ⟨s1, hdd, hl, pt⟩
    refine hd H s1 (rep_lst.mpr ⟨D, ys, rfl, hdd, reps_point (by omega) fun j r hr => pt j r ?_ hr⟩)
    have := (List.getElem?_eq_some_iff.mp hr).1
    omega
end L2

namespace L2
open PySem PySem.Spec PyProof.Rows PySem.W
/-- a dict that is a set of ints -/
def setD (zs : List Int) : List (Key × V) := zs.map fun x => (.inl x, .bl true)
theorem setD_val {x : Int} : ∀ {zs : List Int}, (valV (setD zs) (.inl x)).isSome = decide (x ∈ zs)
  | [] => rfl
  | z :: zs => by
    unfold setD
    rw [List.map_cons]
    by_cases e : z = x
    · subst e
      rw [valV_pos rfl]
      simp
    · rw [valV_neg (fun q => e (Sum.inl.inj q))]
      have := setD_val (x := x) (zs := zs)
      unfold setD at this
      rw [this]
      simp [Ne.symm e]
theorem setD_put {x : Int} {zs : List Int} : putK (setD zs) (.inl x) (.bl true) = setD (if x ∈ zs then zs else zs ++ [x]) := by
  by_cases m : x ∈ zs
  · rw [if_pos m]
    unfold putK
    rw [valV_any, setD_val, decide_eq_true m, if_pos rfl]
    unfold setD
    rw [List.map_map]
    refine List.map_congr_left fun y _ => ?_
    simp only [Function.comp]
    split <;> rfl
  · rw [if_neg m, putK_new]
    · unfold setD
      simp
    · cases e : valV (setD zs) (.inl x) with
      | none => rfl
      | some v =>
        have := setD_val (x := x) (zs := zs)
        rw [e, decide_eq_false m] at this
        cases this
theorem setD_len {zs : List Int} : (setD zs).length = zs.length := by unfold setD; rw [List.length_map]
end L2

namespace L2
open PySem
theorem rDIn {ty td : TE} {σ : St} {H : Hp} {Q : VK} : tDIn ty td σ H Q = ty σ H fun y H1 => td σ H1 fun x H2 => ∃ a o, x = .ref a ∧ DGet H2 a y o ∧ Q (.bl o.isSome) H2 := rfl
theorem rDPut {td ty tv : TE} {D : Ends} {σ : St} {H : Hp} : sDPut td ty tv D σ H = tv σ H fun v H1 => td σ H1 fun x H2 => ty σ H2 fun y H3 => ∃ a H4, x = .ref a ∧ DPut H3 a y v H4 ∧ D.nx σ H4 := rfl
theorem rDisp {trs : List (TE × TE)} {σ : St} {H : Hp} {Q : VK} : tDisp trs σ H Q = ∀ p, H p = none → tPairs trs σ (upd H p (.dK [])) fun ps H2 => H2 p = some (.dK []) ∧ ∃ kvs : List (Key × V), ps = kvs.map (fun kv => (kV kv.1, kv.2)) ∧ kvs.length ≤ 15 ∧ Q (.ref p) (upd H2 p (.dK (mergeK [] kvs))) := rfl
theorem rPairN {σ : St} {H : Hp} {Q : List (V × V) → Hp → Prop} : tPairs [] σ H Q = Q [] H := rfl
theorem rPairC {tk tv : TE} {r : List (TE × TE)} {σ : St} {H : Hp} {Q : List (V × V) → Hp → Prop} : tPairs ((tk, tv) :: r) σ H Q = tk σ H fun x H1 => tv σ H1 fun y H2 => tPairs r σ H2 fun ps H3 => Q ((x, y) :: ps) H3 := rfl
end L2

namespace L2
theorem wo_map {ns : List Int} {z : Int} : (ns.map V.int).filter (fun x => decide (x ≠ .int z)) = (RT.wo ns z).map V.int := by
  unfold RT.wo
  rw [List.filter_map]
  congr 1
  refine List.filter_congr fun k _ => ?_
  by_cases e : k = z
  · subst e; simp
  · simp [e]
end L2

namespace L2
end L2

namespace L2
open PySem PySem.Spec PyProof.Rows PySem.W
/-- the goal behind the head, for a text with lambdas -/
theorem walk_ofT {l : PySem.W.OpenLaw} {n k : Nat} {q : Program} {loose : List Str} {XP : (Str → Option Value) → Heap → Prop} {YP : World → Heap → Prop} {d : DefRec} {K : Params → PySem.W.Frag} {sp : World → Sp} {x : Str} (tb : Addr → Option Str)
    (hn : l.most = some n) (hn2 : n ≤ sizeLine) (hdf : d.params.defaults = []) (hr : Room k callerA)
    (hY : ∀ (w : World) (h : Heap), YP w h → (K w.params).In h) (hT : ∀ (w : World) (h : Heap), YP w h → ∀ T q, tb T = some q → h.get? T = some (tabObj #[]))
    (F : ∀ (w : World) (mg : Str → Option Value) (fa : Addr) (h : Heap), (K w.params).In h → h.Ns mainGlobals mg → mg d.name = some (.ref fa) →
      ∃ fd : FuncData, (∀ (s : Shared) (u : Value), BindsTo s fd ⟨[u], []⟩ [(x, u)]) ∧ (∀ T q, tb T = some q → (K w.params).lookup T = none ∧ ∃ c, codeHdIn (K w.params) c T = true) ∧
        ∀ base : Heap, (K w.params).In base → base.Ns mainGlobals mg → Bm mg base → FnOk l.prog w (K w.params) mg base CX0 k fa fd [x] (sp w))
    (hsp : ∀ (w : World) (H : Hp) (a : Addr) (ns : List Int), ns.length ≤ n → (∀ T q, tb T = some q → H T = some (.ctab q)) → SqL (K w.params) H a (ns.map V.int) → sp w [.ref a] H (fun v H' => v = .bl true ∧ ∀ T q, tb T = some q → H' T = some (.ctab q)) fun _ _ _ => False) :
    PySem.W.WalkO q loose XP YP l.row.toRowW d [] (fun f vs => PySem.call f vs) := by
  refine Att.attach_call hn hdf fun w s₀ s₁ mg mb fa o pm cd doc a vs ns G Y ho hd hcd hmg hobj hints hlen hg => ?_
  have KX := hY w _ Y
  obtain ⟨fd, hb, hc, hF⟩ := F w mg fa _ KX G.T.g hmg
  exact law_callT tb KX G.T.g G.T.b G.T.builtins G.T.nolimit hg G.T.bmain (fun T q e => ⟨hT w _ Y T q e, (hc T q e).1, let ⟨c, z⟩ := (hc T q e).2; ⟨c, codeHd_of_K KX z⟩⟩) hobj hints (Nat.le_trans hlen hn2) hr hF hb (fun H hO hS => hsp w H a ns hlen hO hS) fun H e s' z => z
end L2

namespace L2
open PySem PySem.Spec PyProof.Rows PySem.W

theorem ObjOk.obj {P : Program} {w : World} {H : Hp} {h : Heap} {a : Addr} {o : HO} (x : ObjOk P w H h a o) : ∃ ob, h.get? a = some ob := by
  cases o with
  | lst xs => obtain ⟨_, _, _, _, e⟩ := x; exact ⟨_, e⟩
  | tup xs => obtain ⟨_, _, _, ob, e, _⟩ := x; exact ⟨_, e⟩
  | dK kvs => obtain ⟨_, _, _, _, o, _, _, e, _⟩ := x; exact ⟨_, e⟩
  | dT kvs => obtain ⟨_, _, _, _, o, _, _, e, _⟩ := x; exact ⟨_, e⟩
  | set S n => obtain ⟨o, _, _, _, e, _⟩ := x; exact ⟨_, e⟩
  | ins C dx fs => obtain ⟨_, _, _, e, _⟩ := x; exact ⟨_, e⟩
  | own y => obtain ⟨_, e⟩ := x; exact ⟨_, e⟩
  | xd fs => obtain ⟨_, ⟨_, _, _, e, _⟩, _⟩ := x; exact ⟨_, e⟩
  | rng lo hi => obtain ⟨_, _, _, e⟩ := x; exact ⟨_, e⟩
  | frz ob u => obtain ⟨e, _⟩ := x; exact ⟨_, e⟩
  | tbl ps => exact ⟨_, show h.get? a = some _ from x⟩
  | cod q => obtain ⟨_, _, _, _, e, g, _⟩ := x; cases e; exact ⟨_, g⟩
  | ctab q => obtain ⟨_, e, _⟩ := x; exact ⟨_, e⟩
  | met f y => exact ⟨_, show h.get? a = some _ from x⟩
  | ext φ => obtain ⟨_, e, _⟩ := x; exact e

/-- an error of the own class C in flight, behind a call -/
structure Flew (P : Program) (w : World) (outer : List Env) (H : Hp) (s : Shared) (ea C : Addr) (H' : Hp) (s' : Shared) : Prop where
  os : s'.os = s.os
  bare : AllBare s'.gens
  un : Un (frs outer) [] H H' s.heap s'.heap
  hok : HOk P w H' s'.heap
  new : s.heap.get? ea = none
  fre : H' ea = none
  fly : ∃ B t, Heap.FlyingW B outer ea (.ref C) (.ref t) s'.heap ∧ (∀ b o, s.heap.get? b = some o → H b = none → b ∉ frs outer → B.get? b = some o) ∧ (∀ b u o, H' b = some u → s'.heap.get? b = some o → B.get? b = some o) ∧ ∀ b o, s.heap.get? b = some o → b ∉ frs outer → ∃ o', B.get? b = some o'
def CX1 (P : Program) (w : World) : CXT := fun outer H s E e s' => ∃ ea C H', e = .ref ea ∧ Flew P w outer H s ea C H' s' ∧ E (.ref C) none H'

section
variable {P : Program} {w : World} {outer : List Env} {env : Env} {X : Cx} {pins : List (Addr × Obj)} {σ : St} {H H' : Hp} {s : Shared} {h1 h2 B : Heap} {ea C t : Addr} {L : Addr}
/-- frames of the stack keep their place, up to slots -/
theorem frame_slots (F : h1.FunFrames B outer) (u : h1.UpToSlots h2) {b : Addr} {o : Obj} (hb : b ∈ frs outer) (e : h1.get? b = some o) : ∃ sl, h2.get? b = some { o with slots := sl } := by
  obtain ⟨_, o', ho, hd⟩ := F.mem hb
  rw [e] at ho
  cases ho
  refine u b o e fun vs z => ?_
  rw [z] at hd
  first | exact hd vs rfl | (obtain ⟨es, ep, hd⟩ := hd; cases hd) | cases hd
theorem frs_mem {l : List Env} : ∀ env ∈ l, ∀ b, env.frame = some b → b ∈ frs l := fun env he b hb => List.mem_filterMap.mpr ⟨env, he, hb⟩
/-- an error that was just made leaves the def's frame -/
theorem raise_leaves {CX : CXT} {A : Around} {K : PySem.W.Frag} {mg : Str → Option Value} {base : Heap} {N : List Str} {qual : Str} {scope : Scope} {f : Addr} {cd : Value} {s₀ : Shared} {H₀ : Hp} {E : XK} {E' : Value → Shared → Prop} {vs : List Value}
    (I : Inv (cxOf CX P w K mg base N qual scope f cd A outer s₀ H₀ E) pins σ H s) (hx : Heap.MadeExcOf s.heap h1 ea (.ref C) vs) (hE : E (.ref C) none H) :
    wpAny (model P w) (A.deeper (envOfC qual scope s₀.heap.objs.size f cd)) (leaving (envOfC qual scope s₀.heap.objs.size f cd) (.ref ea)) (fun _ s'' => CX1 P w outer H₀ s₀ E (.ref ea) s'') E' { s with heap := h1 } := by
  have stk : s.heap.FunFrames base (envOfC qual scope s₀.heap.objs.size f cd :: outer) := I.stack
  have fre : ∀ b ∈ frs (envOfC qual scope s₀.heap.objs.size f cd :: outer), H b = none := I.stkFree
  have bas : Un (frs outer) [] H₀ H s₀.heap s.heap := I.base
  have inB : ∀ b o, s.heap.get? b = some o → b ∉ frs (envOfC qual scope s₀.heap.objs.size f cd :: outer) → (hideAll s.heap (frs (envOfC qual scope s₀.heap.objs.size f cd :: outer))).get? b = some o := fun b o e n => hideAll_get _ e n
  have notL : ∀ b o, s₀.heap.get? b = some o → b ∉ frs outer → b ∉ frs (envOfC qual scope s₀.heap.objs.size f cd :: outer) := fun b o e n m => by
    rcases List.mem_cons.mp (show b ∈ s₀.heap.objs.size :: frs outer from m) with z | z
    · exact absurd (Heap.lt_size e) (by rw [z]; exact Nat.lt_irrefl _)
    · exact n z
  refine wpAny_leaves_madeW (s := { s with heap := h1 }) (base := hideAll s.heap (frs (envOfC qual scope s₀.heap.objs.size f cd :: outer))) I.ok.frames rfl (fun b o q => of_hideAll _ q) (funFrames_hide stk frs_mem) hx fun h2 t fl tp nt us => ?_
  have stay : ∀ b o, s.heap.get? b = some o → b ∉ frs (envOfC qual scope s₀.heap.objs.size f cd :: outer) → h2.get? b = some o := fun b o e n => fl.1 b o (inB b o e n)
  have us' : s.heap.UpToSlots h2 := fun b o e d => us b o (hx.keeps b o e) d
  have trk : ∀ b u, H b = some u → b ∉ frs (envOfC qual scope s₀.heap.objs.size f cd :: outer) := fun b u e m => by rw [fre b m] at e; cases e
  refine ⟨ea, C, H, rfl, ⟨I.os, I.bare, ⟨fun b o e n hb _ => ?_, fun b o e n hb _ => ?_, bas.free, fun b o e _ => ?_, bas.tups, bas.frzs, bas.tbls⟩, fun b u e => ?_, ?_, ?_, hideAll s.heap (frs (envOfC qual scope s₀.heap.objs.size f cd :: outer)), t, fl, fun b o e n hb => ?_, fun b u o e eo => ?_, fun b o e hb => ?_⟩, hE⟩
  · exact stay b o (bas.keep b o e n hb (by simp)) (notL b o e hb)
  · obtain ⟨sl, e1⟩ := bas.slot b o e n hb (by simp)
    obtain ⟨sl2, e2⟩ := frame_slots stk us' (List.mem_cons_of_mem _ hb) e1
    exact ⟨sl2, e2⟩
  · obtain ⟨o1, e1⟩ := bas.there b o e (by simp)
    by_cases m : b ∈ frs (envOfC qual scope s₀.heap.objs.size f cd :: outer)
    · obtain ⟨sl2, e2⟩ := frame_slots stk us' m e1
      exact ⟨_, e2⟩
    · exact ⟨_, stay b o1 e1 m⟩
  · refine (I.hok b u e).stay (fun c v hc q => stay c v ?_ ?_) (fun _ q => q) (fun _ _ q => q) fun _ _ q => q
    · exact q
    · rcases hc with rfl | hc
      · exact trk _ _ e
      · exact trk _ _ hc
  · cases q : s₀.heap.get? ea with
    | none => rfl
    | some o =>
      obtain ⟨o1, e1⟩ := bas.there ea o q (by simp)
      rw [hx.new] at e1
      cases e1
  · cases q : H ea with
    | none => rfl
    | some u =>
      obtain ⟨o1, e1⟩ := ObjOk.obj (I.hok ea u q)
      rw [show s.heap.get? ea = none from hx.new] at e1
      cases e1
  · exact inB b o (bas.keep b o e n hb (by simp)) (notL b o e hb)
  · obtain ⟨o1, e1⟩ := ObjOk.obj (I.hok b u e)
    have e2 := stay b o1 e1 (trk b u e)
    have eo : h2.get? b = some o := eo
    rw [e2] at eo
    cases eo
    exact inB b _ e1 (trk b u e)
  · obtain ⟨o1, e1⟩ := bas.there b o e (by simp)
    exact ⟨o1, inB b o1 e1 (notL b o e hb)⟩
/-- an error of a callee passes this def's frame -/
theorem fly_leaves {CX : CXT} {A : Around} {K : PySem.W.Frag} {mg : Str → Option Value} {base : Heap} {N : List Str} {qual : Str} {scope : Scope} {f : Addr} {cd : Value} {s₀ s' : Shared} {H₀ : Hp} {E : XK} {E' : Value → Shared → Prop}
    (I : Inv (cxOf CX P w K mg base N qual scope f cd A outer s₀ H₀ E) pins σ H s) (fw : Flew P w (envOfC qual scope s₀.heap.objs.size f cd :: outer) H s ea C H' s') (hE : E (.ref C) none H') :
    wpAny (model P w) (A.deeper (envOfC qual scope s₀.heap.objs.size f cd)) (leaving (envOfC qual scope s₀.heap.objs.size f cd) (.ref ea)) (fun _ s'' => CX1 P w outer H₀ s₀ E (.ref ea) s'') E' s' := by
  obtain ⟨os, bare, un, hok, new, nfre, B, t, fly, kb, tb, th⟩ := fw
  have stk : s.heap.FunFrames base (envOfC qual scope s₀.heap.objs.size f cd :: outer) := I.stack
  have fre : ∀ b ∈ frs (envOfC qual scope s₀.heap.objs.size f cd :: outer), H b = none := I.stkFree
  have bas : Un (frs outer) [] H₀ H s₀.heap s.heap := I.base
  have notL : ∀ b o, s₀.heap.get? b = some o → b ∉ frs outer → b ∉ frs (envOfC qual scope s₀.heap.objs.size f cd :: outer) := fun b o e n m => by
    rcases List.mem_cons.mp (show b ∈ s₀.heap.objs.size :: frs outer from m) with z | z
    · exact absurd (Heap.lt_size e) (by rw [z]; exact Nat.lt_irrefl _)
    · exact n z
  refine wpAny_leaves_onW I.ok.frames rfl fly fun h2 fl us => ?_
  have inB : ∀ b o, s₀.heap.get? b = some o → H₀ b = none → b ∉ frs outer → B.get? b = some o := fun b o e n hb => kb b o (bas.keep b o e n hb (by simp)) (bas.free b o e n (by simp)) (notL b o e hb)
  refine ⟨ea, C, H', rfl, ⟨os.trans I.os, bare, ⟨fun b o e n hb _ => fl.1 b o (inB b o e n hb), fun b o e n hb _ => ?_, fun b o e n _ => ?_, fun b o e _ => ?_, fun b xs e => un.tups b xs (bas.tups b xs e), fun b o xs e => un.frzs b o xs (bas.frzs b o xs e), fun b ps e => ?_⟩, fun b u e => ?_, ?_, nfre, B, t, fl, inB, fun b u o e eo => ?_, fun b o e hb => ?_⟩, hE⟩
  · obtain ⟨sl, e1⟩ := bas.slot b o e n hb (by simp)
    obtain ⟨sl1, e2⟩ := un.slot b _ e1 (bas.free b o e n (by simp)) (List.mem_cons_of_mem _ hb) (by simp)
    obtain ⟨sl2, e3⟩ := frame_slots fly.2.2.1 us (List.mem_cons_of_mem _ hb) e2
    exact ⟨sl2, e3⟩
  · obtain ⟨o1, e1⟩ := bas.there b o e (by simp)
    exact un.free b o1 e1 (bas.free b o e n (by simp)) (by simp)
  · obtain ⟨o1, e1⟩ := bas.there b o e (by simp)
    obtain ⟨o2, e2⟩ := un.there b o1 e1 (by simp)
    by_cases m : b ∈ frs (envOfC qual scope s₀.heap.objs.size f cd :: outer)
    · obtain ⟨sl2, e3⟩ := frame_slots fly.2.2.1 us m e2
      exact ⟨_, e3⟩
    · obtain ⟨o3, e3⟩ := th b o1 e1 m
      exact ⟨o3, fl.1 b o3 e3⟩
  · obtain ⟨m1, e1⟩ := bas.tbls b ps e
    obtain ⟨m2, e2⟩ := un.tbls b _ e1
    exact ⟨m1 ++ m2, by rw [e2, Array.append_assoc]⟩
  · refine (hok b u e).stay (fun c v hc q => fl.1 c v ?_) (fun _ q => q) (fun _ _ q => q) fun _ _ q => q
    rcases hc with rfl | hc
    · exact tb _ _ _ e q
    · exact tb _ _ _ hc q
  · cases q : s₀.heap.get? ea with
    | none => rfl
    | some o =>
      obtain ⟨o1, e1⟩ := bas.there ea o q (by simp)
      rw [new] at e1
      cases e1
  · obtain ⟨o1, e1⟩ := ObjOk.obj (hok b u e)
    have b1 := tb b u o1 e e1
    have e2 := fl.1 b o1 b1
    have eo : h2.get? b = some o := eo
    rw [e2] at eo
    cases eo
    exact b1
  · obtain ⟨o1, e1⟩ := bas.there b o e (by simp)
    exact th b o1 e1 (notL b o e hb)
theorem pass1 {A : Around} {K : PySem.W.Frag} {mg : Str → Option Value} {base : Heap} {N : List Str} {qual : Str} {scope : Scope} {f : Addr} {cd : Value} {s₀ : Shared} {H₀ : Hp} {E E' : XK} (h : ∀ C a H', E' C a H' → E C a H') :
    Passes (CX1 P w) (cxOf (CX1 P w) P w K mg base N qual scope f cd A outer s₀ H₀ E) E' := fun pins σ H s e s' I z => by
  obtain ⟨ea, C, H', rfl, fw, hE⟩ := z
  exact fly_leaves I fw (h _ _ _ hE)
/-- a def that lets no error out keeps its promise where errors fly too -/
theorem FnOk.up {K : PySem.W.Frag} {mg : Str → Option Value} {base : Heap} {CX : CXT} {k : Nat} {f : Addr} {fd : FuncData} {ps : List Str} {sp : Sp} (F : FnOk P w K mg base CX0 k f fd ps sp) : FnOk P w K mg base CX k f fd ps sp :=
  ⟨F.len, fun A outer s H args us vs Q E hr he hb hv hs => codeAny_mono (F.run A outer s H args us vs Q E hr he hb hv hs) fun r s' h => by
    cases r with
    | error e => exact False.elim h
    | ok fl =>
      cases fl with
      | ret u => exact h
      | next => exact h
      | brk => exact h
      | cont => exact h⟩
/-- an own class of errors, by the written part alone -/
theorem own_in {K : PySem.W.Frag} {hp : Heap} {mg : Str → Option Value} {x : Str} {cl : Addr} {ms : List Value} {nw : String} (kin : K.In hp) (nm : mg x = some (.ref cl)) (ok : excIn K cl ms nw = true) : OwnCls x cl ms nw mg hp := by
  refine ⟨nm, ?_⟩
  unfold excIn at ok
  split at ok
  case h_2 => cases ok
  rename_i dct rec slots at1
  split at ok
  case h_2 => cases ok
  rename_i cl2 more y0 y1 y2 y3 nw2 y5 emro eslots
  simp only [Bool.and_eq_true, beq_iff_eq, Bool.not_eq_true'] at ok
  rcases ok with ⟨⟨⟨⟨⟨e1, e2⟩, nodel⟩, tl⟩, nso⟩, ini⟩
  cases e1
  cases e2
  rcases rec with ⟨n1, n2, n3, n4, n5, n6, n7, n8, n9, n10, n11⟩
  dsimp only at emro nodel nso ini
  cases emro
  cases nodel
  rcases slots with ⟨sl⟩
  dsimp only at eslots
  cases eslots
  exact ⟨more, n4, n1, n5, n2, n6, n7, n8, n9, n10, dct, y0, y1, y2, y3, y5, _, kin _ _ at1, .of_isNs (isNs_of_in kin nso), nsMap_none_of_in kin nso ini, tail_of_in kin tl⟩
/-- raise C(..) -/
def tRaise (C : Addr) (E : XK) (ta : TA) : TS := fun _ σ H => ta σ H fun vs H1 => vs.length ≤ sizeLine ∧ E (.ref C) none H1
theorem ps_raise {A : Around} {K : PySem.W.Frag} {mg : Str → Option Value} {base : Heap} {N : List Str} {qual : Str} {scope : Scope} {f : Addr} {cd : Value} {s₀ : Shared} {H₀ : Hp} {E : XK} {x : Str} {ms : List Value} {nw bn ini : String} {ta : TA} {e0 : Expr} {es : List Expr} {np cpos pos : Pos}
    (hd : A.handled = none) (FB : ExcBaseFacts bn nw ini ms) (hm : mg x = some (.ref C)) (ok : excIn K C ms nw = true) (hg : Gl (cxOf (CX1 P w) P w K mg base N qual scope f cd A outer s₀ H₀ E) x) (ha : PA (cxOf (CX1 P w) P w K mg base N qual scope f cd A outer s₀ H₀ E) (e0 :: es) ta)
    (he : starEach (e0 :: es) (envOfC qual scope s₀.heap.objs.size f cd) = (false, eval e0 (envOfC qual scope s₀.heap.objs.size f cd)) :: starEach es (envOfC qual scope s₀.heap.objs.size f cd) := by rfl)
    (hpl : (backTo cpos (starEach es (envOfC qual scope s₀.heap.objs.size f cd))).any (·.1) = false := by rfl) (hdb : (x == ("__debug__" : Str)) = false := by decide) :
    PS (cxOf (CX1 P w) P w K mg base N qual scope f cd A outer s₀ H₀ E) (.Raise (some (.Call (.Name x np) (e0 :: es) [] cpos)) none pos) (tRaise C E ta) := by
  intro pins s σ H D I h
  have O := own_in (mg := mg) I.ok.mod.kin hm ok
  obtain ⟨more, n4, n1, n5, n2, n6, n7, n8, n9, n10, dct, y0, y1, y2, y3, y5, mN, gC, gN, noI, tl⟩ := O.obj
  refine wpAny_Raise_call_subT (C := C) (nm := n1) (q := n5) (N := n4) (bs := n2) (bm := more) (hdct := n6) (sn := n7) (sub := n8) (ab := n9) (col := n10) (dd := dct) (k0 := y0) (k1 := y1) (k2 := y2) (k3 := y3) (k5 := y5) FB (mN := mN) (tl.hasType FB.hasBase) hd
    (by rw [show (cxOf (CX1 P w) P w K mg base N qual scope f cd A outer s₀ H₀ E).env = envOfC qual scope s₀.heap.objs.size f cd from rfl, he]; show (false || (backTo cpos (starEach es (envOfC qual scope s₀.heap.objs.size f cd))).any (·.1)) = false; rw [hpl]; rfl) noI (ld_glob I hg hm ⟨rfl, ?_⟩ hdb)
  have k := ha cpos pins s σ H _ I h
  rw [show (cxOf (CX1 P w) P w K mg base N qual scope f cd A outer s₀ H₀ E).env = envOfC qual scope s₀.heap.objs.size f cd from rfl, he] at k ⊢
  refine Calls.evalArgs_plain (thn k fun us s2 ⟨vs, H2, I2, r2, l2, hE⟩ => ?_)
  exact ⟨rfl, by show us.length ≤ _; rw [← r2.length]; exact l2, I2.bk _ _ gC, gN.keeps I2.bk, tl.keeps I2.bk, fun h1 ea hx => raise_leaves I2 hx hE⟩
/-- a new object of ours that was not tracked is tracked from now on -/
theorem Inv.track {D : Addr} {o : HO} (I : Inv X pins σ H s) (hD : H D = none) (h0 : X.s₀.heap.get? D = none) (hL : D ≠ X.env.locals) (h2 : ∀ x c, X.env.cells.lookup x = some c → c ≠ D) (h3 : ∀ p ∈ X.pn ++ pins, p.1 ≠ D)
    (new : ObjOk X.prog X.w (upd H D o) s.heap D o) : Inv X pins σ (upd H D o) s := by
  have sm : Same H (upd H D o) := Same.upd_new hD
  have ne : ∀ b ob, X.s₀.heap.get? b = some ob → b ≠ D := fun b ob e z => by rw [z, h0] at e; cases e
  refine ⟨I.ok, I.os, I.bare, ⟨I.base.keep, I.base.slot, fun b ob e n hx => by rw [upd_ne (ne b ob e)]; exact I.base.free b ob e n hx, I.base.there, fun b xs e => sm _ _ (I.base.tups b xs e), fun b ob xs e => sm _ _ (I.base.frzs b ob xs e), fun b ps e => ?_⟩, I.loc, I.cell, by rw [upd_ne (Ne.symm hL)]; exact I.free, fun x c e => by rw [upd_ne (h2 x c e)]; exact I.freeC x c e, fun p hp => ?_, fun b u e => ?_, I.len⟩
  · obtain ⟨more, e1⟩ := I.base.tbls b ps e
    exact ⟨more, sm _ _ e1⟩
  · obtain ⟨a1, a2, a3⟩ := I.pin p hp
    exact ⟨a1, by rw [upd_ne (h3 p hp)]; exact a2, a3⟩
  · by_cases hb : b = D
    · subst hb
      rw [upd_same] at e
      cases e
      exact new
    · rw [upd_ne hb] at e
      exact (I.hok b u e).stay (fun _ _ _ q => q) (fun _ q => sm _ _ q) (fun _ _ q => sm _ _ q) fun _ _ q => sm _ _ q
/-- the def's state with the error at hand -/
theorem fly_inv {s' : Shared} {h5 : Heap} (I : Inv X pins σ H s) (fw : Flew X.prog X.w X.stack H s ea C H' s') :
    ∃ B t, Heap.FlyingW B X.stack ea (.ref C) (.ref t) s'.heap ∧ ∀ h5, Heap.FlyingW B X.stack ea (.ref C) (.ref t) h5 → s'.heap.UpToSlots h5 → Inv X pins σ H' { s' with heap := h5 } := by
  obtain ⟨os, bare, un, hok, new, nfre, B, t, fly, kb, tb, th⟩ := fw
  refine ⟨B, t, fly, fun h5 fl us => I.call' (s' := { s' with heap := h5 }) (ch := []) os ⟨fun b o e n hb _ => fl.1 b o (kb b o e n hb), fun b o e n hb _ => ?_, un.free, fun b o e _ => ?_, un.tups, un.frzs, un.tbls⟩ (fun b u e => ?_) bare (fun b z => absurd z (by simp))⟩
  · obtain ⟨sl1, e2⟩ := un.slot b _ e n hb (by simp)
    obtain ⟨sl2, e3⟩ := frame_slots fly.2.2.1 us hb e2
    exact ⟨sl2, e3⟩
  · by_cases m : b ∈ frs X.stack
    · obtain ⟨o2, e2⟩ := un.there b o e (by simp)
      obtain ⟨sl2, e3⟩ := frame_slots fly.2.2.1 us m e2
      exact ⟨_, e3⟩
    · obtain ⟨o3, e3⟩ := th b o e m
      exact ⟨o3, fl.1 b o3 e3⟩
  · refine (hok b u e).stay (fun c v hc q => fl.1 c v ?_) (fun _ q => q) (fun _ _ q => q) fun _ _ q => q
    rcases hc with rfl | hc
    · exact tb _ _ _ e q
    · exact tb _ _ _ hc q
/-- the name of the handler is taken away behind its suite -/
theorem forget_name {M : Model} {A : Around} {E : Value → Shared → Prop} {i : Nat} {n : Str} {pos : Pos} {Q : Unit → Shared → Prop} (I : Inv X pins σ H s) (hN : X.N.Nodup) (hi : X.N[i]? = some n) (hl : X.env.scope.names.lookup n = some .local)
    (h : ∀ s', Inv X pins (σ.set i none) H s' → Q () s') : wpAny M A (do bindName X.env n .none; unbindBehindTheSuite X.env n pos) Q E s := by
  unfold bindName
  refine wpAny_bind (wpAny_bind (wpAny_holding (wpAny_point (wpAny_bind (store_ok (v := .non) (u := .none) I hN hi (.inl hl) rfl (fun s1 I1 => wpAny_point ?_) (.inr hl))))))
  unfold unbindBehindTheSuite
  have hiσ : i < σ.length := by rw [I.len]; exact (List.getElem?_eq_some_iff.mp hi).1
  obtain ⟨m, hn, lk⟩ := id I1.loc
  obtain ⟨u, ru, l⟩ := lk i n .non hi (by rw [List.getElem?_set_self hiσ]) (.inl hl)
  have hv : m n = some u := by
    rcases l with l | ⟨k, _⟩
    · exact l.2
    · have k : X.env.scope.names.lookup n = some .cell ∨ X.env.scope.names.lookup n = some .free := k
      rw [hl] at k
      rcases k with k | k <;> cases k
  refine wpAny_onRaise (wpAny_unbindName_local hl hn hv (by rw [I.ok.kind]; rfl) fun h' u' hn' sb => h _ ?_)
  have oL := fun b o (e : X.s₀.heap.get? b = some o) => Nat.ne_of_lt (Nat.lt_of_lt_of_le (Heap.lt_size e) I1.ok.above)
  have tr : ∀ b w, H b = some w → b ≠ X.env.locals := fun b w e z => by rw [z, I1.free] at e; cases e
  refine ⟨I1.ok, I1.os, I1.bare, ⟨fun b o e n' hb hx => (sb.2 b (oL b o e)).trans (I1.base.keep b o e n' hb hx), fun b o e n' hb hx => ?_, I1.base.free, fun b o e hx => ?_, I1.base.tups, I1.base.frzs, I1.base.tbls⟩, ⟨_, hn', fun j y v e1 e2 e3 => ?_⟩, fun y c e => ?_, I1.free, I1.freeC, fun p hp => ?_, fun b w e => ?_, by simpa using I.len⟩
  · obtain ⟨sl, e1⟩ := I1.base.slot b o e n' hb hx
    exact ⟨sl, (sb.2 b (oL b o e)).trans e1⟩
  · obtain ⟨o', e1⟩ := I1.base.there b o e hx
    exact ⟨o', (sb.2 b (oL b o e)).trans e1⟩
  · by_cases hj : j = i
    · subst hj
      rw [List.getElem?_set_self hiσ] at e2
      cases e2
    · rw [List.getElem?_set_ne (Ne.symm hj)] at e2
      obtain ⟨u2, r2, l2⟩ := lk j y v e1 (by rw [List.getElem?_set_ne (Ne.symm hj)]; exact e2) e3
      refine ⟨u2, r2, ?_⟩
      rcases l2 with ⟨k, e⟩ | ⟨k, c, e, z⟩
      · refine .inl ⟨k, ?_⟩
        have : y ≠ n := fun z => hj (nodup_ix hN e1 (z ▸ hi))
        simp [this, e]
      · exact .inr ⟨k, c, e, z.sameBut sb (I1.cne y c e)⟩
  · obtain ⟨v2, z⟩ := I1.cell y c e
    exact ⟨v2, z.sameBut sb (I1.cne y c e)⟩
  · obtain ⟨a1, a2, a3, a4⟩ := I1.pin p hp
    exact ⟨(sb.2 p.1 a3).trans a1, a2, a3, a4⟩
  · refine (I1.hok b w e).stay (fun c v hc q => (sb.2 c ?_).trans q) (fun _ q => q) (fun _ _ q => q) fun _ _ q => q
    rcases hc with rfl | hc
    · exact tr _ _ e
    · exact tr _ _ hc
/-- within the suite of a handler -/
def cxX (X : Cx) (ea : Addr) : Cx := { X with A := X.A.mark (some (.ref ea)), calm := false, xe := fun _ _ => False }
theorem Inv.inX (I : Inv X pins σ H s) (ea : Addr) : Inv (cxX X ea) pins σ H s :=
  ⟨⟨I.ok.mod, I.ok.kind, I.ok.glob, I.ok.blt, I.ok.above, I.ok.inj, I.ok.has, I.ok.cab, (fun z => nomatch z), I.ok.frames, I.ok.stk, I.ok.exf, I.ok.bs, I.ok.bsz, I.ok.noex, I.ok.exfs, I.ok.funs, I.ok.frf⟩, I.os, I.bare, I.base, I.loc, I.cell, I.free, I.freeC, I.pin, I.hok, I.len⟩
theorem Inv.outX (hd : X.calm = true → X.A.handled = none) (I : Inv (cxX X ea) pins σ H s) : Inv X pins σ H s :=
  ⟨⟨I.ok.mod, I.ok.kind, I.ok.glob, I.ok.blt, I.ok.above, I.ok.inj, I.ok.has, I.ok.cab, hd, I.ok.frames, I.ok.stk, I.ok.exf, I.ok.bs, I.ok.bsz, I.ok.noex, I.ok.exfs, I.ok.funs, I.ok.frf⟩, I.os, I.bare, I.base, I.loc, I.cell, I.free, I.freeC, I.pin, I.hok, I.len⟩
theorem PA.nox {es : List Expr} {t : TA} (h : PA X.nox es t) : PA X es t := fun pos pins s σ H Q I hw =>
  wpAny_mono (h pos pins s σ H Q (I.wish _) hw) (fun _ _ ⟨v, H', I', r, q⟩ => ⟨v, H', I'.unwish, r, q⟩) fun _ _ z => False.elim z
/-- what is known of an error at hand: its class -/
def ExcO (ea C : Addr) : HO := .ext fun h => ∃ o, h.get? ea = some o ∧ o.cls = .ref C
/-- f(..), its error looked at -/
theorem call_in_try {k : Nat} {f : Addr} {fd : FuncData} {ps : List Str} {sp : Sp} {ds : List Value} {dvs : List V} {x : Str} {p pos : Pos} {e : Expr} {es : List Expr} {ta : TA} {Q : VK} {E : XK} (F : FnOk X.prog X.w X.K X.mg X.base (CX1 X.prog X.w) k f fd ps sp) (hr : Room k X.A) (hg : Gl X x) (hm : X.mg x = some (.ref f)) (hk : PySem.W.keepIn X.K (.ref f) = true)
    (hb : Binds X.K fd ps ds) (hd : Vals dvs ds) (ha : PA X.nox (e :: es) ta) (I : Inv X pins σ H s) (h : ta σ H fun vs H1 => sp (vs ++ dvs) H1 Q E) (hdb : (x == ("__debug__" : Str)) = false := by decide)
    (he : starEach (e :: es) X.env = (false, eval e X.env) :: starEach es X.env := by rfl) (hpl : (backTo pos (starEach es X.env)).any (·.1) = false := by rfl) :
    wpAny (model X.prog X.w) X.A (eval (.Call (.Name x p) (e :: es) [] pos) X.env) (EP X pins σ Q) (fun ev s' => ∃ H1 s1, Inv X pins σ H1 s1 ∧ CX1 X.prog X.w X.stack H1 s1 E ev s') s := by
  refine wpAny_Call_Name_kw (ld_glob I hg hm ?_ hdb)
  refine PySem.W.callWith_K (h₀ := X.base) I.ok.mod.kin hk (wpAny_mono (ha pos pins s σ H _ (I.wish _) h) (fun us s1 q => ?_) fun _ _ z => False.elim z) he hpl
  obtain ⟨vs, H1, I1, r, q⟩ := q
  have I1 := I1.unwish
  refine ⟨I1.kIn, ?_⟩
  have r2 : Vals (vs ++ dvs) (us ++ ds) := r.append hd
  have hl : (us ++ ds).length = ps.length := by rw [← r2.length]; exact F.len _ _ _ _ q
  refine wpAny_call (codeAny_mono (F.run X.A X.stack s1 H1 ⟨us, []⟩ (us ++ ds) (vs ++ dvs) Q E hr I1.env0 (hb s1 us I1.kIn hl) r2 q) fun r s' hq => ?_)
  cases r with
  | error ev => exact ⟨H1, s1, I1, hq⟩
  | ok fl =>
    cases fl with
    | ret u => exact I1.after hq
    | next => exact False.elim hq
    | brk => exact False.elim hq
    | cont => exact False.elim hq
/-- what the handler wants -/
def tCatch (K : PySem.W.Frag) (Dc : Addr) (i : Nat) (th : TS) (D : Ends) (σ : St) : XK := fun c _ H' => ∃ C, c = .ref C ∧ exmOne K (.ref C) (.ref Dc) = some true ∧ ∀ ea, H' ea = none →
  th { nx := fun σ' H2 => D.nx (σ'.set i none) H2, bk := fun σ' H2 => D.bk (σ'.set i none) H2, ct := fun σ' H2 => D.ct (σ'.set i none) H2, rt := D.rt } (σ.set i (some (.ref ea))) (upd H' ea (ExcO ea C))
theorem catch_ok {i : Nat} {n cx : Str} {Dc : Addr} {th : TS} {D : Ends} {b0 : Stmt} {suite : List Stmt} {np hpos : Pos} {ev : Value} {s' : Shared} (hst : X.stack = X.env :: X.outer) (hfr : X.env.frame = some X.env.locals) (hex : X.ex = []) (hgx : Gl X cx) (hmx : X.mg cx = some (.ref Dc)) (hN : X.N.Nodup) (hi : X.N[i]? = some n)
    (hln : X.env.scope.names.lookup n = some .local) (hs : ∀ ea, PSs (cxX X ea) (b0 :: suite) th) (I1 : Inv X pins σ H s) (cx1 : CX1 X.prog X.w X.stack H s (tCatch X.K Dc i th D σ) ev s') (hdb : (cx == ("__debug__" : Str)) = false := by decide) :
    wpAny (model X.prog X.w) X.A (noteFrame ev X.env) (fun _ s₂ => wpAny (model X.prog X.w) X.A (setFlight ev none) (fun _ s₃ =>
      wpAny (model X.prog X.w) X.A (handleBy ev X.env [.ExceptHandler (some (.Name cx np)) (some n) (b0 :: suite) hpos]) (SP X pins D) X.xe s₃) X.xe s₂) X.xe s' := by
  obtain ⟨ea, C, H', rfl, fw, C2, ec, cat, hth⟩ := cx1
  cases ec
  obtain ⟨B, t, fly, mk⟩ := fly_inv (h5 := s'.heap) I1 fw
  have fre := fw.fre
  have new := fw.new
  rw [hst] at fly
  refine wpAny_looks_onW (by rw [I1.ok.frames, hst]) hfr fly fun h4 held us4 => ?_
  refine wpAny_landsW held fun h5 fl5 us5 => ?_
  have I5 := mk h5 (by rw [hst]; exact fl5) (us4.trans us5)
  obtain ⟨ob, eo, hco⟩ := fl5.there
  refine wpAny_handleBy_cons (codeAny_handlers_test (ld_glob (X := cxX X ea) (I5.inX ea) hgx hmx ?_ hdb)) (by intro q; cases q)
  have lt : Looks (model X.prog X.w) h5 (typeOf (.ref ea)) (.ref C) := by
    have : Looks (model X.prog X.w) h5 (typeOf (.ref ea)) ob.cls := (Looks.ld eo).andThen .now
    rw [hco] at this
    exact this
  refine (exm_one (h := h5) I5.kIn lt cat).here ?_
  refine codeAny_handlers_suite_as ?_
  refine lands_againW fl5 fun h6 fl6 us6 => ?_
  have I6 := mk h6 (by rw [hst]; exact fl6) ((us4.trans us5).trans us6)
  obtain ⟨ob6, eo6, hco6⟩ := fl6.there
  have fld : ∃ vs, ob6.data = .fields vs := by
    obtain ⟨_, _, _, oe, vs, T, oT, ts, a1, a2, a3, _⟩ := fl6
    rw [a1] at eo6
    cases eo6
    exact ⟨vs, by first | exact a3 | exact a2.2⟩
  obtain ⟨fs, fld⟩ := fld
  have It : Inv X pins σ (upd H' ea (ExcO ea C)) { s' with heap := h6 } := by
    refine I6.track fre ?_ ?_ (fun y c e z => ?_) (fun p hp z => ?_) ⟨⟨ob6, eo6, hco6⟩, ⟨ob6, eo6⟩, fun h1 h2 ⟨o, e1, e2⟩ k => ⟨o, k _ e1, e2⟩⟩
    · cases q : X.s₀.heap.get? ea with
      | none => rfl
      | some o =>
        obtain ⟨o1, e1⟩ := I1.base.there ea o q (by rw [hex]; simp)
        rw [new] at e1
        cases e1
    · intro z
      obtain ⟨m, ⟨o, es, ep, e, d, _⟩, _⟩ := I6.loc
      rw [← z] at e
      have e : h6.get? ea = some o := e
      rw [eo6] at e
      cases e
      rw [fld] at d
      cases d
    · obtain ⟨v, o, e1, d⟩ := I6.cell y c e
      rw [z] at e1
      have e1 : h6.get? ea = some o := e1
      rw [eo6] at e1
      cases e1
      rw [fld] at d
      cases d
    · have e1 := (I1.pin p hp).1
      rw [z, new] at e1
      cases e1
  refine store_ok (v := .ref ea) It hN hi (.inl hln) rfl (fun s7 I7 => ?_) (.inr hln)
  refine wpAny_mono (hs ea pins s7 _ _ _ (I7.inX ea) (hth ea fre)) (fun fl s8 q => ?_) fun _ _ z => False.elim z
  have hd := I1.ok.hd
  cases fl with
  | next =>
    obtain ⟨σ8, H8, I8, q8⟩ := q
    exact forget_name (I8.outX hd) hN hi hln fun s9 I9 => ⟨_, _, I9, q8⟩
  | brk =>
    obtain ⟨σ8, H8, I8, q8⟩ := q
    exact forget_name (I8.outX hd) hN hi hln fun s9 I9 => ⟨_, _, I9, q8⟩
  | cont =>
    obtain ⟨σ8, H8, I8, q8⟩ := q
    exact forget_name (I8.outX hd) hN hi hln fun s9 I9 => ⟨_, _, I9, q8⟩
  | ret u =>
    obtain ⟨v, σ8, H8, I8, r8, q8⟩ := q
    exact forget_name (σ := σ8) (I8.outX hd) hN hi hln fun s9 I9 => ⟨v, σ8.set i none, H8, I9, r8, q8⟩
/-- try: return f(..) / except D as n: .. -/
def tTryR (K : PySem.W.Frag) (Dc : Addr) (i : Nat) (sp : Sp) (dvs : List V) (ta : TA) (th : TS) : TS := fun D σ H => ta σ H fun vs H1 => sp (vs ++ dvs) H1 D.rt (tCatch K Dc i th D σ)
/-- try: f(..) / except D as n: .. -/
def tTryE (K : PySem.W.Frag) (Dc : Addr) (i : Nat) (sp : Sp) (dvs : List V) (ta : TA) (th : TS) : TS := fun D σ H => ta σ H fun vs H1 => sp (vs ++ dvs) H1 (fun _ H2 => D.nx σ H2) (tCatch K Dc i th D σ)
theorem ps_tryE {k : Nat} {f : Addr} {fd : FuncData} {ps : List Str} {sp : Sp} {ds : List Value} {dvs : List V} {x : Str} {p pos rpos tpos : Pos} {e : Expr} {es : List Expr} {ta : TA} {i : Nat} {n cx : Str} {Dc : Addr} {th : TS} {b0 : Stmt} {suite : List Stmt} {np hpos : Pos}
    (F : FnOk X.prog X.w X.K X.mg X.base (CX1 X.prog X.w) k f fd ps sp) (hr : Room k X.A) (hg : Gl X x) (hm : X.mg x = some (.ref f)) (hk : PySem.W.keepIn X.K (.ref f) = true) (hb : Binds X.K fd ps ds) (hd : Vals dvs ds) (ha : PA X.nox (e :: es) ta)
    (hgx : Gl X cx) (hmx : X.mg cx = some (.ref Dc)) (hN : X.N.Nodup) (hi : X.N[i]? = some n) (hln : X.env.scope.names.lookup n = some .local) (hs : ∀ ea, PSs (cxX X ea) (b0 :: suite) th)
    (hst : X.stack = X.env :: X.outer := by rfl) (hfr : X.env.frame = some X.env.locals := by rfl) (hex : X.ex = [] := by rfl) (hdb : (x == ("__debug__" : Str)) = false := by decide) (hdx : (cx == ("__debug__" : Str)) = false := by decide)
    (he : starEach (e :: es) X.env = (false, eval e X.env) :: starEach es X.env := by rfl) (hpl : (backTo pos (starEach es X.env)).any (·.1) = false := by rfl) :
    PS X (.Try [.Expr (.Call (.Name x p) (e :: es) [] pos) rpos] [.ExceptHandler (some (.Name cx np)) (some n) (b0 :: suite) hpos] [] [] tpos) (tTryE X.K Dc i sp dvs ta th) := by
  intro pins s σ H D I h
  refine wpAny_Try_except (wpAny_execs_cons (wpAny_Expr_any (wpAny_mono (call_in_try (E := tCatch X.K Dc i th D σ) F hr hg hm hk hb hd ha I h hdb he hpl) (fun u s1 q => ?_) fun ev s1 q => ?_) I.quiet rfl))
  · obtain ⟨v, H1, I1, r1, q1⟩ := q
    exact wpAny_execs_nil (show wpAny _ _ (execs [] X.env) _ _ _ from wpAny_execs_nil ⟨σ, H1, I1, q1⟩)
  · obtain ⟨H1, s2, I1, cx1⟩ := q
    exact catch_ok hst hfr hex hgx hmx hN hi hln hs I1 cx1 hdx
/-- isinstance(an error at hand, a class of one's own or a built-in one), yes -/
theorem exc_answers {K : PySem.W.Frag} {x t c : Value} (ok : kitOne K t c = some true) : Answers (fun s => K.In s.heap ∧ ∀ M, Looks M s.heap (typeOf x) t) x c true := by
  intro dep tk prog w A R s hs
  obtain ⟨hp, g, d, tt, os⟩ := s
  obtain ⟨⟨kin, ty⟩, fin⟩ := hs
  unfold kitOne at ok
  unfold Builtin.«isinstance.nested»
  refine wpAny_bind ((ty (model prog w)).at ?_)
  by_cases same : (t == c) = true
  · rw [if_pos same]
    first
      | ((repeat lk); exact fin tt)
      | exact wpAny_bind (wpAny_rule (fin tt))
      | exact wpAny_bind (wpAny_rule (wpAny_pure (fin tt)))
  · rw [if_neg same] at ok
    rw [if_neg same]
    obtain ⟨k1, k2, k3⟩ := kit_cls (M := model prog w) kin ok
    have k4 : Looks (model prog w) hp (isInstance x c) true := (ty (model prog w)).andThen k3
    refine wpAny_bind (k1.at ?_)
    rw [if_pos (by decide)]
    k_delta "plainIsInstance"
    refine wpAny_bind (wpAny_bind (k2.at ?_))
    simp only [Bool.not_true, Bool.false_eq_true, if_false]
    refine wpAny_bind (k4.at ?_)
    first
      | exact wpAny_pure (wpAny_pure (fin tt))
      | (simp only [if_true]; first | exact wpAny_pure (wpAny_pure (fin tt)) | exact wpAny_pure (fin tt) | exact wpAny_bind (wpAny_pure (wpAny_pure (fin tt))))
theorem call_excYes {X : Cx} : CallR X (.builtin "isinstance") (fun xs H Q => ∃ ea C v c, xs = [.ref ea, v] ∧ ((∃ u, v = .ref u ∧ c = .ref u) ∨ ∃ T, v = .ty T ∧ c = .type T) ∧ kitOne X.K (.ref C) c = some true ∧ H ea = some (ExcO ea C) ∧ Q (.bl true) H) := by
  intro pins s σ H xs us Q I r h
  obtain ⟨ea, C, v, c, rfl, hv, ok, he, q⟩ := h
  obtain ⟨u1, u2, rfl, r1, r2⟩ := Vals.two r
  cases r1
  have e2 : u2 = c := by
    rcases hv with ⟨u, rfl, rfl⟩ | ⟨T, rfl, rfl⟩
    · exact r2
    · exact r2
  subst e2
  obtain ⟨⟨o, eo, co⟩, _⟩ := I.hok ea _ he
  have lk : ∀ M, Looks M s.heap (typeOf (.ref ea)) (.ref C) := fun M => by
    have : Looks M s.heap (typeOf (.ref ea)) o.cls := (Looks.ld eo).andThen .now
    rw [co] at this
    exact this
  exact call_isinstance (S := fun _ R s => (X.K.In s.heap ∧ ∀ M, Looks M s.heap (typeOf (.ref ea)) (.ref C)) ∧ ∀ tk, R (.ok (.ret (.bool true))) { s with toks := tk }) (fun prog w A R s hs => isinstance_outer (exc_answers ok 0 _ prog w A R s hs) (by intro z; cases z)) ⟨⟨I.kIn, lk⟩, fun tk => ⟨.bl true, H, I.tok tk, rfl, q⟩⟩
/-- sum(a list of ints) -/
theorem call_sumI {X : Cx} (hc : X.calm = true) : CallR X (.builtin "sum") (fun xs H Q => ∃ (a : Addr) (ns : List Int), xs = [.ref a] ∧ H a = some (.lst (ns.map V.int)) ∧ Q (.int ns.sum) H) := by
  intro pins s σ H xs us Q I r h
  obtain ⟨a, ns, rfl, ha, q⟩ := h
  obtain ⟨u, rfl, ru⟩ := vals1 r
  cases ru
  obtain ⟨_, its, nn, vi, e⟩ := I.hok a _ ha
  have ii := ints_of_vals vi
  obtain ⟨zs, ez⟩ := ii.allInts.items
  have en : numsOf its = ns := ii.numsOf
  have en2 : numsOf (intItems zs).toList = ns := by rw [← ez]; exact en
  rw [nums_intItems] at en2
  refine sum_intListG (xs := zs) (I.ok.hd hc) (by rw [← ez]; exact ⟨_, e, rfl, _, rfl⟩) fun h' tk t' hk => ⟨.int ns.sum, H, I.kept hk, ⟨t', ?_⟩, q⟩
  rw [preSum_eq, List.take_of_length_le (by simp), en2]
/-- an own class of errors, by the written part -/
def ExcCls (K : PySem.W.Frag) (C : Addr) : Prop := ∃ bn nw ini ms, ExcBaseFacts bn nw ini ms ∧ excIn K C ms nw = true
theorem ps_raise1 {A : Around} {K : PySem.W.Frag} {mg : Str → Option Value} {base : Heap} {N : List Str} {qual : Str} {scope : Scope} {f : Addr} {cd : Value} {s₀ : Shared} {H₀ : Hp} {E : XK} {x : Str} {ta : TA} {e0 : Expr} {es : List Expr} {np cpos pos : Pos}
    (hd : A.handled = none) (ok : ExcCls K C) (hm : mg x = some (.ref C)) (hg : Gl (cxOf (CX1 P w) P w K mg base N qual scope f cd A outer s₀ H₀ E) x) (ha : PA (cxOf (CX1 P w) P w K mg base N qual scope f cd A outer s₀ H₀ E) (e0 :: es) ta)
    (he : starEach (e0 :: es) (envOfC qual scope s₀.heap.objs.size f cd) = (false, eval e0 (envOfC qual scope s₀.heap.objs.size f cd)) :: starEach es (envOfC qual scope s₀.heap.objs.size f cd) := by rfl)
    (hpl : (backTo cpos (starEach es (envOfC qual scope s₀.heap.objs.size f cd))).any (·.1) = false := by rfl) (hdb : (x == ("__debug__" : Str)) = false := by decide) :
    PS (cxOf (CX1 P w) P w K mg base N qual scope f cd A outer s₀ H₀ E) (.Raise (some (.Call (.Name x np) (e0 :: es) [] cpos)) none pos) (tRaise C E ta) := by
  obtain ⟨bn, nw, ini, ms, FB, ok⟩ := ok
  exact ps_raise hd FB hm ok hg ha he hpl hdb
theorem Fun.okX {K : PySem.W.Frag} {mg : Str → Option Value} {base : Heap} {x qual : Str} {st : Stmt} {f : Addr} {fd : FuncData} {N ps : List Str} {k : Nat} {sp : Sp} (F : Fun K x qual st f fd) (S : FnScope N ps (defScope st)) (len : ∀ vs H Q E, sp vs H Q E → vs.length = ps.length)
    (hbody : ∀ (cdv : Value) (A : Around) (outer : List Env) (s : Shared) (H : Hp) (vs : List V) (Q : VK) (E : XK), Room k (A.deeper (envOfC qual (defScope st) s.heap.objs.size f cdv)) → sp vs H Q E →
      ∃ t, PSs (cxOf (CX1 P w) P w K mg base N qual (defScope st) f cdv A outer s H E) (defBody st) t ∧ t { nx := fun _ H' => Q .non H', rt := Q } (start N vs) H) : FnOk P w K mg base (CX1 P w) (k + 1) f fd ps sp := by
  obtain ⟨oc, od, kV, doc, pm, an, cdv, ct, osl, rfl, lk, hcd⟩ := F.ex
  exact fn_of lk hcd S len fun A outer s H vs Q E hr hsp => hbody cdv A outer s H vs Q E hr hsp
theorem rRaise {Cl : Addr} {E : XK} {ta : TA} {D : Ends} {σ : St} {H : Hp} : tRaise Cl E ta D σ H = ta σ H fun vs H1 => vs.length ≤ sizeLine ∧ E (.ref Cl) none H1 := rfl
theorem rTryR {K : PySem.W.Frag} {Dc : Addr} {i : Nat} {sp : Sp} {dvs : List V} {ta : TA} {th : TS} {D : Ends} {σ : St} {H : Hp} : tTryR K Dc i sp dvs ta th D σ H = ta σ H fun vs H1 => sp (vs ++ dvs) H1 D.rt (tCatch K Dc i th D σ) := rfl
theorem rTryE {K : PySem.W.Frag} {Dc : Addr} {i : Nat} {sp : Sp} {dvs : List V} {ta : TA} {th : TS} {D : Ends} {σ : St} {H : Hp} : tTryE K Dc i sp dvs ta th D σ H = ta σ H fun vs H1 => sp (vs ++ dvs) H1 (fun _ H2 => D.nx σ H2) (tCatch K Dc i th D σ) := rfl
end
end L2

namespace L2
open PySem PySem.Spec PyProof.Rows PySem.W
/-- [an int for each item], nothing laid -/
theorem comp_ints {K : PySem.W.Frag} {a D : Addr} {xs : List V} {te : TE} {caps : St} {H1 : Hp} {Q : VK} {o : Option V} (zs : List Int) (ha : H1 a = some (.lst xs)) (hD : H1 D = none) (hlr : zs.length = xs.length) (hz : xs.length ≤ 1000)
    (he : ∀ (i : Nat) x z, xs[i]? = some x → zs[i]? = some z → ∀ H (Q' : VK), Same H1 H → Q' (.int z) H → te (some x :: caps) H Q')
    (hd : Q (.ref D) (upd H1 D (.lst (zs.map V.int)))) : cBody (Itl K a) D (gName 0) tYes te (o :: caps) (upd H1 D (.lst [])) Q := by
  have nD : a ≠ D := ne_of_none ha hD
  refine comp_list (xs := xs) (fun i ys H => ys = (zs.take i).map V.int ∧ H = upd H1 D (.lst ys)) ⟨by simp, rfl⟩ ?_ ?_ ?_
  · rintro i ys H _ ⟨rfl, rfl⟩
    exact ⟨SqL.of (by rw [upd_ne nD]; exact ha), upd_same⟩
  · rintro i x ys H hx ⟨rfl, rfl⟩
    unfold tYes
    have hi : i < xs.length := (List.getElem?_eq_some_iff.mp hx).1
    have ez : zs[i]? = some zs[i] := List.getElem?_eq_getElem (by omega)
    refine iteT (he i x _ hx ez _ _ (Same.upd_new hD) ⟨upd_same, ?_, cn ⟨?_, by rw [upd_upd]⟩⟩)
    · rw [List.length_map, List.length_take]
      have := big1000
      omega
    · rw [take_snoc ez, List.map_append]
      rfl
  · rintro ys H ⟨rfl, rfl⟩
    rw [← hlr, List.take_length]
    exact hd
end L2

namespace L2
open PySem PySem.Spec PyProof.Rows PySem.W
/-- a dict of ways: for each place the address of its list -/
def wayD (ad : Int → Addr) (W : List (Int × List Int)) : List (Key × V) := W.map fun p => (.inl p.1, .ref (ad p.1))
theorem wayD_len {ad : Int → Addr} {W : List (Int × List Int)} : (wayD ad W).length = W.length := by unfold wayD; rw [List.length_map]
theorem wayD_keys {ad : Int → Addr} {W : List (Int × List Int)} : (wayD ad W).map (fun p => kV p.1) = (W.map (·.1)).map V.int := by
  unfold wayD
  rw [List.map_map, List.map_map]
  rfl
theorem wayD_val {ad : Int → Addr} {x : Int} : ∀ {W : List (Int × List Int)}, valV (wayD ad W) (.inl x) = if x ∈ W.map (·.1) then some (.ref (ad x)) else none
  | [] => rfl
  | p :: W => by
    unfold wayD
    rw [List.map_cons]
    by_cases e : p.1 = x
    · rw [valV_pos (by rw [e]), if_pos (by rw [← e]; simp), e]
    · rw [valV_neg (fun q => e (Sum.inl.inj q))]
      have := wayD_val (ad := ad) (x := x) (W := W)
      unfold wayD at this
      rw [this, List.map_cons]
      by_cases m : x ∈ W.map (·.1)
      · rw [if_pos m, if_pos (List.mem_cons.mpr (.inr m))]
      · rw [if_neg m, if_neg fun q => (List.mem_cons.mp q).elim (fun z => e z.symm) m]
theorem wayD_has {ad : Int → Addr} {x : Int} {W : List (Int × List Int)} : (!(valV (wayD ad W) (.inl x)).isSome) = !decide (x ∈ W.map (·.1)) := by
  rw [wayD_val]
  by_cases m : x ∈ W.map (·.1)
  · rw [if_pos m, decide_eq_true m]; rfl
  · rw [if_neg m, decide_eq_false m]; rfl
theorem wayD_put {ad : Int → Addr} {c : Int} {vp : Addr} {ks : List Int} {W : List (Int × List Int)} (nc : c ∉ W.map (·.1)) : putK (wayD ad W) (.inl c) (.ref vp) = wayD (fun x => if x = c then vp else ad x) (W ++ [(c, ks)]) := by
  rw [putK_new]
  · unfold wayD
    rw [List.map_append]
    congr 1
    · refine List.map_congr_left fun p m => ?_
      have ne : p.1 ≠ c := fun e => nc (e ▸ List.mem_map.mpr ⟨p, m, rfl⟩)
      show _ = ((.inl p.1, .ref (if p.1 = c then vp else ad p.1)) : Key × V)
      rw [if_neg ne]
    · simp
  · rw [wayD_val, if_neg nc]
theorem rDNotIn {ty td : TE} {σ : St} {H : Hp} {Q : VK} : tDNotIn ty td σ H Q = ty σ H fun y H1 => td σ H1 fun x H2 => ∃ a o, x = .ref a ∧ DGet H2 a y o ∧ Q (.bl (!o.isSome)) H2 := rfl
theorem rDGet {td ty : TE} {σ : St} {H : Hp} {Q : VK} : tDGet td ty σ H Q = td σ H fun x H1 => ty σ H1 fun y H2 => ∃ a v, x = .ref a ∧ DGet H2 a y (some v) ∧ Q v H2 := rfl
theorem rIsN {ta : TE} {σ : St} {H : Hp} {Q : VK} : tIsN ta σ H Q = ta σ H fun x H1 => Q (.bl (decide (x = .non))) H1 := rfl
theorem rNotN {ta : TE} {σ : St} {H : Hp} {Q : VK} : tNotN ta σ H Q = ta σ H fun x H1 => Q (.bl (!decide (x = .non))) H1 := rfl
end L2
namespace L2
open PySem PySem.Spec PyProof.Rows PySem.W
/-- two promises of one def -/
theorem FnOk.or {P : Program} {w : World} {K : PySem.W.Frag} {mg : Str → Option Value} {base : Heap} {CX : CXT} {k : Nat} {f : Addr} {fd : FuncData} {ps : List Str} {sp sp' : Sp} (F : FnOk P w K mg base CX k f fd ps sp) (G : FnOk P w K mg base CX k f fd ps sp') :
    FnOk P w K mg base CX k f fd ps (fun vs H Q E => sp vs H Q E ∨ sp' vs H Q E) :=
  ⟨fun vs H Q E h => h.elim (F.len vs H Q E) (G.len vs H Q E), fun A outer s H args us vs Q E hr he hb hv hs => hs.elim (F.run A outer s H args us vs Q E hr he hb hv) (G.run A outer s H args us vs Q E hr he hb hv)⟩
end L2
namespace L2
open PySem PySem.Spec PyProof.Rows PySem.W
/-- [a new thing for each item] -/
theorem comp_any {K : PySem.W.Frag} {a D : Addr} {xs : List V} {te : TE} {caps : St} {H1 : Hp} {Q : VK} {o : Option V} (Pp : Nat → V → Hp → Prop) (ha : H1 a = some (.lst xs)) (hD : H1 D = none) (hz : xs.length ≤ 1000)
    (st : ∀ j y H H', Same H H' → Pp j y H → Pp j y H') (sd : ∀ j y H ys, Pp j y H → Pp j y (upd H D (.lst ys)))
    (he : ∀ (i : Nat) x, xs[i]? = some x → ∀ H (Q' : VK), Same H1 H → (∃ ys, H D = some (.lst ys)) → (∀ y H', Same H H' → Pp i y H' → Q' y H') → te (some x :: caps) H Q')
    (hd : ∀ H' ys, Same H1 H' → ys.length = xs.length → (∀ (j : Nat) y, ys[j]? = some y → Pp j y H') → H' D = some (.lst ys) → Q (.ref D) H') : cBody (Itl K a) D (gName 0) tYes te (o :: caps) (upd H1 D (.lst [])) Q := by
  refine comp_list (xs := xs) (fun i ys H => Same H1 H ∧ H D = some (.lst ys) ∧ ys.length = i ∧ ∀ (j : Nat) y, ys[j]? = some y → Pp j y H) ⟨Same.upd_new hD, upd_same, rfl, fun j y e => by simp at e⟩ ?_ ?_ ?_
  · rintro i ys H _ ⟨s1, hd, _⟩
    exact ⟨SqL.of (s1 _ _ ha), hd⟩
  · rintro i x ys H hx ⟨s1, hdd, rfl, pt⟩
    unfold tYes
    have hi : ys.length < xs.length := (List.getElem?_eq_some_iff.mp hx).1
    refine iteT (he ys.length x hx _ _ s1 ⟨_, hdd⟩ fun y H' s2 py => ⟨s2 _ _ hdd, by have := big1000; omega, cn ⟨(s1.trans s2).upd_late hD, upd_same, by simp, fun j z ej => ?_⟩⟩)
    by_cases hj : j < ys.length
    · rw [List.getElem?_append_left hj] at ej
      exact sd _ _ _ _ (st _ _ _ _ s2 (pt j z ej))
    · have lt := (List.getElem?_eq_some_iff.mp ej).1
      have ej2 : j = ys.length := by simp at lt; omega
      subst ej2
      rw [List.getElem?_append_right (by omega), show ys.length - ys.length = 0 by omega] at ej
      have ej : y = z := by simpa using ej
      subst ej
      exact sd _ _ _ _ py
  · rintro ys H ⟨s1, hdd, hl, pt⟩
    exact hd H ys s1 hl pt hdd
/-- the ints of a list on the heap -/
def readL (H : Hp) (v : V) : List Int := match v with | .ref b => (match H b with | some (.lst l) => l.map fun x => (match x with | .int z => z | _ => 0) | _ => []) | _ => []
theorem readL_of {H : Hp} {b : Addr} {ms : List Int} (h : H b = some (.lst (ms.map V.int))) : readL H (.ref b) = ms := by
  unfold readL
  simp only [h, List.map_map]
  conv => rhs; rw [← List.map_id ms]
  exact List.map_congr_left fun x _ => rfl
end L2
namespace L2
open PySem PySem.Spec PyProof.Rows PySem.W
theorem comp_filter_range {lo : Int} {n : Nat} {D : Addr} {tc : TT} {caps : St} {H1 : Hp} {Q : VK} {o : Option V} (p : Nat → Bool) (hD : H1 D = none) (hz : n ≤ 1000)
    (hc : ∀ i, i < n → ∀ H (Q' : Bool → Hp → Prop), Same H1 H → Q' (p i) H → tc (some (.int (lo + i)) :: caps) H Q') (hd : Q (.ref D) (upd H1 D (.lst (((List.range n).filter p).map fun i : Nat => V.int (lo + i))))) : cBody (Itr lo n) D (gName 0) tc (tVar 0) (o :: caps) (upd H1 D (.lst [])) Q := by
  refine comp_range (fun i ys H => ys = ((List.range i).filter p).map (fun i : Nat => V.int (lo + i)) ∧ H = upd H1 D (.lst ys)) ⟨by simp, rfl⟩ ?_ ?_ ?_
  · rintro i ys H _ ⟨rfl, rfl⟩
    exact upd_same
  · rintro i ys H hi ⟨rfl, rfl⟩
    refine hc i hi _ _ (Same.upd_new hD) ?_
    have hlen : (((List.range i).filter p).map fun i : Nat => V.int (lo + i)).length < sizeLine := by
      rw [List.length_map]
      have h1 := List.length_filter_le p (List.range i)
      rw [List.length_range] at h1
      have := big1000
      omega
    cases q : p i with
    | true =>
      rw [if_pos rfl, rv0]
      refine ⟨upd_same, hlen, cn ⟨?_, by rw [upd_upd]⟩⟩
      rw [List.range_succ, List.filter_append, List.map_append]
      simp [q]
    | false =>
      rw [if_neg Bool.false_ne_true]
      refine cn ⟨?_, rfl⟩
      rw [List.range_succ, List.filter_append, List.map_append]
      simp [q]
  · rintro ys H ⟨rfl, rfl⟩
    exact hd
/-- the ropes that cost less than a bound -/
def cheapL (rs : List (Int × Int × Int)) (bd : Int) : List Int := (RT.all rs).filter fun k => decide (RT.cost rs k < bd)
theorem cheap_range {rs : List (Int × Int × Int)} {bd : Int} : (((List.range rs.length).filter fun i : Nat => decide (RT.cost rs i < bd)).map fun i : Nat => V.int ((0 : Int) + i)) = (cheapL rs bd).map V.int := by
  unfold cheapL RT.all RT.iota
  rw [List.filter_map, List.map_map]
  refine List.map_congr_left fun i _ => ?_
  show V.int ((0 : Int) + i) = V.int i
  rw [Int.zero_add]
theorem mem_cheap {rs : List (Int × Int × Int)} {bd k : Int} : k ∈ cheapL rs bd ↔ (0 ≤ k ∧ k < rs.length) ∧ RT.cost rs k < bd := by
  unfold cheapL
  rw [List.mem_filter, RT.mem_all]
  simp
theorem cheap_len {rs : List (Int × Int × Int)} {bd : Int} : (cheapL rs bd).length ≤ rs.length := by
  unfold cheapL
  refine Nat.le_trans (List.length_filter_le _ _) ?_
  unfold RT.all RT.iota
  rw [List.length_map, List.length_range]
  exact Nat.le_refl _
end L2
namespace L2
open PySem
theorem rBM0 {K : PySem.W.Frag} {T : String} {f : V → List V → Hp → VK → Prop} {te : TE} {σ : St} {H : Hp} {Q : VK} : tBM0 K T f te σ H Q = te σ H fun x H1 => tyV K T x H1 ∧ f x [] H1 Q := rfl
end L2
namespace L2
open PySem
end L2

namespace L2
open PySem PySem.Spec PySem.Calls PyProof.Rows PySem.W

section
variable {X : Cx} {pins : List (Addr × Obj)} {σ : St} {H : Hp} {s : Shared}
theorem vals_of_idx : ∀ (xs : List V) (us : List Value), xs.length = us.length → (∀ (i : Nat) x u, xs[i]? = some x → us[i]? = some u → RelV x u) → Vals xs us := by
  intro xs
  induction xs with
  | nil => intro us hl _; cases us with | nil => exact .nil | cons _ _ => cases hl
  | cons x xs ih =>
    intro us hl h
    cases us with
    | nil => cases hl
    | cons u us => exact .cons (h 0 x u rfl rfl) (ih us (by simpa using hl) fun i y w e1 e2 => h (i + 1) y w (by simpa using e1) (by simpa using e2))
theorem kv_keys : ∀ {l : List (Key × V)} {m : List (Key × Value)}, KV l m → ∀ (i : Nat) p k x, l[i]? = some p → m[i]? = some (k, x) → p.1 = k := by
  intro l m r
  unfold KV at r
  induction r with
  | nil => intro i p k x e; simp at e
  | cons h t ih =>
    intro i p k x e1 e2
    cases i with
    | zero => simp at e1 e2; subst e1; subst e2; exact h.1
    | succ i => exact ih i p k x (by simpa using e1) (by simpa using e2)
/-- sorted(a dict whose keys are ints) -/
theorem call_sortedD (hc : X.calm = true) : CallR X (.builtin "sorted") (fun xs H Q => ∃ (a : Addr) (kvs : List (Key × V)) (ns : List Int), xs = [.ref a] ∧ H a = some (.dK kvs) ∧ kvs.map (fun p => kV p.1) = ns.map V.int ∧ ns.length < 64 ∧
    ∀ D (ns' : List Int), ns'.Perm ns → ns'.Pairwise (· ≤ ·) → H D = none → Q (.ref D) (upd H D (.lst (ns'.map V.int)))) := by
  intro pins s σ H xs us Q I r h
  obtain ⟨a, kvs, ns, rfl, ha, hk, hl, q⟩ := h
  obtain ⟨u, rfl, ru⟩ := vals1 r
  cases ru
  obtain ⟨z, hd, vs, rel, o, es, ep, dd⟩ := dk_of I.hok ha
  have lv : kvs.length = vs.length := Paired.length rel
  have lk : kvs.length = ns.length := by have := congrArg List.length hk; simpa using this
  refine call_function_entry kind_sorted plain_sorted entry_sorted (args_sorted1 _) ?_
  unfold Builtin.«sorted»
  refine wpAny_bind (m := checkCount "sorted" 1 1 _) (wpAny_pure ?_)
  refine wpAny_bind (kdu_collect (A := X.A.in1) (kdl_dict (knd := mixKind X.prog X.w) (kvs := vs) (ep := ep) hd) (I.ok.hd hc) ⟨o, es, dd⟩ (by omega) fun h' tk acc hk0 hit => ?_)
  have hv : Vals (kvs.map fun p => kV p.1) acc.toList := by
    have hl : (kvs.map fun p => kV p.1).length = acc.toList.length := by
      have h1 := hit.1
      have h2 : acc.toList.length = acc.size := Array.length_toList
      rw [List.length_map, h2, h1, lv]
    refine vals_of_idx _ _ hl fun i x u e1 e2 => ?_
    obtain ⟨k, v, e3, e4⟩ := hit.2 i u (by simpa using e2)
    rw [List.getElem?_map] at e1
    cases q : kvs[i]? with
    | none => rw [q] at e1; cases e1
    | some p =>
      rw [q] at e1
      have e1 : kV p.1 = x := Option.some.inj e1
      subst e1
      rw [kv_keys rel i p k v q e3]
      rcases keyIs_shape e4 with ⟨j, t, rfl, rfl⟩ | ⟨y, t, rfl, rfl⟩
      · exact ⟨t, rfl⟩
      · exact ⟨t, rfl⟩
  rw [hk] at hv
  have ii := ints_of_vals hv
  have lz : acc.toList.length = ns.length := ii.length
  refine wpAny_bind (wpAny_newList ?_ (by rw [lz, sizeLine_eq]; omega))
  have hoL : (h'.push (seqObj "list" acc.toList.toArray 0)).get? h'.objs.size = some (seqObj "list" acc.toList.toArray 0) := Heap.get?_push_size _ rfl
  refine wpAny_bind (wpAny_holding (wpAny_call_entry slot_list_sort ⟨_, hoL, rfl⟩ entry_list_sort (list_sort_tree (s := { s with heap := h'.push (seqObj "list" acc.toList.toArray 0), toks := tk }) hoL ii (by omega) fun out ns' a1 a2 a3 => ⟨_, rfl, ?_⟩) (args_list_sort _)))
  obtain ⟨c2, eo⟩ := sortedHeap_at (out := out) hoL
  have lo := a1.length
  have lp := a2.length_eq
  have I0 : Inv X pins σ H { s with heap := h', toks := tk } := I.kept hk0
  refine wpAny_pure ⟨_, rfl, .ref h'.objs.size, _, I0.laid (a := h'.objs.size) (o := .lst (ns'.map V.int)) (t' := tk) (h' := sortedHeap (h'.push (seqObj "list" acc.toList.toArray 0)) h'.objs.size acc.toList out) (fun b o e => ?_) (Nat.le_refl _) ⟨?_, out.toList, c2, vals_ints a1, by simpa using eo⟩, rfl, q _ ns' a2 a3 (I0.hok.fresh (Nat.le_refl _))⟩
  · have hlt := Heap.lt_size e
    rw [sortedHeap_old (Nat.ne_of_lt hlt) (by rw [size_push']; exact Nat.lt_succ_of_lt hlt)]
    exact Heap.get?_push_of_some _ e
  · rw [List.length_map, sizeLine_eq]
    omega
end

section
variable {prog : Program} {w : World} {A : Around} {E : Value → Shared → Prop} {s : Shared}
end

section
variable {X : Cx}
end
end L2

namespace L2
open PySem PySem.Spec PySem.Calls PyProof.Rows PySem.W Builtin Builtin.ObjectAttr Builtin.Getset_descriptor

section
variable {prog : Program} {w : World} {A : Around} {E : Value → Shared → Prop} {s : Shared} {K : PySem.W.Frag} {x C : Addr} {R : Result → Shared → Prop}
/-- what the written part says of an own class of errors, for e.__class__ -/
structure NoCls (K : PySem.W.Frag) (C : Addr) : Prop where
  ga : findIn K (.ref C) "__getattribute__" = some (some (.builtin "BaseException.__getattribute__"))
  hk : findIn K (.ref C) "__getattr__" = some none
  cl : findIn K (.ref C) "__class__" = some (some (.builtin "object.__class__"))
  gt : specialIn K (.builtin "object.__class__") "__get__" = some (some (.builtin "getset_descriptor.__get__"))
  tk : takesIn K (.builtin "object.__class__") = some true
  mo : mroIn K C (.type "object") = some true
  mb : mroIn K C (.type "BaseException") = some true
  cd : (clsIn K C).isSome = true
theorem cls_found {M : Model} {h : Heap} (N : NoCls K C) (X : K.In h) : Looks M h (find (.ref x) (.ref C) "__class__") (.bind (.builtin "getset_descriptor.__get__") (.builtin "object.__class__")) := by
  have L1 := looks_findIn (M := M) X N.cl
  have L2 : Looks M h (getOf (some (.builtin "object.__class__"))) (some (.builtin "getset_descriptor.__get__")) := looks_specialIn X N.gt
  have L3 := looks_takesIn (M := M) X N.tk
  refine L1.andThen (L2.andThen ?_)
  exact (show Looks M h (dataDescriptor? (some (.builtin "object.__class__")) (some (.builtin "getset_descriptor.__get__"))) (some (.builtin "getset_descriptor.__get__", .builtin "object.__class__")) from L3.andThen .now).andThen (Looks.tag .now)
theorem cls_get {tp : Value} (X : K.In s.heap) (L0 : ∀ M, Looks M s.heap (typeOf (.ref x)) (.ref C)) (hm : mroIn K C (.type "object") = some true)
    (h : R (.ok (.ret (.ref C))) s) : codeAny (model prog w) A (.call (.builtin "getset_descriptor.__get__") ⟨[.builtin "object.__class__", .ref x, tp], []⟩) R s := by
  obtain ⟨hh, g, dr, t, os⟩ := s
  have L0 := L0 (model prog w)
  have L1 := looks_mroIn (M := model prog w) X hm
  refine codeAny_call_builtin KF.slot_gs.plain KF.entry_gs (KF.slot_gs.check _ _ _ _ _ _ _ _ KF.type_class (KF.args_gs _ _ _) ?_)
  unfold Builtin.«getset_descriptor.__get__» descrGet
  rw [dga_obj]
  refine wpAny_bind (wpAny_pure ?_)
  unfold descrGetter descrCheckInstance descrNameAndClass isInstance
  simp only [KF.owner_class]
  repeat lk
  refine ⟨Code.quiet_builtin _ (by decide +kernel), codeAny_builtin KF.entry_class ?_⟩
  unfold Builtin.«object.__class__» shownTypeOf
  repeat lk
  exact h
theorem cls_entry (N : NoCls K C) (X : K.In s.heap) (L0 : ∀ M, Looks M s.heap (typeOf (.ref x)) (.ref C)) {tk : Tok} {Q : PySem.Fin → Shared → Prop} (h : Q (.done (.ret (.ref C))) s) :
    wpAny (model prog w) A (Builtin.«object.__getattribute__» ⟨[.ref x, .str "__class__" tk], []⟩) Q E s := by
  obtain ⟨hh, g, d, t, os⟩ := s
  have L1 := L0 (model prog w)
  have L2 := cls_found (M := model prog w) (x := x) N X
  unfold Builtin.«object.__getattribute__»
  refine wpAny_bind (wpAny_pure (wpAny_bind (wpAny_pure (wpAny_bind (L1.at (wpAny_bind (L2.at ?_)))))))
  show wpAny _ _ (bindTo (.builtin "getset_descriptor.__get__") (.builtin "object.__class__") (.ref x) (.ref C)) _ _ _
  refine wpAny_bind (wpAny_holding (wpAny_call (cls_get X L0 N.mo (wpAny_pure h))))
theorem cls_call (N : NoCls K C) (X : K.In s.heap) (L0 : ∀ M, Looks M s.heap (typeOf (.ref x)) (.ref C)) {tk : Tok} (h : R (.ok (.ret (.ref C))) s) :
    codeAny (model prog w) A (.call (.builtin "BaseException.__getattribute__") ⟨[.ref x, .str "__class__" tk], []⟩) R s := by
  refine codeAny_call_builtin PySem.F.excAttr_ValueError.ga.plain PySem.F.entry_bexc_ga ?_
  obtain ⟨hh, g, d, t, os⟩ := s
  have L1 := L0 (model prog w)
  have L2 := looks_mroIn (M := model prog w) X N.mb
  have hk : builtinKind "BaseException.__getattribute__" = some .slot := by decide +kernel
  have hsplit : splitId "BaseException.__getattribute__" = some ("BaseException", "__getattribute__") := by decide +kernel
  have ha := PySem.F.args_bexc_ga (.ref x) (.str "__class__" tk)
  simp only [checkBuiltinCall, hk, hsplit]
  unfold isInstance
  refine wpAny_bind (wpAny_bind (L1.at (L2.at ?_)))
  rw [if_neg (by decide)]
  cases hsig : Manifest.signature? "BaseException.__getattribute__" with
  | none => exact wpAny_pure (cls_entry N X L0 h)
  | some sig =>
    have ha' : Bind.checkArgs "BaseException.__getattribute__" sig ⟨[.ref x, .str "__class__" tk], []⟩ = pure () := by simpa only [argsOk, hsig] using ha
    show wpAny _ _ (Bind.checkArgs "BaseException.__getattribute__" sig ⟨[.ref x, .str "__class__" tk], []⟩) _ _ _
    rw [ha']
    exact wpAny_pure (cls_entry N X L0 h)
theorem exc_class (N : NoCls K C) {Q : Option Value → Shared → Prop} (X : K.In s.heap) (L0 : ∀ M, Looks M s.heap (typeOf (.ref x)) (.ref C)) (h : Q (some (.ref C)) { s with toks := s.toks + 1 }) : wpAny (model prog w) A (getAttr? (.ref x) "__class__") Q E s := by
  obtain ⟨hh, g, d, t, os⟩ := s
  have L1 := L0 (model prog w)
  have L2 := looks_findIn (M := model prog w) X N.ga
  have L3 := looks_findIn (M := model prog w) X N.hk
  have bd := PySem.F.excAttr_ValueError.ga.bind (.ref x)
  have hx2 : (Value.builtin "BaseException.__getattribute__" == Value.builtin "object.__getattribute__") = false := by decide +kernel
  unfold getAttr? getAttrBy? getAttrBy
  refine wpAny_bind (wpAny_mkText (wpAny_bind (wpAny_attempt (wpAny_holding (wpAny_bind (L1.at (wpAny_bind (L2.at ?_))))))))
  simp only [hx2, Bool.and_false, Bool.false_eq_true, if_false]
  unfold getAttrByItsOwn hookBefore
  rw [if_pos (show onTheHeap (Value.ref C) = true from rfl)]
  refine wpAny_bind (L3.at ?_)
  unfold callGetattribute
  simp only [Bool.false_and, Bool.false_eq_true, if_false]
  unfold boundAndCalled
  rw [bd]
  refine wpAny_bind (wpAny_attempt (wpAny_holding (wpAny_bind (wpAny_pure (wpAny_call (cls_call (s := ⟨hh, g, d, t + 1, os⟩) N X L0 ?_))))))
  exact wpAny_pure (wpAny_pure h)
/-- what isinstance asks of an error -/
theorem kitx_exc {ea : Addr} (N : NoCls K C) : KitX K (.ref ea) (.ref C) (fun h => ∃ o, h.get? ea = some o ∧ o.cls = .ref C) where
  ty := fun M h _ p => by
    obtain ⟨o, e, c⟩ := p
    exact c ▸ (Looks.ld e).andThen .now
  it := fun _ _ X _ => by
    obtain ⟨cdD, hcD⟩ := Option.isSome_iff_exists.mp N.cd
    unfold clsIn at hcD
    split at hcD
    · rename_i c' d' cd' sl' ho
      intro A' Q' E' s' k q
      unfold isType loadHead
      exact wpAny_bind (wpAny_loadPart (k _ _ (X _ _ ho)) (wpAny_pure q))
    · cases hcD
  ne := fun h tp dd its n sl X htp => by
    obtain ⟨cdD, hcD⟩ := Option.isSome_iff_exists.mp N.cd
    refine Bool.eq_false_iff.mpr fun q => ?_
    have e : C = tp := Value.ref.inj (beq_iff_eq.mp q)
    subst e
    unfold clsIn at hcD
    split at hcD
    · rename_i c' d' cd' sl' ho
      have z := (X _ _ ho).symm.trans htp
      cases z
    · cases hcD
  ca := fun X p k => exc_class N X (fun M => by obtain ⟨o, e, c⟩ := p; exact c ▸ (Looks.ld e).andThen .now) k
end
/-- isinstance(an error at hand, a class of one's own or a built-in one) -/
theorem call_exc {X : Cx} : CallR X (.builtin "isinstance") (fun xs H Q => ∃ ea C v c b, xs = [.ref ea, v] ∧ ((∃ u, v = .ref u ∧ c = .ref u) ∨ ∃ T, v = .ty T ∧ c = .type T) ∧ kitOne X.K (.ref C) c = some b ∧ (b = false → NoCls X.K C) ∧ H ea = some (ExcO ea C) ∧ Q (.bl b) H) := by
  intro pins s σ H xs us Q I r h
  obtain ⟨ea, C, v, c, b, rfl, hv, ok, no, he, q⟩ := h
  cases b with
  | true => exact call_excYes pins s σ H _ us Q I r ⟨ea, C, v, c, rfl, hv, ok, he, q⟩
  | false =>
    obtain ⟨u1, u2, rfl, r1, r2⟩ := Vals.two r
    cases r1
    have e2 : u2 = c := by
      rcases hv with ⟨u, rfl, rfl⟩ | ⟨T, rfl, rfl⟩
      · exact r2
      · exact r2
    subst e2
    obtain ⟨hp, _⟩ := I.hok ea _ he
    exact kia_one (kitx_exc (no rfl)) I.kIn hp ok (by intro z; cases z) fun tk => ⟨.bl false, H, I.tok tk, rfl, q⟩
theorem callx_exc {X : Cx} {ea : Addr} : CallR (cxX X ea) (.builtin "isinstance") (fun xs H Q => ∃ ea C v c b, xs = [.ref ea, v] ∧ ((∃ u, v = .ref u ∧ c = .ref u) ∨ ∃ T, v = .ty T ∧ c = .type T) ∧ kitOne X.K (.ref C) c = some b ∧ (b = false → NoCls X.K C) ∧ H ea = some (ExcO ea C) ∧ Q (.bl b) H) := call_exc
end L2

namespace L2
open PySem PySem.Spec PySem.Calls PyProof.Rows PySem.W
section
variable {X : Cx}
end

section
variable {prog : Program} {w : World} {A : Around} {E : Value → Shared → Prop} {s : Shared} {l I S : Addr} {vs : List Value} {ns : List Int} {R : Result → Shared → Prop} {Q : Value → Shared → Prop}
theorem ints_at : ∀ {vs : List Value} {ns : List Int} {j : Nat} {v : Value}, IntsAre vs ns → vs[j]? = some v → ∃ x t, v = .int x t ∧ ns[j]? = some x
  | _, _, j, v, .nil, e => by simp at e
  | _, _, 0, v, .cons x t h, e => ⟨x, t, (by simpa using e.symm), rfl⟩
  | _, _, j + 1, v, .cons x t h, e => by
    obtain ⟨y, u, e1, e2⟩ := ints_at (j := j) h (by simpa using e)
    exact ⟨y, u, e1, by simpa using e2⟩
theorem max_default (a v : Value) : argsOk "max" ⟨[a], [(Str.ofString "default", v)]⟩ := by unfold argsOk; kernel_rfl
/-- the loop of max(.., default=None) over a list of ints; old = what is the greatest so far -/
theorem maxD_loop (hh : A.handled = none) (hlI : l ≠ I) (hlS : l ≠ S) (hSI : S ≠ I) (hi : IntsAre vs ns)
    (hR0 : ns = [] → ∀ h' tk, (∀ b o, b ≠ I → b ≠ S → s.heap.get? b = some o → h'.get? b = some o) → R (.ok (.ret .none)) { s with heap := h', toks := tk })
    (hR1 : ∀ M t h' tk, M ∈ ns → (∀ x ∈ ns, x ≤ M) → (∀ b o, b ≠ I → b ≠ S → s.heap.get? b = some o → h'.get? b = some o) → R (.ok (.ret (.int M t))) { s with heap := h', toks := tk }) :
    ∀ (r j : Nat) (h : Heap) (tk c : Nat) (old : Array Value), vs.length - j = r → j ≤ vs.length → (∀ b o, b ≠ I → b ≠ S → s.heap.get? b = some o → h.get? b = some o) → h.IsListIter I l j → h.IsList l vs.toArray → h.get? S = some (seqObj "list" old c) →
      (old = #[] ∧ j = 0 ∨ ∃ M t, old = #[.int M t, .int M t] ∧ M ∈ ns.take j ∧ ∀ x ∈ ns.take j, x ≤ M) →
      codeAny (model prog w) A (.builtin "max.loop" ⟨[.ref I, .none, .ref S], [(Str.ofString "default", .none)]⟩) R { s with heap := h, toks := tk } := by
  have hname : (toString "max" ++ toString ".loop" : String) = "max.loop" := by decide
  have W := Walks.list (prog := prog) (w := w) (A := A.in1) hh I l hlI vs.toArray
  have hsz : vs.toArray.size = vs.length := List.size_toArray ..
  have hlen := hi.length
  intro r
  induction r with
  | zero =>
    intro j h tk c old hr hj kp hit hls hS hold
    have hin : j = vs.length := by omega
    refine codeAny_builtin PySem.F.entry_max_loop ?_
    rw [Around.under_plainId PySem.F.plain_max_loop _]
    show wpAny _ A.in1 (seqItems? (.ref S) >>= _) _ _ _
    refine wpAny_bind (wpAny_seqItems hS rfl ?_)
    show wpAny _ A.in1 (tryCatch (pyNext (.ref I)) _ >>= _) _ _ _
    refine wpAny_bind (wpAny_tryCatch (W.done _ _ _ ⟨by rw [hsz, ← hin]; exact hit, hls⟩ fun h' tk' hk' => ?_))
    rcases hold with ⟨rfl, e0⟩ | ⟨M, t, rfl, mM, mx⟩
    · refine wpAny_bind (wpAny_rule (wpAny_pure (hR0 ?_ _ _ fun b o b1 b2 e => hk' b o (by simpa using b1) (kp b o b1 b2 e))))
      exact List.length_eq_zero_iff.mp (by omega)
    · have hS' := hk' S _ (by simpa using hSI) hS
      have s1 := Heap.SameBut.update h' S (Obj.mapSeq fun _ => (#[] : Array Value))
      show wpAny _ A.in1 (updateSeq S (fun _ => #[]) >>= _) _ _ _
      refine wpAny_bind ?_
      refine wpAny_updateSeq hS' rfl (wpAny_bind (wpAny_letGo (wpAny_pure ?_)))
      have et : ns.take j = ns := List.take_of_length_le (by omega)
      rw [et] at mM mx
      exact hR1 M t _ _ mM mx fun b o b1 b2 e => (s1.2 b b2).trans (hk' b o (by simpa using b1) (kp b o b1 b2 e))
  | succ r ih =>
    intro j h tk c old hr hj kp hit hls hS hold
    have hlt : j < vs.length := by omega
    refine codeAny_builtin PySem.F.entry_max_loop ?_
    rw [Around.under_plainId PySem.F.plain_max_loop _]
    show wpAny _ A.in1 (seqItems? (.ref S) >>= _) _ _ _
    refine wpAny_bind (wpAny_seqItems hS rfl ?_)
    show wpAny _ A.in1 (tryCatch (pyNext (.ref I)) _ >>= _) _ _ _
    refine wpAny_bind (wpAny_tryCatch (W.item j _ _ _ (by rw [hsz]; exact hlt) ⟨hit, hls⟩ fun v h' tk' hP hst' hk' => ?_))
    have hv : vs[j]? = some v := by simpa using hP
    obtain ⟨x, t2, rfl, hx⟩ : ∃ x t, v = .int x t ∧ ns[j]? = some x := ints_at hi hv
    obtain ⟨hit2, hls2⟩ := hst'
    have kp2 : ∀ b o, b ≠ I → b ≠ S → s.heap.get? b = some o → h'.get? b = some o := fun b o b1 b2 e => hk' b o (by simpa using b1) (kp b o b1 b2 e)
    have hS2 := hk' S _ (by simpa using hSI) hS
    have put : ∀ (ne : Array Value), ∃ c2, (∀ b o, b ≠ I → b ≠ S → s.heap.get? b = some o → (h'.update S (Obj.mapSeq fun _ => ne)).get? b = some o) ∧ (h'.update S (Obj.mapSeq fun _ => ne)).IsListIter I l (j + 1) ∧ (h'.update S (Obj.mapSeq fun _ => ne)).IsList l vs.toArray ∧ (h'.update S (Obj.mapSeq fun _ => ne)).get? S = some (seqObj "list" ne c2) := fun ne => by
      have s1 := Heap.SameBut.update h' S (Obj.mapSeq fun _ => ne)
      obtain ⟨oi, g1, g2⟩ := hit2
      obtain ⟨ol, g3, g4⟩ := hls2
      exact ⟨_, fun b o b1 b2 e => (s1.2 b b2).trans (kp2 b o b1 b2 e), ⟨oi, (s1.2 I hSI.symm).trans g1, g2⟩, ⟨ol, (s1.2 l hlS).trans g3, g4⟩, get?_update_seq hS2 fun _ => ne⟩
    have et : ns.take (j + 1) = ns.take j ++ [x] := by rw [List.take_add_one, hx]; rfl
    rcases hold with ⟨rfl, e0⟩ | ⟨M, t, rfl, mM, mx⟩
    · show wpAny _ A.in1 (updateSeq S (fun _ => #[.int x t2, .int x t2]) >>= _) _ _ _
      refine wpAny_bind ?_
      refine wpAny_updateSeq hS2 rfl ?_
      rw [hname]
      obtain ⟨c2, p1, p2, p3, p4⟩ := put #[.int x t2, .int x t2]
      refine wpAny_pure ⟨plainId_quiet PySem.F.plain_max_loop _, ih (j + 1) _ _ c2 _ (by omega) (by omega) p1 p2 p3 p4 (.inr ⟨x, t2, rfl, ?_, ?_⟩)⟩
      · rw [et]; simp
      · rw [et, e0]; simp
    · show wpAny _ A.in1 (tryCatch (holding [.int x t2, .int x t2] (richCompare .Gt (.int x t2) (.int M t) >>= _)) _ >>= _) _ _ _
      refine wpAny_bind (wpAny_tryCatch (wpAny_holding (wpAny_bind (CmpOf.ints_gt (prog := prog) (w := w) (A := A.in1) (P := fun i v => ∃ t, v = .int (if i = 0 then x else M) t) (fun i => if i = 0 then x else M) (fun i v h => h) 0 1 _ _ _ _ _ ⟨t2, rfl⟩ ⟨t, rfl⟩ ?_))))
      refine wpAny_bind (wpAny_holding (wpAny_truthy_bool ?_))
      refine wpAny_bind (wpAny_letGo (wpAny_pure ?_))
      by_cases hb' : x > M
      · have hd : decide ((if (0 : Nat) = 0 then x else M) > if (1 : Nat) = 0 then x else M) = true := by simpa using hb'
        rw [if_pos (show _ = true from hd)]
        refine wpAny_bind ?_
        refine wpAny_updateSeq hS2 rfl (wpAny_bind (wpAny_letGo ?_))
        rw [hname]
        obtain ⟨c2, p1, p2, p3, p4⟩ := put #[.int x t2, .int x t2]
        refine wpAny_pure ⟨plainId_quiet PySem.F.plain_max_loop _, ih (j + 1) _ _ c2 _ (by omega) (by omega) p1 p2 p3 p4 (.inr ⟨x, t2, rfl, ?_, fun y my => ?_⟩)⟩
        · rw [et]; simp
        · rw [et] at my
          rcases List.mem_append.mp my with q | q
          · have := mx y q; omega
          · rw [List.mem_singleton.mp q]; exact Int.le_refl _
      · have hd : decide ((if (0 : Nat) = 0 then x else M) > if (1 : Nat) = 0 then x else M) = false := by simpa using hb'
        rw [if_neg (fun z => Bool.false_ne_true (hd.symm.trans z))]
        refine wpAny_bind (wpAny_letGo ?_)
        rw [hname]
        refine wpAny_pure ⟨plainId_quiet PySem.F.plain_max_loop _, ih (j + 1) _ _ c _ (by omega) (by omega) kp2 hit2 hls2 hS2 (.inr ⟨M, t, rfl, ?_, fun y my => ?_⟩)⟩
        · rw [et]; exact List.mem_append.mpr (.inl mM)
        · rw [et] at my
          rcases List.mem_append.mp my with q | q
          · exact mx y q
          · rw [List.mem_singleton.mp q]; omega
theorem maxD_call (hh : A.handled = none) (hl : s.heap.IsList l vs.toArray) (hi : IntsAre vs ns)
    (h0 : ns = [] → ∀ h' tk, (∀ b o, s.heap.get? b = some o → h'.get? b = some o) → Q .none { s with heap := h', toks := tk })
    (h1 : ∀ M t h' tk, M ∈ ns → (∀ x ∈ ns, x ≤ M) → (∀ b o, s.heap.get? b = some o → h'.get? b = some o) → Q (.int M t) { s with heap := h', toks := tk }) :
    wpAny (model prog w) A (call (.builtin "max") [.ref l] [(Str.ofString "default", .none)]) Q E s := by
  have hname : (toString "max" ++ toString ".loop" : String) = "max.loop" := by decide
  obtain ⟨ol, hol, hlc⟩ := id hl
  have hll := Heap.lt_size hol
  refine kmk_tree PySem.F.kind_max PySem.F.plain_max PySem.F.entry_max (max_default _ _) ?_
  show wpAny _ A.in1 (Builtin.Builtins.bindParams "max" ["key", "default"] 0 ⟨[], [(Str.ofString "default", .none)]⟩ >>= _) _ _ s
  refine wpAny_bind (wpAny_of_eq (show Builtin.Builtins.bindParams "max" ["key", "default"] 0 ⟨[], [(Str.ofString "default", .none)]⟩ = pure [none, some .none] from rfl) ?_)
  refine wpAny_bind (wpAny_pure ?_)
  refine wpAny_bind (wpAny_pyIter_list hl ?_)
  refine wpAny_bind (wpAny_newList ?_ (Nat.zero_le _))
  rw [hname]
  have szS : (s.heap.push { cls := .type "list_iterator", data := .fields #[.ref l, .int 0 0] }).objs.size = s.heap.objs.size + 1 := size_push' ..
  have gI : ((s.heap.push { cls := .type "list_iterator", data := .fields #[.ref l, .int 0 0] }).push (seqObj "list" #[] 0)).get? s.heap.objs.size = some { cls := .type "list_iterator", data := .fields #[.ref l, .int 0 0] } :=
    Heap.get?_push_of_some _ (Heap.get?_push_size _ rfl)
  have gS : ((s.heap.push { cls := .type "list_iterator", data := .fields #[.ref l, .int 0 0] }).push (seqObj "list" #[] 0)).get? (s.heap.push { cls := .type "list_iterator", data := .fields #[.ref l, .int 0 0] }).objs.size = some (seqObj "list" #[] 0) := Heap.get?_push_size _ rfl
  have keep : ∀ b o, s.heap.get? b = some o → ((s.heap.push { cls := .type "list_iterator", data := .fields #[.ref l, .int 0 0] }).push (seqObj "list" #[] 0)).get? b = some o := fun b o e => Heap.get?_push_of_some _ (Heap.get?_push_of_some _ e)
  have old : ∀ h' : Heap, (∀ b o, b ≠ s.heap.objs.size → b ≠ (s.heap.push { cls := .type "list_iterator", data := .fields #[.ref l, .int 0 0] }).objs.size → s.heap.get? b = some o → h'.get? b = some o) → ∀ b o, s.heap.get? b = some o → h'.get? b = some o := fun h' k b o e => by
    have := Heap.lt_size e
    exact k b o (Nat.ne_of_lt this) (by rw [szS]; exact Nat.ne_of_lt (Nat.lt_succ_of_lt this)) e
  refine wpAny_pure ⟨plainId_quiet PySem.F.plain_max_loop _, ?_⟩
  exact maxD_loop (s := s) hh (Nat.ne_of_lt hll) (by rw [szS]; exact Nat.ne_of_lt (Nat.lt_succ_of_lt hll)) (by rw [szS]; exact Nat.ne_of_gt (Nat.lt_succ_self _)) hi (fun z h' tk k => h0 z h' tk (old h' k)) (fun M t h' tk m mx k => h1 M t h' tk m mx (old h' k))
    vs.length 0 _ s.toks 0 #[] (by omega) (Nat.zero_le _) (fun b o _ _ e => keep b o e) ⟨_, gI, rfl, rfl⟩ ⟨ol, keep _ _ hol, hlc⟩ gS (.inl ⟨rfl, rfl⟩)
end
/-- the reading of max(a list of ints, default=None) -/
def tMaxD (ta : TA) : TE := fun σ H Q => ta σ H fun vs H1 => ∃ (a : Addr) (ns : List Int), vs = [.ref a] ∧ H1 a = some (.lst (ns.map V.int)) ∧ (ns = [] → Q .non H1) ∧ ∀ M, M ∈ ns → (∀ x ∈ ns, x ≤ M) → Q (.int M) H1
theorem pe_maxD {X : Cx} {e : Expr} {ta : TA} {p pos kpos cpos : Pos} {j : Nat} (hc : X.calm = true) (hg : Gl X "max") (hm : X.mg "max" = none) (ha : PA X [e] ta)
    (hs : backTo pos (starEach [e] X.env) = (false, eval e X.env) :: backTo pos (starEach [] X.env) := by rfl) (hpl : (backTo pos (starEach [e] X.env)).any (·.1) = false := by rfl) :
    PE X (.Call (.Name "max" p) [e] [⟨some "default", .Constant .none j cpos, kpos⟩] pos) (tMaxD ta) := by
  intro pins s σ H Q I h
  refine wpAny_Call_Name_kw (ld_blt I hg hm boot_max ?_)
  refine callWith_kw (thn (ha pos pins s σ H _ I h) fun us s1 ⟨vs, H1, I1, r1, q1⟩ => ?_) hs hpl
  obtain ⟨a, ns, rfl, hl, q0, q1⟩ := q1
  obtain ⟨u, rfl, ru⟩ := vals1 r1
  cases ru
  show wpAny _ _ (evalAll [(do let v ← eval (.Constant .none j cpos) X.env; standAt pos; pure v)]) _ _ s1
  refine wpAny_evalAll_cons (wpAny_bind (Constant_none (wpAny_bind (wpAny_standAt (wpAny_pure (wpAny_evalAll_nil ?_))))))
  obtain ⟨_, its, nn, vi, e⟩ := I1.hok a _ hl
  exact maxD_call (I1.ok.hd hc) ⟨_, e, rfl, _, rfl⟩ (ints_of_vals vi) (fun z h' tk k => ⟨.non, H1, I1.kept k, rfl, q0 z⟩) fun M t h' tk m mx k => ⟨.int M, H1, I1.kept k, ⟨t, rfl⟩, q1 M m mx⟩
theorem rMaxD {ta : TA} {σ : St} {H : Hp} {Q : VK} : tMaxD ta σ H Q = ta σ H fun vs H1 => ∃ (a : Addr) (ns : List Int), vs = [.ref a] ∧ H1 a = some (.lst (ns.map V.int)) ∧ (ns = [] → Q .non H1) ∧ ∀ M, M ∈ ns → (∀ x ∈ ns, x ≤ M) → Q (.int M) H1 := rfl
end L2

namespace L2
open PySem PySem.Spec PySem.Calls PyProof.Rows PySem.W
/-- an address of ours that is neither a cell nor pinned -/
structure Ours (X : Cx) (pins : List (Addr × Obj)) (a : Addr) : Prop where
  ab : X.s₀.heap.objs.size ≤ a
  ce : ∀ x c, X.env.cells.lookup x = some c → c ≠ a
  pn : ∀ p ∈ X.pn ++ pins, p.1 ≠ a
theorem Inv.ours {X : Cx} {pins : List (Addr × Obj)} {σ : St} {H : Hp} {s : Shared} {a : Addr} (I : Inv X pins σ H s) (h : s.heap.objs.size ≤ a) : Ours X pins a where
  ab := Nat.le_trans I.sz h
  ce := fun y c z => by
    obtain ⟨v, o, ho, _⟩ := I.cell y c z
    exact Nat.ne_of_lt (Nat.lt_of_lt_of_le (Heap.lt_size ho) h)
  pn := fun p hp => Nat.ne_of_lt (Nat.lt_of_lt_of_le (Heap.lt_size (I.pin p hp).1) h)
section
variable {X : Cx} {pins : List (Addr × Obj)} {σ : St} {H : Hp} {l q It S : Addr} {xs : List V} {kf : Nat → Int} {R : Result → Shared → Prop}
/-- what the store holds behind j items -/
def MinSt (xs : List V) (kf : Nat → Int) (j : Nat) (old : Array Value) : Prop :=
  (old = #[] ∧ j = 0) ∨ ∃ (i : Nat) (x : V) (vb : Value) (tb : Tok), old = #[vb, .int (kf i) tb] ∧ i < j ∧ xs[i]? = some x ∧ RelV x vb ∧ ∀ j', j' < j → kf i ≤ kf j'
theorem minK_loop (hc : X.A.handled = none) (hl : H l = some (.lst xs)) (hSI : S ≠ It) (oS : Ours X pins S) (oI : Ours X pins It)
    (hcall : ∀ (i : Nat) x, xs[i]? = some x → ∀ pins' s' H' u, Inv X pins' σ H' s' → Same H H' → RelV x u → wpAny (model X.prog X.w) X.A.in1 (call (.ref q) [u]) (fun r s'' => ∃ H'' t, r = .int (kf i) t ∧ Inv X pins' σ H'' s'' ∧ Same H' H'') (fun _ _ => False) s')
    (hR : ∀ (i : Nat) x u s'' H'', xs[i]? = some x → (∀ j, j < xs.length → kf i ≤ kf j) → Inv X pins σ H'' s'' → Same H H'' → RelV x u → R (.ok (.ret u)) s'') (hne : xs ≠ []) :
    ∀ (r j : Nat) (s' : Shared) (H' : Hp) (old : Array Value) (c : Nat) (ob : Obj), xs.length - j = r → j ≤ xs.length → Inv X (pins ++ [(S, seqObj "list" old c), (It, ob)]) σ H' s' → Same H H' → s'.heap.IsListIter It l j → MinSt xs kf j old →
      codeAny (model X.prog X.w) X.A (.builtin "min.loop" ⟨[.ref It, .ref q, .ref S], []⟩) R s' := by
  have hname : (toString "min" ++ toString ".loop" : String) = "min.loop" := by decide
  intro r
  induction r with
  | zero =>
    intro j s' H' old c ob hr hj J sm hit hold
    have hin : j = xs.length := by omega
    have pS := J.pin (S, seqObj "list" old c) (by simp)
    have pI := J.pin (It, ob) (by simp)
    obtain ⟨_, its, nn, vi, e⟩ := J.hok l _ (sm _ _ hl)
    have hlI : l ≠ It := fun z => by have := sm _ _ hl; rw [z, pI.2.1] at this; cases this
    have W := Walks.list (prog := X.prog) (w := X.w) (A := X.A.in1) hc It l hlI its.toArray
    have hsz : its.toArray.size = xs.length := by rw [List.size_toArray, vi.length]
    refine codeAny_builtin PySem.F.entry_min_loop ?_
    rw [Around.under_plainId PySem.F.plain_min_loop _]
    show wpAny _ X.A.in1 (seqItems? (.ref S) >>= _) _ _ _
    refine wpAny_bind (wpAny_seqItems pS.1 rfl ?_)
    show wpAny _ X.A.in1 (tryCatch (pyNext (.ref It)) _ >>= _) _ _ _
    refine wpAny_bind (wpAny_tryCatch (W.done _ _ _ ⟨by rw [hsz, ← hin]; exact hit, ⟨_, e, rfl, _, rfl⟩⟩ fun h' tk' hk' => ?_))
    rcases hold with ⟨_, e0⟩ | ⟨i, x, vb, tb, rfl, hij, hx, rx, best⟩
    · exact absurd (List.length_eq_zero_iff.mp (by omega)) hne
    have J1 : Inv X pins σ H' s' := J.pins_of fun p hp => J.pin p (by simp [hp])
    have J2 : Inv X pins σ H' { s' with heap := h', toks := tk' } := J1.turned (it := It) (fun b o hb e => hk' b o (by simpa using hb) e) pI.2.1 pI.2.2.1 (.inr oI.ab) oI.ce oI.pn
    have hS' := hk' S _ (by simpa using hSI) pS.1
    have s1 := Heap.SameBut.update h' S (Obj.mapSeq fun _ => (#[] : Array Value))
    have J3 : Inv X pins σ H' { s' with heap := h'.update S (Obj.mapSeq fun _ => (#[] : Array Value)), toks := tk' } := Inv.turned (s := { s' with heap := h', toks := tk' }) (it := S) J2 (fun b o hb e => (s1.2 b hb).trans e) pS.2.1 pS.2.2.1 (.inr oS.ab) oS.ce oS.pn
    show wpAny _ X.A.in1 (updateSeq S (fun _ => #[]) >>= _) _ _ _
    refine wpAny_bind ?_
    refine wpAny_updateSeq hS' rfl (wpAny_bind (wpAny_letGo (wpAny_pure ?_)))
    exact hR i x vb _ H' hx (fun j' hj' => best j' (by omega)) J3 sm rx
  | succ r ih =>
    intro j s' H' old c ob hr hj J sm hit hold
    have hlt : j < xs.length := by omega
    have pS := J.pin (S, seqObj "list" old c) (by simp)
    have pI := J.pin (It, ob) (by simp)
    obtain ⟨_, its, nn, vi, e⟩ := J.hok l _ (sm _ _ hl)
    have hlI : l ≠ It := fun z => by have := sm _ _ hl; rw [z, pI.2.1] at this; cases this
    have W := Walks.list (prog := X.prog) (w := X.w) (A := X.A.in1) hc It l hlI its.toArray
    have hsz : its.toArray.size = xs.length := by rw [List.size_toArray, vi.length]
    refine codeAny_builtin PySem.F.entry_min_loop ?_
    rw [Around.under_plainId PySem.F.plain_min_loop _]
    show wpAny _ X.A.in1 (seqItems? (.ref S) >>= _) _ _ _
    refine wpAny_bind (wpAny_seqItems pS.1 rfl ?_)
    show wpAny _ X.A.in1 (tryCatch (pyNext (.ref It)) _ >>= _) _ _ _
    refine wpAny_bind (wpAny_tryCatch (W.item j _ _ _ (by rw [hsz]; exact hlt) ⟨hit, ⟨_, e, rfl, _, rfl⟩⟩ fun v h' tk' hP hst' hk' => ?_))
    have hv : its[j]? = some v := by simpa using hP
    have hy : xs[j]? = some xs[j] := List.getElem?_eq_getElem hlt
    have ry : RelV xs[j] v := by
      obtain ⟨u, e1, e2⟩ := vi.get hy
      rw [hv] at e1
      cases e1
      exact e2
    generalize xs[j] = y at hy ry
    obtain ⟨ob', hob', hoc, hod⟩ := id hst'.1
    have J1 : Inv X (pins ++ [(S, seqObj "list" old c)]) σ H' s' := J.pins_of fun p hp => J.pin p (by rcases List.mem_append.mp hp with z | z <;> simp at z ⊢ <;> simp [z])
    have J2 : Inv X (pins ++ [(S, seqObj "list" old c)]) σ H' { s' with heap := h', toks := tk' } := J1.turned (it := It) (fun b o hb e => hk' b o (by simpa using hb) e) pI.2.1 pI.2.2.1 (.inr oI.ab) oI.ce fun p hp => by
      rcases List.mem_append.mp hp with z | z
      · exact oI.pn p (List.mem_append.mpr (.inl z))
      · rcases List.mem_append.mp z with z | z
        · exact oI.pn p (List.mem_append.mpr (.inr z))
        · rw [List.mem_singleton.mp z]; exact hSI
    have J3 : Inv X (pins ++ [(S, seqObj "list" old c), (It, ob')]) σ H' { s' with heap := h', toks := tk' } := J2.pins_of fun p hp => by
      rcases List.mem_append.mp hp with z | z
      · exact J2.pin p (List.mem_append.mpr (.inr (List.mem_append.mpr (.inl z))))
      · rcases List.mem_cons.mp z with z | z
        · exact J2.pin p (List.mem_append.mpr (.inr (List.mem_append.mpr (.inr (by rw [z]; simp)))))
        · rw [List.mem_singleton.mp z]
          refine ⟨hob', pI.2.1, pI.2.2.1, pI.2.2.2.1, fun v z => ?_⟩
          rw [hod] at z
          cases z
    show wpAny _ X.A.in1 (tryCatch (holding [v] (call (.ref q) [v])) _ >>= _) _ _ _
    refine wpAny_bind (wpAny_tryCatch (wpAny_holding (wpAny_mono (hcall j y hy _ _ _ _ J3 sm ry) (fun r2 s2 hq => ?_) fun _ _ z => z.elim)))
    obtain ⟨H2, t2, rfl, J4, sm2⟩ := hq
    have qS := J4.pin (S, seqObj "list" old c) (by simp)
    have qI := J4.pin (It, ob') (by simp)
    have sm3 := sm.trans sm2
    have put : ∀ (ne : Array Value), ∃ c2, Inv X (pins ++ [(S, seqObj "list" ne c2), (It, ob')]) σ H2 { s2 with heap := s2.heap.update S (Obj.mapSeq fun _ => ne) } ∧ (s2.heap.update S (Obj.mapSeq fun _ => ne)).IsListIter It l (j + 1) := fun ne => by
      have s1 := Heap.SameBut.update s2.heap S (Obj.mapSeq fun _ => ne)
      obtain ⟨c2, hc2⟩ : ∃ c2, (s2.heap.update S (Obj.mapSeq fun _ => ne)).get? S = some (seqObj "list" ne c2) := ⟨_, get?_update_seq qS.1 fun _ => ne⟩
      have J5 : Inv X (pins ++ [(It, ob')]) σ H2 s2 := J4.pins_of fun p hp => J4.pin p (by rcases List.mem_append.mp hp with z | z <;> simp at z ⊢ <;> simp [z])
      have J6 : Inv X (pins ++ [(It, ob')]) σ H2 { s2 with heap := s2.heap.update S (Obj.mapSeq fun _ => ne), toks := s2.toks } := J5.turned (it := S) (fun b o hb e => (s1.2 b hb).trans e) qS.2.1 qS.2.2.1 (.inr oS.ab) oS.ce fun p hp => by
        rcases List.mem_append.mp hp with z | z
        · exact oS.pn p (List.mem_append.mpr (.inl z))
        · rcases List.mem_append.mp z with z | z
          · exact oS.pn p (List.mem_append.mpr (.inr z))
          · rw [List.mem_singleton.mp z]; exact hSI.symm
      refine ⟨c2, J6.pins_of fun p hp => ?_, ob', (s1.2 It hSI.symm).trans qI.1, hoc, hod⟩
      rcases List.mem_append.mp hp with z | z
      · exact J6.pin p (List.mem_append.mpr (.inr (List.mem_append.mpr (.inl z))))
      · rcases List.mem_cons.mp z with z | z
        · rw [z]
          exact ⟨hc2, qS.2.1, qS.2.2.1, qS.2.2.2.1, fun v z => nomatch z⟩
        · exact J6.pin p (List.mem_append.mpr (.inr (List.mem_append.mpr (.inr z))))
    rcases hold with ⟨rfl, e0⟩ | ⟨i, x, vb, tb, rfl, hij, hx, rx, best⟩
    · show wpAny _ X.A.in1 (updateSeq S (fun _ => #[v, .int (kf j) t2]) >>= _) _ _ _
      refine wpAny_bind ?_
      refine wpAny_updateSeq qS.1 rfl ?_
      rw [hname]
      obtain ⟨c2, J5, it5⟩ := put #[v, .int (kf j) t2]
      refine wpAny_pure ⟨plainId_quiet PySem.F.plain_min_loop _, ih (j + 1) _ H2 _ c2 ob' (by omega) (by omega) J5 sm3 it5 (.inr ⟨j, y, v, t2, rfl, by omega, hy, ry, fun j' hj' => ?_⟩)⟩
      have : j' = j := by omega
      subst this
      exact Int.le_refl _
    · show wpAny _ X.A.in1 (tryCatch (holding [v, .int (kf j) t2] (richCompare .Lt (.int (kf j) t2) (.int (kf i) tb) >>= _)) _ >>= _) _ _ _
      refine wpAny_bind (wpAny_tryCatch (wpAny_holding (wpAny_bind (CmpOf.ints_lt (prog := X.prog) (w := X.w) (A := X.A.in1) (P := fun i v => ∃ t, v = .int (kf i) t) kf (fun i v h => h) j i _ _ _ _ _ ⟨t2, rfl⟩ ⟨tb, rfl⟩ ?_))))
      refine wpAny_bind (wpAny_holding (wpAny_truthy_bool ?_))
      refine wpAny_bind (wpAny_letGo (wpAny_pure ?_))
      by_cases hb' : kf j < kf i
      · simp only [hb', decide_true, if_true]
        refine wpAny_bind ?_
        refine wpAny_updateSeq qS.1 rfl (wpAny_bind (wpAny_letGo ?_))
        rw [hname]
        obtain ⟨c2, J5, it5⟩ := put #[v, .int (kf j) t2]
        refine wpAny_pure ⟨plainId_quiet PySem.F.plain_min_loop _, ih (j + 1) _ H2 _ c2 ob' (by omega) (by omega) J5 sm3 it5 (.inr ⟨j, y, v, t2, rfl, by omega, hy, ry, fun j' hj' => ?_⟩)⟩
        by_cases e : j' = j
        · subst e; exact Int.le_refl _
        · have := best j' (by omega); omega
      · simp only [hb', decide_false, Bool.false_eq_true, if_false]
        refine wpAny_bind (wpAny_letGo ?_)
        rw [hname]
        refine wpAny_pure ⟨plainId_quiet PySem.F.plain_min_loop _, ih (j + 1) _ H2 _ c ob' (by omega) (by omega) J4 sm3 ⟨ob', qI.1, hoc, hod⟩ (.inr ⟨i, x, vb, tb, rfl, by omega, hx, rx, fun j' hj' => ?_⟩)⟩
        by_cases e : j' = j
        · subst e; omega
        · exact best j' (by omega)
section
variable {s : Shared} {scope : Scope} {cs : List Nat} {x : Str} {c' : Addr} {params : Arguments} {body : Expr} {ctv : Value} {te : TE} {Q : VK}
theorem minK_call (I : Inv X pins σ H s) (hcalm : X.calm = true) (room : X.A.depth < recursionLimit) (O : CompOk X scope [x] cs) (hl : H l = some (.lst xs)) (hne : xs ≠ [])
    (hq : H q = some (LamO X q params body scope c' ctv)) (hc : H c' = some (.cod (X.env.qual ++ "<lambda>")))
    (hbind : ∀ (u : Value) (fd : FuncData), fd.params = params → fd.defaults = .none → fd.kwdefaults = .none → bindArgs fd ⟨[u], []⟩ = pure [(x, u)])
    (hco : scope.isCoroutine = false) (hgen : scope.isGenerator = false)
    (he : ∀ cd s H, PE (cxLam X X.A.in1 (X.env.qual ++ "<lambda>") scope x cs q cd s H) body te)
    (hk : ∀ (i : Nat) y, xs[i]? = some y → ∀ H1, Same H H1 → ∀ Q' : VK, (∀ H2, Same H1 H2 → Q' (.int (kf i)) H2) → te (capL y σ cs) H1 Q')
    (fin : ∀ (i : Nat) y H', xs[i]? = some y → (∀ j, j < xs.length → kf i ≤ kf j) → Same H H' → Q y H') {E : Value → Shared → Prop} :
    wpAny (model X.prog X.w) X.A (call (.builtin "min") [.ref l] [(Str.ofString "key", .ref q)]) (EP X pins σ Q) E s := by
  have hname : (toString "min" ++ toString ".loop" : String) = "min.loop" := by decide
  obtain ⟨_, its, nn, vi, e⟩ := I.hok l _ hl
  have hls : s.heap.IsList l its.toArray := ⟨_, e, rfl, _, rfl⟩
  refine kmk_tree PySem.F.kind_min PySem.F.plain_min PySem.F.entry_min (kmk_min_key _ _) ?_
  show wpAny _ X.A.in1 (Builtin.Builtins.bindParams "min" ["key", "default"] 0 ⟨[], [(Str.ofString "key", .ref q)]⟩ >>= _) _ _ s
  refine wpAny_bind (wpAny_of_eq (show Builtin.Builtins.bindParams "min" ["key", "default"] 0 ⟨[], [(Str.ofString "key", .ref q)]⟩ = pure [some (.ref q), none] from rfl) ?_)
  refine wpAny_bind (wpAny_pure ?_)
  refine wpAny_bind (wpAny_pyIter_list hls ?_)
  refine wpAny_bind (wpAny_newList ?_ (Nat.zero_le _))
  rw [hname]
  have szS : (s.heap.push { cls := .type "list_iterator", data := .fields #[.ref l, .int 0 0] }).objs.size = s.heap.objs.size + 1 := size_push' ..
  have gI : ((s.heap.push { cls := .type "list_iterator", data := .fields #[.ref l, .int 0 0] }).push (seqObj "list" #[] 0)).get? s.heap.objs.size = some { cls := .type "list_iterator", data := .fields #[.ref l, .int 0 0] } :=
    Heap.get?_push_of_some _ (Heap.get?_push_size _ rfl)
  have gS : ((s.heap.push { cls := .type "list_iterator", data := .fields #[.ref l, .int 0 0] }).push (seqObj "list" #[] 0)).get? (s.heap.push { cls := .type "list_iterator", data := .fields #[.ref l, .int 0 0] }).objs.size = some (seqObj "list" #[] 0) := Heap.get?_push_size _ rfl
  have J0 : Inv X pins σ H { s with heap := (s.heap.push { cls := .type "list_iterator", data := .fields #[.ref l, .int 0 0] }).push (seqObj "list" #[] 0), toks := s.toks } := I.kept fun b o e => Heap.get?_push_of_some _ (Heap.get?_push_of_some _ e)
  have nI : H s.heap.objs.size = none := I.hok.fresh (Nat.le_refl _)
  have nS : H (s.heap.objs.size + 1) = none := I.hok.fresh (Nat.le_succ _)
  have lI : s.heap.objs.size ≠ X.env.locals := Nat.ne_of_gt I.lt
  have lS : s.heap.objs.size + 1 ≠ X.env.locals := Nat.ne_of_gt (Nat.lt_succ_of_lt I.lt)
  have fI : s.heap.objs.size ∉ X.fs := I.nofs (Nat.le_refl _)
  have fS : s.heap.objs.size + 1 ∉ X.fs := I.nofs (Nat.le_succ _)
  have J1 : Inv X (pins ++ [((s.heap.push { cls := .type "list_iterator", data := .fields #[.ref l, .int 0 0] }).objs.size, seqObj "list" #[] 0), (s.heap.objs.size, { cls := .type "list_iterator", data := .fields #[.ref l, .int 0 0] })]) σ H { s with heap := (s.heap.push { cls := .type "list_iterator", data := .fields #[.ref l, .int 0 0] }).push (seqObj "list" #[] 0), toks := s.toks } := J0.pins_of fun p hp => by
    rcases List.mem_append.mp hp with z | z
    · exact J0.pin p (List.mem_append.mpr (.inr z))
    · rcases List.mem_cons.mp z with z | z
      · rw [z]
        exact ⟨gS, by rw [szS]; exact nS, by rw [szS]; exact lS, by rw [szS]; exact fS, fun v z => nomatch z⟩
      · rw [List.mem_singleton.mp z]
        exact ⟨gI, nI, lI, fI, fun v z => nomatch z⟩
  refine wpAny_pure ⟨plainId_quiet PySem.F.plain_min_loop _, ?_⟩
  refine minK_loop (q := q) (kf := kf) (xs := xs) (I.ok.hd hcalm) hl (by rw [szS]; exact Nat.ne_of_gt (Nat.lt_succ_self _)) (by rw [szS]; exact I.ours (Nat.le_succ _)) (I.ours (Nat.le_refl _)) (fun i y hy pins' s' H' u J sm ru => ?_) (fun i y u s'' H'' hy best J sm ru => ?_) hne xs.length 0 _ H _ 0 _ (by omega) (Nat.zero_le _) J1 (Same.refl H) ⟨_, gI, rfl, rfl⟩ (.inl ⟨rfl, rfl⟩)
  · refine wpAny_mono (lam_call (A' := X.A.in1) (E := fun _ _ => False) (Q := fun v H2 => v = .int (kf i) ∧ Same H' H2) O J (I.ok.hd hcalm) rfl room (sm _ _ hq) (sm _ _ hc) ru (hbind u) hco hgen he (hk i y hy H' sm _ fun H2 s2 => ⟨rfl, s2⟩)) (fun r s2 hu => ?_) fun _ _ hF => hF.elim
    obtain ⟨v2, H2, J2, rv, rfl, sm2⟩ := hu
    obtain ⟨t, rfl⟩ := rv
    exact ⟨H2, t, rfl, J2, sm2⟩
  · exact ⟨y, H'', J, ru, fin i y H'' hy best sm⟩
end
end
/-- the reading of min(a list, key=lambda ..) -/
def tMinK (P : Addr) (qual : Str) (cs : List Nat) (ta : TA) (te : TE) : TE := fun σ H Q => ta σ H fun vs H1 => ∃ (a : Addr) (xs : List V) (kf : Nat → Int), vs = [.ref a] ∧ H1 a = some (.lst xs) ∧ xs ≠ [] ∧ H1 P = some (.ctab qual) ∧
  (∀ (i : Nat) y, xs[i]? = some y → ∀ H2, Same H1 H2 → ∀ Q' : VK, (∀ H3, Same H2 H3 → Q' (.int (kf i)) H3) → te (capL y σ cs) H2 Q') ∧ (∀ (i : Nat) y H', xs[i]? = some y → (∀ j, j < xs.length → kf i ≤ kf j) → Same H1 H' → Q y H')
theorem pe_minK {X : Cx} {scope : Scope} {cs : List Nat} {x : Str} {c P : Addr} {params : Arguments} {body e : Expr} {te : TE} {ta : TA} {p pos lpos kpos : Pos} (hcalm : X.calm = true) (room : X.A.depth < recursionLimit) (hcode : X.env.code = .ref c) (hC : codeHdIn X.K c P = true) (B : Bm X.mg X.base)
    (O : CompOk X scope [x] cs) (hg : Gl X "min") (hm : X.mg "min" = none) (ha : PA X [e] ta) (he : ∀ q cd s H, PE (cxLam X X.A.in1 (X.env.qual ++ "<lambda>") scope x cs q cd s H) body te)
    (hs : backTo pos (starEach [e] X.env) = (false, eval e X.env) :: backTo pos (starEach [] X.env) := by rfl) (hpl : (backTo pos (starEach [e] X.env)).any (·.1) = false := by rfl)
    (hdef : defaultsOf params X.env = ([], []) := by rfl)
    (hbind : ∀ (u : Value) (fd : FuncData), fd.params = params → fd.defaults = .none → fd.kwdefaults = .none → bindArgs fd ⟨[u], []⟩ = pure [(x, u)] := by intro u fd h1 h2 h3; cases fd; cases h1; cases h2; cases h3; rfl)
    (hco : scope.isCoroutine = false := by rfl) (hgen : scope.isGenerator = false := by rfl) :
    PE X (.Call (.Name "min" p) [e] [⟨some "key", .Lambda params body scope lpos, kpos⟩] pos) (tMinK P (X.env.qual ++ "<lambda>") cs ta te) := by
  intro pins s σ H Q I h
  refine wpAny_Call_Name_kw (ld_blt I hg hm boot_min ?_)
  refine callWith_kw (thn (ha pos pins s σ H _ I h) fun us s1 ⟨vs, H1, I1, r1, q1⟩ => ?_) hs hpl
  obtain ⟨a, xs, kf, rfl, hl, hne, hP, hk, fin⟩ := q1
  obtain ⟨u, rfl, ru⟩ := vals1 r1
  cases ru
  show wpAny _ _ (evalAll [(do let v ← eval (.Lambda params body scope lpos) X.env; standAt pos; pure v)]) _ _ s1
  refine wpAny_evalAll_cons (wpAny_bind (lam_make I1 O hcode (codeHd_of_K I1.ok.mod.kin hC) B hP hdef fun q c' ctv H2 s2 I2 sm nq eq ec => wpAny_bind (wpAny_standAt (wpAny_pure (wpAny_evalAll_nil ?_)))))
  exact minK_call I2 hcalm room O (sm _ _ hl) hne eq ec hbind hco hgen (fun cd s H => he q cd s H) (fun i y hy H3 s3 => hk i y hy H3 (sm.trans s3)) fun i y H' hy best s3 => fin i y H' hy best (sm.trans s3)
end L2

namespace L2
open PySem PySem.Spec PyProof.Rows
section
open PySem.SeqAt
open PySem.AutoSeq1 (wpAny_loadPart')
open PySem.MeetsSeq PySem.MeetsSeq2 PySem.MeetsSeq3
end
section
variable {prog : Program} {w : World} {A : Around} {E : Value → Shared → Prop} {s : Shared}
end
end L2

namespace L2
open PySem
end L2

namespace L2
open PySem PySem.Spec PySem.Calls PyProof.Rows PySem.W
section
variable {X : Cx}
/-- try: y = f(..) / except D as n: .. -/
def tTryA (K : PySem.W.Frag) (Dc : Addr) (i jj : Nat) (sp : Sp) (dvs : List V) (ta : TA) (th : TS) : TS := fun D σ H => ta σ H fun vs H1 => sp (vs ++ dvs) H1 (fun v H2 => D.nx (σ.set jj (some v)) H2) (tCatch K Dc i th D σ)
theorem rTryA {K : PySem.W.Frag} {Dc : Addr} {i jj : Nat} {sp : Sp} {dvs : List V} {ta : TA} {th : TS} {D : Ends} {σ : St} {H : Hp} : tTryA K Dc i jj sp dvs ta th D σ H = ta σ H fun vs H1 => sp (vs ++ dvs) H1 (fun v H2 => D.nx (σ.set jj (some v)) H2) (tCatch K Dc i th D σ) := rfl
end
end L2

namespace L2
open PySem PySem.Spec PySem.Calls PyProof.Rows PySem.W
abbrev TM := St → Hp → VK → XK → Prop
section
variable {X : Cx}
/-- a call whose error is looked at -/
def mCall (sp : Sp) (dvs : List V) (ta : TA) : TM := fun σ H Q E => ta σ H fun vs H1 => sp (vs ++ dvs) H1 Q E
def mMeth (C : Addr) (m : Str) (sp : Sp) (dvs : List V) (to : TE) (ta : TA) : TM := fun σ H Q E => to σ H fun x H1 => ∃ a dx fs, x = .ref a ∧ H1 a = some (.ins C dx fs) ∧ fs.lookup m = none ∧ ta σ H1 fun vs H2 => sp (x :: (vs ++ dvs)) H2 Q E
/-- try: if c: y = a(..) else: y = b(..) / except D as n: .. -/
def tTryIf (K : PySem.W.Frag) (Dc : Addr) (i jj : Nat) (tc : TT) (t1 t2 : TM) (th : TS) : TS := fun D σ H => tc σ H fun b H1 => if b = true then t1 σ H1 (fun v H2 => D.nx (σ.set jj (some v)) H2) (tCatch K Dc i th D σ) else t2 σ H1 (fun v H2 => D.nx (σ.set jj (some v)) H2) (tCatch K Dc i th D σ)
theorem rTryIf {K : PySem.W.Frag} {Dc : Addr} {i jj : Nat} {tc : TT} {t1 t2 : TM} {th : TS} {D : Ends} {σ : St} {H : Hp} : tTryIf K Dc i jj tc t1 t2 th D σ H = tc σ H fun b H1 => if b = true then t1 σ H1 (fun v H2 => D.nx (σ.set jj (some v)) H2) (tCatch K Dc i th D σ) else t2 σ H1 (fun v H2 => D.nx (σ.set jj (some v)) H2) (tCatch K Dc i th D σ) := rfl
theorem rMCall {sp : Sp} {dvs : List V} {ta : TA} {σ : St} {H : Hp} {Q : VK} {E : XK} : mCall sp dvs ta σ H Q E = ta σ H fun vs H1 => sp (vs ++ dvs) H1 Q E := rfl
theorem rMMeth {C : Addr} {m : Str} {sp : Sp} {dvs : List V} {to : TE} {ta : TA} {σ : St} {H : Hp} {Q : VK} {E : XK} : mMeth C m sp dvs to ta σ H Q E = to σ H fun x H1 => ∃ a dx fs, x = .ref a ∧ H1 a = some (.ins C dx fs) ∧ fs.lookup m = none ∧ ta σ H1 fun vs H2 => sp (x :: (vs ++ dvs)) H2 Q E := rfl
/-- what two handlers without a name want -/
def tCatch2 (K : PySem.W.Frag) (D1 D2 : Addr) (t1 t2 : TS) (D : Ends) (σ : St) : XK := fun c _ H' => ∃ C, c = .ref C ∧ ((exmOne K (.ref C) (.ref D1) = some true ∧ t1 D σ H') ∨ (exmOne K (.ref C) (.ref D1) = some false ∧ exmOne K (.ref C) (.ref D2) = some true ∧ t2 D σ H'))
/-- try: return f(..) / except D1: .. / except D2: .. -/
def tTryR2 (K : PySem.W.Frag) (D1 D2 : Addr) (tm : TM) (t1 t2 : TS) : TS := fun D σ H => tm σ H D.rt (tCatch2 K D1 D2 t1 t2 D σ)
theorem rTryR2 {K : PySem.W.Frag} {D1 D2 : Addr} {tm : TM} {t1 t2 : TS} {D : Ends} {σ : St} {H : Hp} : tTryR2 K D1 D2 tm t1 t2 D σ H = tm σ H D.rt (tCatch2 K D1 D2 t1 t2 D σ) := rfl
theorem rFld {K : PySem.W.Frag} {ta : TE} {f : Str} {σ : St} {H : Hp} {Q : VK} : tFld K ta f σ H Q = ta σ H fun x H1 => ∃ a C dx fs v, x = .ref a ∧ H1 a = some (.ins C dx fs) ∧ Cls K C ∧ NoAttr K C f ∧ fs.lookup f = some v ∧ Q v H1 := rfl
theorem rSFld {K : PySem.W.Frag} {ta tv : TE} {f : Str} {D : Ends} {σ : St} {H : Hp} : sFld K ta tv f D σ H = tv σ H fun y H1 => ta σ H1 fun x H2 => ∃ a C dx fs, x = .ref a ∧ H2 a = some (.ins C dx fs) ∧ Cls K C ∧ NoAttr K C f ∧ fs.length < 1000 ∧ D.nx σ (upd H2 a (.ins C dx (putF f y fs))) := rfl
theorem rMeth {C : Addr} {m : Str} {sp : Sp} {dvs : List V} {E : XK} {ta : TE} {t : TA} {σ : St} {H : Hp} {Q : VK} : tMeth C m sp dvs E ta t σ H Q = ta σ H fun x H1 => ∃ a dx fs, x = .ref a ∧ H1 a = some (.ins C dx fs) ∧ fs.lookup m = none ∧ t σ H1 fun vs H2 => sp (x :: (vs ++ dvs)) H2 Q E := rfl
theorem rMake {C : Addr} {sp : Sp} {dvs : List V} {E : XK} {t : TA} {σ : St} {H : Hp} {Q : VK} : tMake C sp dvs E t σ H Q = t σ H fun vs H1 => ∀ x dx, H1 x = none → H1 dx = none → dx ≠ x → sp (.ref x :: (vs ++ dvs)) (upd (upd H1 dx (.own x)) x (.ins C dx [])) (fun v H2 => v = .non ∧ Q (.ref x) H2) E := rfl
theorem rGSub {to ti : TE} {t : TSet} {v : V} {σ : St} {H : Hp} {Q : St → Hp → Prop} : gSub to ti t v σ H Q = to σ H fun o H1 => ti σ H1 fun i H2 => t o i v H2 fun H3 => Q σ H3 := rfl
/-- range(0, b, 3) -/
def iRngThree (ta : TA) : TI := fun σ H R => ta σ H fun vs H1 => ∃ j : Int, vs = [.int 0, .int j, .int 3] ∧ (-(2 ^ 62) ≤ j ∧ j < 2 ^ 62) ∧ R (Itc 0 3 ((j + 2) / 3).toNat) H1
theorem rIRngThree {a : TA} {σ : St} {H : Hp} {R : It → Hp → Prop} : iRngThree a σ H R = a σ H fun vs H1 => ∃ j : Int, vs = [.int 0, .int j, .int 3] ∧ (-(2 ^ 62) ≤ j ∧ j < 2 ^ 62) ∧ R (Itc 0 3 ((j + 2) / 3).toNat) H1 := rfl
theorem iteOr {a b : Bool} {A B : Prop} (h1 : a = true ∨ b = true → A) (h2 : ¬ (a = true ∨ b = true) → B) : if a = true then (if true = true then A else B) else (if b = true then A else B) := by
  cases a with
  | true => simpa using h1 (.inl rfl)
  | false =>
    cases b with
    | true => simpa using h1 (.inr rfl)
    | false => simpa using h2 (by simp)
end
end L2

local macro_rules | `(tactic| walk_at "rd") => `(tactic| try simp only [L2.rv0, L2.rvS, L2.rC, L2.rOp, L2.rUn, L2.rTest, L2.rB, L2.rBl, L2.rI0i, L2.rIi, L2.rUi, L2.rEqi, L2.rNei, L2.rEqb, L2.rNeb, L2.rNot, L2.rAnd, L2.rOr, L2.rAndV, L2.rOrV, L2.rNotV, L2.rIf, L2.rSeq, L2.rNext, L2.rDrop, L2.rRet, L2.rRetN, L2.rIfS, L2.rAsg, L2.rName, L2.rNil, L2.rCons, L2.rCB, L2.rBM, L2.rCall, L2.rTup, L2.rLst, L2.rSl, L2.rNoPart, L2.rPart, L2.rInt, L2.rChain, L2.rComp, L2.rIList, L2.rITup, L2.rIRng1, L2.rIRngTwo, L2.rK, L2.rKn, L2.rKc, L2.rDIn, L2.rRaise, L2.rTryR, L2.rTryE, L2.rTryA, L2.rDPut, L2.rDisp, L2.rPairN, L2.rPairC, L2.rDNotIn, L2.rDGet, L2.rIsN, L2.rNotN, L2.rBM0, L2.rMaxD, L2.rFld, L2.rSFld, L2.rMeth, L2.rMake, L2.rGSub, L2.rIRngThree, L2.rTryIf, L2.rMCall, L2.rMMeth, L2.rTryR2, List.set_cons_zero, List.set_cons_succ, List.append_nil, L2.capS, List.map_cons, List.map_nil, List.nil_append, List.cons_append, List.getD_cons_zero, List.getD_cons_succ])

namespace My
open PySem L2
def top (i : Nat) : Stmt := PySem.Challenge.pw_ropetree_k11_no_place.main.body.getD i (.Pass ⟨0, 0, 0, 0⟩)
abbrev s_check_places : Stmt := top 6
abbrev q_second_tree : Str := ("second_tree" : Str) ++ ".<locals>." ++ "<lambda>"
abbrev q_from_cheapest : Str := ("from_cheapest" : Str) ++ ".<locals>." ++ "<lambda>"
theorem sc_check_places : FnScope ["count", "places", "place"] ["count", "places"] (defScope s_check_places) := ⟨rfl, rfl, rfl, by decide +kernel, rfl, by decide +kernel, by decide +kernel⟩
abbrev s_check_ropes : Stmt := top 7
theorem sc_check_ropes : FnScope ["count", "ropes"] ["count", "ropes"] (defScope s_check_ropes) := ⟨rfl, rfl, rfl, by decide +kernel, rfl, by decide +kernel, by decide +kernel⟩
abbrev s_is_rope_number : Stmt := top 8
theorem sc_is_rope_number : FnScope ["ropes", "number"] ["ropes", "number"] (defScope s_is_rope_number) := ⟨rfl, rfl, rfl, by decide +kernel, rfl, by decide +kernel, by decide +kernel⟩
abbrev s_is_tree : Stmt := top 9
theorem sc_is_tree : FnScope ["count", "ropes", "numbers"] ["count", "ropes", "numbers"] (defScope s_is_tree) := ⟨rfl, rfl, rfl, by decide +kernel, rfl, by decide +kernel, by decide +kernel⟩
abbrev s_cost_of : Stmt := top 10
theorem sc_cost_of : FnScope ["ropes", "numbers"] ["ropes", "numbers"] (defScope s_cost_of) := ⟨rfl, rfl, rfl, by decide +kernel, rfl, by decide +kernel, by decide +kernel⟩
abbrev s_from_cheapest : Stmt := top 11
theorem sc_from_cheapest : FnScope ["ropes"] ["ropes"] (defScope s_from_cheapest) := ⟨rfl, rfl, rfl, by decide +kernel, rfl, by decide +kernel, by decide +kernel⟩
abbrev s_take_ringless : Stmt := top 12
theorem sc_take_ringless : FnScope ["count", "ropes", "order", "groups", "taken", "number", "one", "other"] ["count", "ropes", "order"] (defScope s_take_ringless) := ⟨rfl, rfl, rfl, by decide +kernel, rfl, by decide +kernel, by decide +kernel⟩
abbrev s_ways_from : Stmt := top 13
theorem sc_ways_from : FnScope ["ropes", "numbers", "start", "ways", "waiting", "place", "number", "far"] ["ropes", "numbers", "start"] (defScope s_ways_from) := ⟨rfl, rfl, rfl, by decide +kernel, rfl, by decide +kernel, by decide +kernel⟩
abbrev s_far_end : Stmt := top 14
theorem sc_far_end : FnScope ["rope", "place"] ["rope", "place"] (defScope s_far_end) := ⟨rfl, rfl, rfl, by decide +kernel, rfl, by decide +kernel, by decide +kernel⟩
abbrev s_least_tree : Stmt := top 16
theorem sc_least_tree : FnScope ["count", "ropes"] ["count", "ropes"] (defScope s_least_tree) := ⟨rfl, rfl, rfl, by decide +kernel, rfl, by decide +kernel, by decide +kernel⟩
abbrev s_dearest_tree : Stmt := top 17
theorem sc_dearest_tree : FnScope ["count", "ropes"] ["count", "ropes"] (defScope s_dearest_tree) := ⟨rfl, rfl, rfl, by decide +kernel, rfl, by decide +kernel, by decide +kernel⟩
abbrev s_total : Stmt := top 18
theorem sc_total : FnScope ["count", "ropes", "numbers"] ["count", "ropes", "numbers"] (defScope s_total) := ⟨rfl, rfl, rfl, by decide +kernel, rfl, by decide +kernel, by decide +kernel⟩
abbrev s_why : Stmt := top 19
theorem sc_why : FnScope ["count", "ropes", "number", "rope", "tree", "others"] ["count", "ropes", "number"] (defScope s_why) := ⟨rfl, rfl, rfl, by decide +kernel, rfl, by decide +kernel, by decide +kernel⟩
abbrev s_second_tree : Stmt := top 21
theorem sc_second_tree : FnScope ["count", "ropes", "least", "rests", "trees", "second"] ["count", "ropes"] (defScope s_second_tree) := ⟨rfl, rfl, rfl, by decide +kernel, rfl, by decide +kernel, by decide +kernel⟩
abbrev s_least_without : Stmt := top 22
theorem sc_least_without : FnScope ["count", "ropes", "out"] ["count", "ropes", "out"] (defScope s_least_without) := ⟨rfl, rfl, rfl, by decide +kernel, rfl, by decide +kernel, by decide +kernel⟩
abbrev s_steps_to : Stmt := top 23
theorem sc_steps_to : FnScope ["count", "ropes", "one", "other", "steps", "tree", "number", "out"] ["count", "ropes", "one", "other"] (defScope s_steps_to) := ⟨rfl, rfl, rfl, by decide +kernel, rfl, by decide +kernel, by decide +kernel⟩
abbrev s_rope_to_leave : Stmt := top 24
theorem sc_rope_to_leave : FnScope ["ropes", "tree", "other", "number", "rope", "ring"] ["ropes", "tree", "other", "number"] (defScope s_rope_to_leave) := ⟨rfl, rfl, rfl, by decide +kernel, rfl, by decide +kernel, by decide +kernel⟩
abbrev s_best_way : Stmt := top 26
theorem sc_best_way : FnScope ["count", "ropes", "one", "other", "ways", "numbers"] ["count", "ropes", "one", "other"] (defScope s_best_way) := ⟨rfl, rfl, rfl, by decide +kernel, rfl, by decide +kernel, by decide +kernel⟩
abbrev s_groups_below : Stmt := top 27
theorem sc_groups_below : FnScope ["count", "ropes", "bound", "cheap", "groups", "grouped", "place", "group", "member"] ["count", "ropes", "bound"] (defScope s_groups_below) := ⟨rfl, rfl, rfl, by decide +kernel, rfl, by decide +kernel, by decide +kernel⟩
abbrev s__law_upto : Stmt := top 29
theorem sc__law_upto : FnScope ["_law_script", "_law_small", "_law_great"] ["_law_script", "_law_small", "_law_great"] (defScope s__law_upto) := ⟨rfl, rfl, rfl, by decide +kernel, rfl, by decide +kernel, by decide +kernel⟩
abbrev s__law_whole : Stmt := top 30
theorem sc__law_whole : FnScope ["_law_found"] ["_law_found"] (defScope s__law_whole) := ⟨rfl, rfl, rfl, by decide +kernel, rfl, by decide +kernel, by decide +kernel⟩
abbrev s__law_at : Stmt := top 31
theorem sc__law_at : FnScope ["_law_script", "_law_k"] ["_law_script", "_law_k"] (defScope s__law_at) := ⟨rfl, rfl, rfl, by decide +kernel, rfl, by decide +kernel, by decide +kernel⟩
abbrev s__law_ropes_by : Stmt := top 32
theorem sc__law_ropes_by : FnScope ["_law_cells", "_law_count", "_law_seed", "_law_ropes", "_law_wide", "_law_far", "_law_k", "_law_one", "_law_hop", "_law_other", "_law_cost", "_law_rope"] ["_law_cells", "_law_count", "_law_seed"] (defScope s__law_ropes_by) := ⟨rfl, rfl, rfl, by decide +kernel, rfl, by decide +kernel, by decide +kernel⟩
abbrev s__law_whole_row : Stmt := top 33
theorem sc__law_whole_row : FnScope ["_law_found", "_law_one"] ["_law_found"] (defScope s__law_whole_row) := ⟨rfl, rfl, rfl, by decide +kernel, rfl, by decide +kernel, by decide +kernel⟩
abbrev s__law_same_ropes : Stmt := top 34
theorem sc__law_same_ropes : FnScope ["_law_found", "_law_ropes", "_law_k"] ["_law_found", "_law_ropes"] (defScope s__law_same_ropes) := ⟨rfl, rfl, rfl, by decide +kernel, rfl, by decide +kernel, by decide +kernel⟩
abbrev s__law_asked : Stmt := top 35
theorem sc__law_asked : FnScope ["_law_way", "_law_count", "_law_ropes", "_law_one", "_law_other"] ["_law_way", "_law_count", "_law_ropes", "_law_one", "_law_other"] (defScope s__law_asked) := ⟨rfl, rfl, rfl, by decide +kernel, rfl, by decide +kernel, by decide +kernel⟩
abbrev s__law_refuses : Stmt := top 36
theorem sc__law_refuses : FnScope ["_law_way", "_law_count", "_law_ropes", "_law_one", "_law_other", "e"] ["_law_way", "_law_count", "_law_ropes", "_law_one", "_law_other"] (defScope s__law_refuses) := ⟨rfl, rfl, rfl, by decide +kernel, rfl, by decide +kernel, by decide +kernel⟩
abbrev s_law : Stmt := top 37
theorem sc_law : FnScope ["_law_script", "_law_count", "_law_ropes", "_law_way", "_law_strange", "_law_one", "_law_other", "_law_rope", "_law_handed", "_law_turn", "_law_due"] ["_law_script"] (defScope s_law) := ⟨rfl, rfl, rfl, by decide +kernel, rfl, by decide +kernel, by decide +kernel⟩
structure Ad where
  a_check_places : Addr
  d_check_places : FuncData
  a_check_ropes : Addr
  d_check_ropes : FuncData
  a_is_rope_number : Addr
  d_is_rope_number : FuncData
  a_is_tree : Addr
  d_is_tree : FuncData
  a_cost_of : Addr
  d_cost_of : FuncData
  a_from_cheapest : Addr
  d_from_cheapest : FuncData
  c_from_cheapest : Addr
  p_from_cheapest : Addr
  a_take_ringless : Addr
  d_take_ringless : FuncData
  a_ways_from : Addr
  d_ways_from : FuncData
  a_far_end : Addr
  d_far_end : FuncData
  a_least_tree : Addr
  d_least_tree : FuncData
  a_dearest_tree : Addr
  d_dearest_tree : FuncData
  a_total : Addr
  d_total : FuncData
  a_why : Addr
  d_why : FuncData
  a_second_tree : Addr
  d_second_tree : FuncData
  c_second_tree : Addr
  p_second_tree : Addr
  a_least_without : Addr
  d_least_without : FuncData
  a_steps_to : Addr
  d_steps_to : FuncData
  a_rope_to_leave : Addr
  d_rope_to_leave : FuncData
  a_best_way : Addr
  d_best_way : FuncData
  a_groups_below : Addr
  d_groups_below : FuncData
  a__law_upto : Addr
  d__law_upto : FuncData
  a__law_whole : Addr
  d__law_whole : FuncData
  a__law_at : Addr
  d__law_at : FuncData
  a__law_ropes_by : Addr
  d__law_ropes_by : FuncData
  a__law_whole_row : Addr
  d__law_whole_row : FuncData
  a__law_same_ropes : Addr
  d__law_same_ropes : FuncData
  a__law_asked : Addr
  d__law_asked : FuncData
  a__law_refuses : Addr
  d__law_refuses : FuncData
  a_law : Addr
  d_law : FuncData
  a_RopeError : Addr
  a_NoPlace : Addr
  a_NoRope : Addr
  a_NoTree : Addr
structure Txt (K : PySem.W.Frag) (mg : Str → Option Value) (A : Ad) : Prop where
  f_check_places : Fun K "check_places" "check_places" s_check_places A.a_check_places A.d_check_places
  m_check_places : mg "check_places" = some (.ref A.a_check_places)
  k_check_places : PySem.W.keepIn K (.ref A.a_check_places) = true
  b_check_places : Binds K A.d_check_places ["count", "places"] []
  f_check_ropes : Fun K "check_ropes" "check_ropes" s_check_ropes A.a_check_ropes A.d_check_ropes
  m_check_ropes : mg "check_ropes" = some (.ref A.a_check_ropes)
  k_check_ropes : PySem.W.keepIn K (.ref A.a_check_ropes) = true
  b_check_ropes : Binds K A.d_check_ropes ["count", "ropes"] []
  f_is_rope_number : Fun K "is_rope_number" "is_rope_number" s_is_rope_number A.a_is_rope_number A.d_is_rope_number
  m_is_rope_number : mg "is_rope_number" = some (.ref A.a_is_rope_number)
  k_is_rope_number : PySem.W.keepIn K (.ref A.a_is_rope_number) = true
  b_is_rope_number : Binds K A.d_is_rope_number ["ropes", "number"] []
  f_is_tree : Fun K "is_tree" "is_tree" s_is_tree A.a_is_tree A.d_is_tree
  m_is_tree : mg "is_tree" = some (.ref A.a_is_tree)
  k_is_tree : PySem.W.keepIn K (.ref A.a_is_tree) = true
  b_is_tree : Binds K A.d_is_tree ["count", "ropes", "numbers"] []
  f_cost_of : Fun K "cost_of" "cost_of" s_cost_of A.a_cost_of A.d_cost_of
  m_cost_of : mg "cost_of" = some (.ref A.a_cost_of)
  k_cost_of : PySem.W.keepIn K (.ref A.a_cost_of) = true
  b_cost_of : Binds K A.d_cost_of ["ropes", "numbers"] []
  f_from_cheapest : Fun K "from_cheapest" "from_cheapest" s_from_cheapest A.a_from_cheapest A.d_from_cheapest
  m_from_cheapest : mg "from_cheapest" = some (.ref A.a_from_cheapest)
  k_from_cheapest : PySem.W.keepIn K (.ref A.a_from_cheapest) = true
  b_from_cheapest : Binds K A.d_from_cheapest ["ropes"] []
  e_from_cheapest : A.d_from_cheapest.code = .ref A.c_from_cheapest
  h_from_cheapest : PySem.W.codeHdIn K A.c_from_cheapest A.p_from_cheapest = true
  f_take_ringless : Fun K "take_ringless" "take_ringless" s_take_ringless A.a_take_ringless A.d_take_ringless
  m_take_ringless : mg "take_ringless" = some (.ref A.a_take_ringless)
  k_take_ringless : PySem.W.keepIn K (.ref A.a_take_ringless) = true
  b_take_ringless : Binds K A.d_take_ringless ["count", "ropes", "order"] []
  f_ways_from : Fun K "ways_from" "ways_from" s_ways_from A.a_ways_from A.d_ways_from
  m_ways_from : mg "ways_from" = some (.ref A.a_ways_from)
  k_ways_from : PySem.W.keepIn K (.ref A.a_ways_from) = true
  b_ways_from : Binds K A.d_ways_from ["ropes", "numbers", "start"] []
  f_far_end : Fun K "far_end" "far_end" s_far_end A.a_far_end A.d_far_end
  m_far_end : mg "far_end" = some (.ref A.a_far_end)
  k_far_end : PySem.W.keepIn K (.ref A.a_far_end) = true
  b_far_end : Binds K A.d_far_end ["rope", "place"] []
  f_least_tree : Fun K "least_tree" "least_tree" s_least_tree A.a_least_tree A.d_least_tree
  m_least_tree : mg "least_tree" = some (.ref A.a_least_tree)
  k_least_tree : PySem.W.keepIn K (.ref A.a_least_tree) = true
  b_least_tree : Binds K A.d_least_tree ["count", "ropes"] []
  f_dearest_tree : Fun K "dearest_tree" "dearest_tree" s_dearest_tree A.a_dearest_tree A.d_dearest_tree
  m_dearest_tree : mg "dearest_tree" = some (.ref A.a_dearest_tree)
  k_dearest_tree : PySem.W.keepIn K (.ref A.a_dearest_tree) = true
  b_dearest_tree : Binds K A.d_dearest_tree ["count", "ropes"] []
  f_total : Fun K "total" "total" s_total A.a_total A.d_total
  m_total : mg "total" = some (.ref A.a_total)
  k_total : PySem.W.keepIn K (.ref A.a_total) = true
  b_total : Binds K A.d_total ["count", "ropes", "numbers"] []
  f_why : Fun K "why" "why" s_why A.a_why A.d_why
  m_why : mg "why" = some (.ref A.a_why)
  k_why : PySem.W.keepIn K (.ref A.a_why) = true
  b_why : Binds K A.d_why ["count", "ropes", "number"] []
  f_second_tree : Fun K "second_tree" "second_tree" s_second_tree A.a_second_tree A.d_second_tree
  m_second_tree : mg "second_tree" = some (.ref A.a_second_tree)
  k_second_tree : PySem.W.keepIn K (.ref A.a_second_tree) = true
  b_second_tree : Binds K A.d_second_tree ["count", "ropes"] []
  e_second_tree : A.d_second_tree.code = .ref A.c_second_tree
  h_second_tree : PySem.W.codeHdIn K A.c_second_tree A.p_second_tree = true
  f_least_without : Fun K "least_without" "least_without" s_least_without A.a_least_without A.d_least_without
  m_least_without : mg "least_without" = some (.ref A.a_least_without)
  k_least_without : PySem.W.keepIn K (.ref A.a_least_without) = true
  b_least_without : Binds K A.d_least_without ["count", "ropes", "out"] []
  f_steps_to : Fun K "steps_to" "steps_to" s_steps_to A.a_steps_to A.d_steps_to
  m_steps_to : mg "steps_to" = some (.ref A.a_steps_to)
  k_steps_to : PySem.W.keepIn K (.ref A.a_steps_to) = true
  b_steps_to : Binds K A.d_steps_to ["count", "ropes", "one", "other"] []
  f_rope_to_leave : Fun K "rope_to_leave" "rope_to_leave" s_rope_to_leave A.a_rope_to_leave A.d_rope_to_leave
  m_rope_to_leave : mg "rope_to_leave" = some (.ref A.a_rope_to_leave)
  k_rope_to_leave : PySem.W.keepIn K (.ref A.a_rope_to_leave) = true
  b_rope_to_leave : Binds K A.d_rope_to_leave ["ropes", "tree", "other", "number"] []
  f_best_way : Fun K "best_way" "best_way" s_best_way A.a_best_way A.d_best_way
  m_best_way : mg "best_way" = some (.ref A.a_best_way)
  k_best_way : PySem.W.keepIn K (.ref A.a_best_way) = true
  b_best_way : Binds K A.d_best_way ["count", "ropes", "one", "other"] []
  f_groups_below : Fun K "groups_below" "groups_below" s_groups_below A.a_groups_below A.d_groups_below
  m_groups_below : mg "groups_below" = some (.ref A.a_groups_below)
  k_groups_below : PySem.W.keepIn K (.ref A.a_groups_below) = true
  b_groups_below : Binds K A.d_groups_below ["count", "ropes", "bound"] []
  f__law_upto : Fun K "_law_upto" "_law_upto" s__law_upto A.a__law_upto A.d__law_upto
  m__law_upto : mg "_law_upto" = some (.ref A.a__law_upto)
  k__law_upto : PySem.W.keepIn K (.ref A.a__law_upto) = true
  b__law_upto : Binds K A.d__law_upto ["_law_script", "_law_small", "_law_great"] []
  f__law_whole : Fun K "_law_whole" "_law_whole" s__law_whole A.a__law_whole A.d__law_whole
  m__law_whole : mg "_law_whole" = some (.ref A.a__law_whole)
  k__law_whole : PySem.W.keepIn K (.ref A.a__law_whole) = true
  b__law_whole : Binds K A.d__law_whole ["_law_found"] []
  f__law_at : Fun K "_law_at" "_law_at" s__law_at A.a__law_at A.d__law_at
  m__law_at : mg "_law_at" = some (.ref A.a__law_at)
  k__law_at : PySem.W.keepIn K (.ref A.a__law_at) = true
  b__law_at : Binds K A.d__law_at ["_law_script", "_law_k"] []
  f__law_ropes_by : Fun K "_law_ropes_by" "_law_ropes_by" s__law_ropes_by A.a__law_ropes_by A.d__law_ropes_by
  m__law_ropes_by : mg "_law_ropes_by" = some (.ref A.a__law_ropes_by)
  k__law_ropes_by : PySem.W.keepIn K (.ref A.a__law_ropes_by) = true
  b__law_ropes_by : Binds K A.d__law_ropes_by ["_law_cells", "_law_count", "_law_seed"] []
  f__law_whole_row : Fun K "_law_whole_row" "_law_whole_row" s__law_whole_row A.a__law_whole_row A.d__law_whole_row
  m__law_whole_row : mg "_law_whole_row" = some (.ref A.a__law_whole_row)
  k__law_whole_row : PySem.W.keepIn K (.ref A.a__law_whole_row) = true
  b__law_whole_row : Binds K A.d__law_whole_row ["_law_found"] []
  f__law_same_ropes : Fun K "_law_same_ropes" "_law_same_ropes" s__law_same_ropes A.a__law_same_ropes A.d__law_same_ropes
  m__law_same_ropes : mg "_law_same_ropes" = some (.ref A.a__law_same_ropes)
  k__law_same_ropes : PySem.W.keepIn K (.ref A.a__law_same_ropes) = true
  b__law_same_ropes : Binds K A.d__law_same_ropes ["_law_found", "_law_ropes"] []
  f__law_asked : Fun K "_law_asked" "_law_asked" s__law_asked A.a__law_asked A.d__law_asked
  m__law_asked : mg "_law_asked" = some (.ref A.a__law_asked)
  k__law_asked : PySem.W.keepIn K (.ref A.a__law_asked) = true
  b__law_asked : Binds K A.d__law_asked ["_law_way", "_law_count", "_law_ropes", "_law_one", "_law_other"] []
  f__law_refuses : Fun K "_law_refuses" "_law_refuses" s__law_refuses A.a__law_refuses A.d__law_refuses
  m__law_refuses : mg "_law_refuses" = some (.ref A.a__law_refuses)
  k__law_refuses : PySem.W.keepIn K (.ref A.a__law_refuses) = true
  b__law_refuses : Binds K A.d__law_refuses ["_law_way", "_law_count", "_law_ropes", "_law_one", "_law_other"] []
  f_law : Fun K "law" "law" s_law A.a_law A.d_law
  m_law : mg "law" = some (.ref A.a_law)
  k_law : PySem.W.keepIn K (.ref A.a_law) = true
  b_law : Binds K A.d_law ["_law_script"] []
  m_RopeError : mg "RopeError" = some (.ref A.a_RopeError)
  m_NoPlace : mg "NoPlace" = some (.ref A.a_NoPlace)
  m_NoRope : mg "NoRope" = some (.ref A.a_NoRope)
  m_NoTree : mg "NoTree" = some (.ref A.a_NoTree)
  x_NoPlace : ExcCls K A.a_NoPlace
  x_NoRope : ExcCls K A.a_NoRope
  x_NoTree : ExcCls K A.a_NoTree
  y_NoPlace_RopeError : PySem.W.exmOne K (.ref A.a_NoPlace) (.ref A.a_RopeError) = some true
  y_NoRope_RopeError : PySem.W.exmOne K (.ref A.a_NoRope) (.ref A.a_RopeError) = some true
  y_NoTree_RopeError : PySem.W.exmOne K (.ref A.a_NoTree) (.ref A.a_RopeError) = some true
  i_NoTree_NoTree : PySem.W.kitOne K (.ref A.a_NoTree) (.ref A.a_NoTree) = some true
  i_NoRope_NoTree : PySem.W.kitOne K (.ref A.a_NoRope) (.ref A.a_NoTree) = some false
  i_NoPlace_NoTree : PySem.W.kitOne K (.ref A.a_NoPlace) (.ref A.a_NoTree) = some false
  i_NoRope_NoPlace : PySem.W.kitOne K (.ref A.a_NoRope) (.ref A.a_NoPlace) = some false
  i_NoPlace_NoPlace : PySem.W.kitOne K (.ref A.a_NoPlace) (.ref A.a_NoPlace) = some true
  i_NoPlace_ValueError : PySem.W.kitOne K (.ref A.a_NoPlace) (.type "ValueError") = some true
  n_NoRope : NoCls K A.a_NoRope
  n_NoPlace : NoCls K A.a_NoPlace
  z_len : mg "len" = none
  z_list : mg "list" = none
  z_range : mg "range" = none
  z_isinstance : mg "isinstance" = none
  z_int : mg "int" = none
  z_bool : mg "bool" = none
  z_tuple : mg "tuple" = none
  z_max : mg "max" = none
  z_min : mg "min" = none
  z_all : mg "all" = none
  z_sorted : mg "sorted" = none
  z_sum : mg "sum" = none
  z_str : mg "str" = none
  z_ValueError : mg "ValueError" = none
end My

namespace My
open PySem L2
section
variable {P : Program} {w : World} {K : PySem.W.Frag} {mg : Str → Option Value} {base : Heap} {A : Ad}
def sp_check_places : Sp := fun vs H Q _ => ∃ (n : Nat) (a : Addr) (xs : List Int), vs = [.int n, .ref a] ∧ H a = some (.lst (xs.map V.int)) ∧ (∀ x ∈ xs, 0 ≤ x ∧ x < n) ∧ Q .non H
theorem ok_check_places (T : Txt K mg A) : FnOk P w K mg base CX0 1 A.a_check_places A.d_check_places ["count", "places"] sp_check_places := by
  refine T.f_check_places.ok sc_check_places (fun vs H Q E h => ?_) (fun cdv A' outer s H vs Q E hr h => ?_)
  · obtain ⟨n, a, xs, rfl, _⟩ := h
    rfl
  · obtain ⟨n, a, xs, rfl, ha, hv, k⟩ := h
    refine ⟨_, (pss_one (ps_for PassesOwn.never rfl (pi_list (pv 1)) (pg_name (i := 2) sc_check_places.nd rfl (Or.inl rfl))
      (pss_one (ps_if (pt_not (pt_chain op_le op_lt pe_int (pv 2) (pv 0))) (pss_one ps_never) pss_nil)))), ?_⟩
    refine ⟨_, rfl, a, rfl, ⟨_, SqL.of ha⟩, for_list (K := K) (a := a) (xs := xs.map V.int) (fun i σ H2 => H2 = H ∧ ∃ v, σ = [some (.int n), some (.ref a), v]) ⟨rfl, none, rfl⟩ (fun i σ H2 _ ⟨e, _⟩ => by rw [e]; exact SqL.of ha) ?_ ?_⟩
    · rintro i x σ H2 hx ⟨rfl, v, rfl⟩
      obtain ⟨z, ez, rfl⟩ := ints_got hx
      obtain ⟨h1, h2⟩ := hv z (List.mem_of_getElem? ez)
      walk_at "rd"
      simp only [h1, h2, decide_true, if_true]
      walk_at "rd"
      exact ⟨trivial, _, rfl⟩
    · rintro σ H2 ⟨rfl, v, rfl⟩
      exact k

end
end My
namespace My
open PySem L2
section
variable {P : Program} {w : World} {K : PySem.W.Frag} {mg : Str → Option Value} {base : Heap} {A : Ad}
def sp_check_ropes : Sp := fun vs H Q _ => ∃ (n : Nat) (a : Addr) (rs : List RT.Rope), vs = [.int n, .ref a] ∧ Rep H (ropesD rs) (.ref a) ∧ RT.Okr n rs ∧ rs.length ≤ 1000 ∧ ∀ H', Same H H' → Q .non H'
theorem ok_check_ropes (T : Txt K mg A) : FnOk P w K mg base CX0 2 A.a_check_ropes A.d_check_ropes ["count", "ropes"] sp_check_ropes := by
  have G_check_places : FnOk P w K mg base CX0 _ _ _ _ _ := ok_check_places T
  refine T.f_check_ropes.ok sc_check_ropes (fun vs H Q E h => ?_) (fun cdv A' outer s H vs Q E hr h => ?_)
  · obtain ⟨n, a, rs, rfl, _⟩ := h
    rfl
  · obtain ⟨n, a, rs, rfl, hrep, hv, hl, k⟩ := h
    obtain ⟨a', xs, e, ha, hxs⟩ := rep_lst.mp hrep
    cases e
    have lxs : xs.length = rs.length := by have := hxs.length; rw [List.length_map] at this; exact this.symm
    refine ⟨_, (pss_one (ps_expr (pe_call G_check_places (hr.mono (by decide)) rfl T.m_check_places T.k_check_places T.b_check_places .nil pass0 (pa_cons (pv 0) (pa_cons (pe_op op_cat (pe_comp1 rfl (CompOk.of (os := defScope s_check_ropes) (N := ["count", "ropes"]) (ts := ["rope"]) (cs := []) (by decide +kernel) rfl rfl) (pi_list (pv 1)) (fun _ _ _ _ _ => pif_nil) (fun _ _ _ _ _ => (pe_ix ixc_tup (pv 0) pe_int (fun _ _ => rfl)))) (pe_comp1 rfl (CompOk.of (os := defScope s_check_ropes) (N := ["count", "ropes"]) (ts := ["rope"]) (cs := []) (by decide +kernel) rfl rfl) (pi_list (pv 1)) (fun _ _ _ _ _ => pif_nil) (fun _ _ _ _ _ => (pe_ix ixc_tup (pv 0) pe_int (fun _ _ => rfl))))) pa_nil))))), ?_⟩
    rw [show start ["count", "ropes"] [.int n, .ref a] = [some (.int n), some (.ref a)] from rfl]
    walk_at "rd"
    refine ⟨a, rfl, ⟨_, SqL.of ha⟩, fun D hD => comp_ints (rs.map fun r => r.1) ha hD (by rw [List.length_map]; omega) (by omega) (fun i x z hx hz H2 Q' s2 q => ?_) ?_⟩
    · obtain ⟨r, p, m, rfl, hp⟩ := ropes_gotI hxs hx
      rw [List.getElem?_map, m] at hz
      cases hz
      walk_at "rd"
      exact rd_tup (s2 _ _ hp) rfl q
    have s1 : Same H (upd H D (.lst ((rs.map fun r => r.1).map V.int))) := Same.upd_new hD
    walk_at "rd"
    refine ⟨a, rfl, ⟨_, SqL.of (s1 _ _ ha)⟩, fun D2 hD2 => comp_ints (rs.map fun r => r.2.1) (s1 _ _ ha) hD2 (by rw [List.length_map]; omega) (by omega) (fun i x z hx hz H2 Q' s2 q => ?_) ?_⟩
    · obtain ⟨r, p, m, rfl, hp⟩ := ropes_gotI hxs hx
      rw [List.getElem?_map, m] at hz
      cases hz
      walk_at "rd"
      exact rd_tup (s2 _ _ (s1 _ _ hp)) rfl q
    have s2 : Same H (upd (upd H D (.lst ((rs.map fun r => r.1).map V.int))) D2 (.lst ((rs.map fun r => r.2.1).map V.int))) := s1.trans (Same.upd_new hD2)
    walk_at "rd"
    refine ⟨D, D2, _, _, rfl, rfl, (Same.upd_new hD2) _ _ upd_same, upd_same, ?_, fun p hp => ?_⟩
    · simp only [List.length_map]
      have := big1000
      have : 2000 ≤ sizeLine := by decide
      omega
    walk_at "rd"
    refine ⟨n, p, (rs.map fun r => r.1) ++ (rs.map fun r => r.2.1), rfl, by rw [upd_same, List.map_append], fun x m => ?_, k _ (s2.trans (Same.upd_new hp))⟩
    rcases List.mem_append.mp m with m | m
    · obtain ⟨r, mr, rfl⟩ := List.mem_map.mp m
      exact (hv r mr).1
    · obtain ⟨r, mr, rfl⟩ := List.mem_map.mp m
      exact (hv r mr).2

end
end My
namespace My
open PySem L2
section
variable {P : Program} {w : World} {K : PySem.W.Frag} {mg : Str → Option Value} {base : Heap} {A : Ad}
def sp_is_rope_number : Sp := fun vs H Q _ => ∃ (a : Addr) (xs : List V) (i : Int), vs = [.ref a, .int i] ∧ H a = some (.lst xs) ∧ Q (.bl (decide (0 ≤ i ∧ i < xs.length))) H
theorem ok_is_rope_number (T : Txt K mg A) : FnOk P w K mg base CX0 1 A.a_is_rope_number A.d_is_rope_number ["ropes", "number"] sp_is_rope_number := by
  refine T.f_is_rope_number.ok sc_is_rope_number (fun vs H Q E h => ?_) (fun cdv A' outer s H vs Q E hr h => ?_)
  · obtain ⟨a, xs, i, rfl, _⟩ := h
    rfl
  · obtain ⟨a, xs, i, rfl, ha, k⟩ := h
    refine ⟨_, (pss_one (ps_ret (pe_chain op_le op_lt pe_int (pv 1) (pe_callB call_len_seq rfl T.z_len bo_len (pa_cons (pv 0) pa_nil))))), ?_⟩
    rw [show start ["ropes", "number"] [.ref a, .int i] = [some (.ref a), some (.int i)] from rfl]
    walk_at "rd"
    refine ite2 (fun c => ?_) (fun c => ?_)
    · have c := of_decide_eq_true c
      refine ⟨a, _, rfl, .inl (SqL.of ha), ?_⟩
      walk_at "rd"
      simpa only [c, true_and] using k
    · have c : ¬ 0 ≤ i := by simpa using c
      simpa only [c, false_and, decide_false] using k

end
end My
namespace My
open PySem L2
section
variable {P : Program} {w : World} {K : PySem.W.Frag} {mg : Str → Option Value} {base : Heap} {A : Ad}
def sp_cost_of : Sp := fun vs H Q _ => ∃ (a b : Addr) (rs : List RT.Rope) (ns : List Int), vs = [.ref a, .ref b] ∧ Rep H (ropesD rs) (.ref a) ∧ H b = some (.lst (ns.map V.int)) ∧ RT.Okn rs ns ∧ ns.length ≤ 1000 ∧ ∀ H', Same H H' → Q (.int (RT.sumC rs ns)) H'
theorem ok_cost_of (T : Txt K mg A) : FnOk P w K mg base CX0 1 A.a_cost_of A.d_cost_of ["ropes", "numbers"] sp_cost_of := by
  refine T.f_cost_of.ok sc_cost_of (fun vs H Q E h => ?_) (fun cdv A' outer s H vs Q E hr h => ?_)
  · obtain ⟨a, b, rs, ns, rfl, _⟩ := h
    rfl
  · obtain ⟨a, b, rs, ns, rfl, hrep, hb, hok, hl, k⟩ := h
    obtain ⟨a', xs, e, ha, hxs⟩ := rep_lst.mp hrep
    cases e
    refine ⟨_, (pss_one (ps_ret (pe_callB (call_sumI rfl) rfl T.z_sum bo_sum (pa_cons (pe_comp1 rfl (CompOk.of (os := defScope s_cost_of) (N := ["ropes", "numbers"]) (ts := ["number"]) (cs := [0]) (by decide +kernel) rfl rfl) (pi_list (pv 1)) (fun _ _ _ _ _ => pif_nil) (fun _ _ _ _ _ => (pe_ix ixc_tup (pe_ix ixc_list (pv 1) (pv 0) (fun _ _ => rfl)) pe_int (fun _ _ => rfl)))) pa_nil)))), ?_⟩
    rw [show start ["ropes", "numbers"] [.ref a, .ref b] = [some (.ref a), some (.ref b)] from rfl]
    walk_at "rd"
    refine ⟨b, rfl, ⟨_, SqL.of hb⟩, fun D hD => comp_map_list (fun x => match x with | .int z => .int (RT.cost rs z) | v => v) hb hD (by rw [List.length_map]; omega) (fun x mx H' Q' s3 q => ?_) ?_⟩
    · obtain ⟨z, mz, rfl⟩ := List.mem_map.mp mx
      have hz := hok z mz
      obtain ⟨p, hp1, hp2⟩ := ropes_at (hxs.mono s3) hz.1 hz.2
      walk_at "rd"
      exact rd_list (s3 _ _ ha) hp1 (rd_tup hp2 rfl q)
    · have kk := k _ (Same.upd_new (o := .lst ((ns.map (RT.cost rs)).map V.int)) hD)
      rw [show (ns.map V.int).map (fun x => match x with | .int z => V.int (RT.cost rs z) | v => v) = (ns.map (RT.cost rs)).map V.int by simp [Function.comp]]
      walk_at "rd"
      exact ⟨D, ns.map (RT.cost rs), rfl, upd_same, kk⟩

end
end My
namespace My
open PySem L2
section
variable {P : Program} {w : World} {K : PySem.W.Frag} {mg : Str → Option Value} {base : Heap} {A : Ad}
def sp_from_cheapest (T : Addr) : Sp := fun vs H Q _ => ∃ (a : Addr) (rs : List RT.Rope), vs = [.ref a] ∧ Rep H (ropesD rs) (.ref a) ∧ rs.length < 64 ∧ H T = some (.ctab q_from_cheapest) ∧
  ∀ D H' (os : List Int), Same H H' → H D = none → RT.Ord rs os → H' D = some (.lst (os.map V.int)) → Q (.ref D) H'
theorem ok_from_cheapest (T : Txt K mg A) (B : Bm mg base) : FnOk P w K mg base CX0 2 A.a_from_cheapest A.d_from_cheapest ["ropes"] (sp_from_cheapest A.p_from_cheapest) := by
  refine T.f_from_cheapest.okC T.e_from_cheapest sc_from_cheapest (fun vs H Q E h => ?_) (fun A' outer s H vs Q E hr h => ?_)
  · obtain ⟨a, rs, rfl, _⟩ := h
    rfl
  · obtain ⟨a, rs, rfl, hrep, hl, hT, k⟩ := h
    obtain ⟨a', xs, e, ha, hxs⟩ := rep_lst.mp hrep
    cases e
    have lxs : xs.length = rs.length := by have := hxs.length; rw [List.length_map] at this; exact this.symm
    refine ⟨_, (pss_one (ps_ret (pe_sortK rfl hr.depth rfl T.h_from_cheapest B (CompOk.of (os := defScope s_from_cheapest) (N := ["ropes"]) (ts := ["number"]) (cs := [0]) (by decide +kernel) rfl rfl) rfl T.z_sorted (pa_cons (pe_callTy call_rng1 rfl T.z_range bo_range (pa_cons (pe_callB call_len_seq rfl T.z_len bo_len (pa_cons (pv 0) pa_nil)) pa_nil)) pa_nil) (fun _ _ _ _ _ => (pe_tup (pa_cons (pe_ix ixl_tup (pe_ix ixl_list (pv 1) (pv 0) (fun _ _ => rfl)) pe_int (fun _ _ => rfl)) (pa_cons (pv 0) pa_nil))))))), ?_⟩
    rw [show start ["ropes"] [.ref a] = [some (.ref a)] from rfl]
    walk_at "rd"
    unfold tSortK
    walk_at "rd"
    refine ⟨a, _, rfl, .inl (SqL.of ha), ?_⟩
    walk_at "rd"
    refine ⟨_, rfl, fun p hp => ?_⟩
    walk_at "rd"
    rw [lxs]
    have s1 : Same H (upd H p (.rng 0 (rs.length : Nat))) := Same.upd_new hp
    have hN : ((rs.length : Int) - 0).toNat = rs.length := by omega
    refine ⟨p, 0, rs.length, fun i => [RT.cost rs i, i], RT.rank rs, rfl, upd_same, ⟨by decide, by decide, by omega, by omega⟩, by omega, s1 _ _ hT, fun i => by simp, fun i hi H2 s2 Q' hq => ?_, fun i j hi hj => ?_, fun i j hi hj e => ?_, fun D H' os s2 nD o1 o2 eD => ?_⟩
    · have s2' := s1.trans s2
      rw [hN] at hi
      obtain ⟨rp, hp1, hp2⟩ := ropes_at (k := (0 : Int) + (i : Nat)) (hxs.mono s2') (by omega) (by omega)
      simp only [capL]
      walk_at "rd"
      refine rd_list (s2' _ _ ha) hp1 (rd_tup hp2 rfl ?_)
      walk_at "rd"
      refine ⟨show 2 ≤ sizeLine by decide, fun kp hkp => hq kp _ (Same.upd_new hkp) hkp ?_⟩
      rw [upd_same]
      simp [RT.cost, RT.rp]
    · rw [hN] at hi hj
      have r := RT.rank_iff hi hj
      unfold RT.Chp at r
      rw [Bool.eq_iff_iff, decide_eq_true_iff, r]
      simp only [HT.lexLt]
      split
      · split
        · simp; omega
        · simp; omega
      · simp; omega
    · rw [hN] at hi hj
      exact RT.rank_inj hi hj e
    · rw [hN] at o1
      have O := RT.ord_of o1 o2
      have eD' : H' D = some (.lst ((os.map fun i : Nat => (i : Int)).map V.int)) := by rw [eD]; simp
      exact k D H' _ (s1.trans s2) (s1.free nD) O eD'

end
end My
namespace My
open PySem L2
section
variable {P : Program} {w : World} {K : PySem.W.Frag} {mg : Str → Option Value} {base : Heap} {A : Ad}
def sp_take_ringless : Sp := fun vs H Q _ => ∃ (n : Nat) (a b : Addr) (rs : List RT.Rope) (os : List Int), vs = [.int n, .ref a, .ref b] ∧ Rep H (ropesD rs) (.ref a) ∧ H b = some (.lst (os.map V.int)) ∧ RT.Okr n rs ∧ RT.Okn rs os ∧ n ≤ 1000 ∧ os.length ≤ 1000 ∧
  ∀ p H', Same H H' → H p = none → H' p = some (.lst ((RT.take true n rs os).map V.int)) → Q (.ref p) H'
theorem ok_take_ringless (T : Txt K mg A) : FnOk P w K mg base CX0 1 A.a_take_ringless A.d_take_ringless ["count", "ropes", "order"] sp_take_ringless := by
  refine T.f_take_ringless.ok sc_take_ringless (fun vs H Q E h => ?_) (fun cdv A' outer s H vs Q E hr h => ?_)
  · obtain ⟨n, a, b, rs, os, rfl, _⟩ := h
    rfl
  · obtain ⟨n, a, b, rs, os, rfl, hrep, hb, hv, hok, hn, hl, k⟩ := h
    obtain ⟨a', xs, e, ha, hxs⟩ := rep_lst.mp hrep
    cases e
    refine ⟨_, (pss_cons (ps_set (i := 3) sc_take_ringless.nd rfl (Or.inl rfl) (pe_callTy (call_list_rng rfl) rfl T.z_list bo_list (pa_cons (pe_callTy call_rng1 rfl T.z_range bo_range (pa_cons (pv 0) pa_nil)) pa_nil)))
      (pss_cons (ps_set (i := 4) sc_take_ringless.nd rfl (Or.inl rfl) (pe_lst pa_nil))
      (pss_cons (ps_for PassesOwn.never rfl (pi_list (pv 2)) (pg_name (i := 5) sc_take_ringless.nd rfl (Or.inl rfl))
      (pss_cons (ps_set (i := 6) sc_take_ringless.nd rfl (Or.inr rfl) (pe_ix ix_list (pv 3) (pe_ix ix_tup (pe_ix ix_list (pv 1) (pv 5) (fun _ _ => rfl)) pe_int (fun _ _ => rfl)) (fun _ _ => rfl)))
      (pss_cons (ps_set (i := 7) sc_take_ringless.nd rfl (Or.inr rfl) (pe_ix ix_list (pv 3) (pe_ix ix_tup (pe_ix ix_list (pv 1) (pv 5) (fun _ _ => rfl)) pe_int (fun _ _ => rfl)) (fun _ _ => rfl)))
      (pss_one (ps_if (pt_cmpR op_ne (pv 6) (pv 7) (nomark _)) (pss_cons (ps_setc1 (i := 3) rfl (CompOk.of (os := defScope s_take_ringless) (N := ["count", "ropes", "order", "groups", "taken", "number", "one", "other"]) (ts := ["group"]) (cs := [6, 7]) (by decide +kernel) rfl rfl) (pi_list (pv 3)) (fun _ _ _ _ _ => pif_nil) (fun _ _ _ _ _ => (pe_ifExp (pt_cmpR op_eq (pv 0) (pv 2) (nomark _)) (pv 1) (pv 0))) sc_take_ringless.nd rfl (Or.inl rfl))
      (pss_one (ps_expr (pe_bm PySem.F.plainAttrs_list PySem.F.slot_list_append PySem.F.type_list_append mt_append (pv 4) (pa_cons (pv 5) pa_nil))))) pss_nil)))))
      (pss_one (ps_ret (pv 4)))))), ?_⟩
    rw [show start ["count", "ropes", "order", "groups", "taken", "number", "one", "other"] [.int n, .ref a, .ref b] = [some (.int n), some (.ref a), some (.ref b), none, none, none, none, none] from rfl]
    walk_at "rd"
    -- groups = list(range(count))
    refine ⟨_, rfl, fun pr hpr => ?_⟩
    walk_at "rd"
    refine ⟨pr, 0, n, rfl, upd_same, by omega, by omega, by omega, by omega, by omega, fun gp hgp => ?_⟩
    walk_at "rd"
    refine ⟨Nat.zero_le _, fun tp htp => ?_⟩
    walk_at "rd"
    have n1 : H gp = none := (Same.upd_new hpr).free hgp
    have n2 : H tp = none := ((Same.upd_new hpr).trans (Same.upd_new hgp)).free htp
    have n3 : gp ≠ tp := fun z => by rw [← z, upd_same] at htp; cases htp
    have s0 : Same H (upd (upd (upd H pr (.rng 0 n)) gp (.lst (rngV 0 ((n : Int) - 0).toNat))) tp (.lst [])) := ((Same.upd_new hpr).trans (Same.upd_new hgp)).trans (Same.upd_new htp)
    refine ⟨_, rfl, b, rfl, ⟨_, SqL.of (s0 _ _ hb)⟩, for_list (K := K) (a := b) (xs := os.map V.int) (fun i σ H2 => ∃ gp tp x5 x6 x7, σ = [some (.int n), some (.ref a), some (.ref b), some (.ref gp), some (.ref tp), x5, x6, x7] ∧ Same H H2 ∧ H gp = none ∧ H tp = none ∧ gp ≠ tp ∧
      H2 gp = some (.lst ((RT.run true n rs (os.take i)).1.map V.int)) ∧ H2 tp = some (.lst ((RT.run true n rs (os.take i)).2.map V.int)))
      ⟨gp, tp, none, none, none, rfl, s0, n1, n2, n3, ?_, upd_same⟩ (fun i σ H2 _ ⟨_, _, _, _, _, _, q, _⟩ => SqL.of (q _ _ hb)) ?_ ?_⟩
    · rw [upd_ne n3, upd_same]
      congr 2
      rw [show ((n : Int) - 0).toNat = n by omega]
      exact rng_iota n
    · rintro i x σ H2 hx ⟨gp, tp, x5, x6, x7, rfl, s2, n1, n2, n3, hg, ht⟩
      obtain ⟨z, ez, rfl⟩ := ints_got hx
      have mz := List.mem_of_getElem? ez
      have hz := hok z mz
      have okp : RT.Okn rs (os.take i) := fun j m => hok j (List.mem_of_mem_take m)
      have L := (RT.took (d := true) hv okp)
      have hlen := L.lb.len
      obtain ⟨p, hp1, hp2⟩ := ropes_at (hxs.mono s2) hz.1 hz.2
      obtain ⟨⟨v1, v2⟩, v3, v4⟩ := hv.at hz
      have i1 := lab_at (g := (RT.run true n rs (os.take i)).1) v1 (by rw [hlen]; exact v2)
      have i2 := lab_at (g := (RT.run true n rs (os.take i)).1) v3 (by rw [hlen]; exact v4)
      have step : RT.run true n rs (os.take (i + 1)) = RT.tstep true rs (RT.run true n rs (os.take i)) z := by
        unfold RT.run
        rw [take_snoc ez, List.foldl_append]
        rfl
      walk_at "rd"
      refine rd_list (s2 _ _ ha) hp1 (rd_tup hp2 rfl (rd_list hg i1 ?_))
      walk_at "rd"
      refine rd_list (s2 _ _ ha) hp1 (rd_tup hp2 rfl (rd_list hg i2 ?_))
      walk_at "rd"
      refine ite2 (fun c => ?_) (fun c => ?_)
      · have c : RT.lab (RT.run true n rs (os.take i)).1 (RT.rp rs z).1 ≠ RT.lab (RT.run true n rs (os.take i)).1 (RT.rp rs z).2.1 := by simpa using c
        walk_at "rd"
        refine ⟨gp, rfl, ⟨_, SqL.of hg⟩, fun D hD => comp_map_list (fun x => if x = .int (RT.lab (RT.run true n rs (os.take i)).1 (RT.rp rs z).2.1) then .int (RT.lab (RT.run true n rs (os.take i)).1 (RT.rp rs z).1) else x) hg hD ?_ (fun x mx H' Q' _ q => ?_) ?_⟩
        · rw [List.length_map, hlen]; exact hn
        · obtain ⟨y, _, rfl⟩ := List.mem_map.mp mx
          walk_at "rd"
          refine ite2 (fun c => ?_) (fun c => ?_)
          · rw [if_pos (by simpa using c)] at q
            exact q
          · rw [if_neg (by simpa using c)] at q
            exact q
        · walk_at "rd"
          have nt : tp ≠ D := ne_of_none ht hD
          have ht' : upd H2 D (.lst (((RT.run true n rs (os.take i)).1.map V.int).map fun x => if x = .int (RT.lab (RT.run true n rs (os.take i)).1 (RT.rp rs z).2.1) then .int (RT.lab (RT.run true n rs (os.take i)).1 (RT.rp rs z).1) else x)) tp = some (.lst ((RT.run true n rs (os.take i)).2.map V.int)) := by rw [upd_ne nt]; exact ht
          refine ⟨.inl ⟨rfl, _, SqL.of ht'⟩, tp, _, _, rfl, rfl, ht', ?_, ?_⟩
          · rw [List.length_map]
            have := L.sub.length_le
            rw [List.length_take] at this
            have := big1000
            omega
          · refine ⟨D, tp, _, _, _, rfl, ?_, s2.free hD, n2, nt.symm, ?_, ?_⟩
            · exact (s2.trans (Same.upd_new hD)).upd_late n2
            · rw [upd_ne nt.symm, upd_same, step]
              unfold RT.tstep
              rw [if_pos c]
              congr 2
              exact relab_map _ _ _
            · rw [upd_same, step]
              unfold RT.tstep
              rw [if_pos c, List.map_append]
              rfl
      · have c : ¬ RT.lab (RT.run true n rs (os.take i)).1 (RT.rp rs z).1 ≠ RT.lab (RT.run true n rs (os.take i)).1 (RT.rp rs z).2.1 := by simpa using c
        walk_at "rd"
        refine ⟨gp, tp, _, _, _, rfl, s2, n1, n2, n3, ?_, ?_⟩
        · rw [step]; unfold RT.tstep; rw [if_neg c]; exact hg
        · rw [step]; unfold RT.tstep; rw [if_neg c]; exact ht
    · rintro σ H2 ⟨gp, tp, x5, x6, x7, rfl, s2, n1, n2, n3, hg, ht⟩
      walk_at "rd"
      rw [List.length_map, List.take_length] at ht
      exact k tp H2 s2 n2 ht

end
end My
namespace My
open PySem L2
section
variable {P : Program} {w : World} {K : PySem.W.Frag} {mg : Str → Option Value} {base : Heap} {A : Ad}
def sp_is_tree : Sp := fun vs H Q _ => ∃ (n : Nat) (a b : Addr) (rs : List RT.Rope) (ns : List Int), vs = [.int n, .ref a, .ref b] ∧ Rep H (ropesD rs) (.ref a) ∧ H b = some (.lst (ns.map V.int)) ∧ RT.Okr n rs ∧ n ≤ 1000 ∧ ns.length ≤ 1000 ∧ rs.length ≤ 1000 ∧
  ∀ H', Same H H' → Q (.bl (RT.isTree n rs ns)) H'
theorem ok_is_tree (T : Txt K mg A) : FnOk P w K mg base CX0 3 A.a_is_tree A.d_is_tree ["count", "ropes", "numbers"] sp_is_tree := by
  have G_check_ropes : FnOk P w K mg base CX0 _ _ _ _ _ := ok_check_ropes T
  have G_take_ringless : FnOk P w K mg base CX0 _ _ _ _ _ := ok_take_ringless T
  have G_is_rope_number : FnOk P w K mg base CX0 _ _ _ _ _ := ok_is_rope_number T
  refine T.f_is_tree.ok sc_is_tree (fun vs H Q E h => ?_) (fun cdv A' outer s H vs Q E hr h => ?_)
  · obtain ⟨n, a, b, rs, ns, rfl, _⟩ := h
    rfl
  · obtain ⟨n, a, b, rs, ns, rfl, hrep, hb, hv, hn, hl, hm, k⟩ := h
    obtain ⟨a', xs, e, ha, hxs⟩ := rep_lst.mp hrep
    cases e
    have lx : xs.length = rs.length := by have := hxs.length; rw [List.length_map] at this; exact this.symm
    refine ⟨_, (pss_cons (ps_expr (pe_call G_check_ropes (hr.mono (by decide)) rfl T.m_check_ropes T.k_check_ropes T.b_check_ropes .nil pass0 (pa_cons (pv 0) (pa_cons (pv 1) pa_nil))))
      (pss_cons (ps_if (pt_cmpR op_ne (pe_callB call_len_seq rfl T.z_len bo_len (pa_cons (pv 2) pa_nil)) (pe_callB call_len_seq rfl T.z_len bo_len (pa_cons (pe_call G_take_ringless (hr.mono (by decide)) rfl T.m_take_ringless T.k_take_ringless T.b_take_ringless .nil pass0 (pa_cons (pv 0) (pa_cons (pv 1) (pa_cons (pe_callTy (call_list_rng rfl) rfl T.z_list bo_list (pa_cons (pe_callTy call_rng1 rfl T.z_range bo_range (pa_cons (pe_callB call_len_seq rfl T.z_len bo_len (pa_cons (pv 1) pa_nil)) pa_nil)) pa_nil)) pa_nil)))) pa_nil)) (nomark _)) (pss_one (ps_ret pe_bl)) pss_nil)
      (pss_cons (ps_if (pt_not (pt_val (pe_callB (call_all_bools rfl) rfl T.z_all bo_all (pa_cons (pe_comp1 rfl (CompOk.of (os := defScope s_is_tree) (N := ["count", "ropes", "numbers"]) (ts := ["number"]) (cs := [1]) (by decide +kernel) rfl rfl) (pi_list (pv 2)) (fun _ _ _ _ _ => pif_nil) (fun _ _ _ _ _ => (pe_call G_is_rope_number (hr.mono (by decide)) rfl T.m_is_rope_number T.k_is_rope_number T.b_is_rope_number .nil pass0 (pa_cons (pv 1) (pa_cons (pv 0) pa_nil))))) pa_nil)))) (pss_one (ps_ret pe_bl)) pss_nil)
      (pss_one (ps_ret (pe_cmpR op_eq (pe_callB call_len_seq rfl T.z_len bo_len (pa_cons (pe_call G_take_ringless (hr.mono (by decide)) rfl T.m_take_ringless T.k_take_ringless T.b_take_ringless .nil pass0 (pa_cons (pv 0) (pa_cons (pv 1) (pa_cons (pv 2) pa_nil)))) pa_nil)) (pe_callB call_len_seq rfl T.z_len bo_len (pa_cons (pv 2) pa_nil)) (nomark _))))))), ?_⟩
    rw [show start ["count", "ropes", "numbers"] [.int n, .ref a, .ref b] = [some (.int n), some (.ref a), some (.ref b)] from rfl]
    walk_at "rd"
    refine ⟨n, a, rs, rfl, hrep, hv, by omega, fun H0 s0 => ?_⟩
    refine ⟨b, _, rfl, .inl (SqL.of (s0 _ _ hb)), ?_⟩
    walk_at "rd"
    refine ⟨a, _, rfl, .inl (SqL.of (s0 _ _ ha)), ?_⟩
    walk_at "rd"
    refine ⟨_, rfl, fun pr hpr => ?_⟩
    walk_at "rd"
    refine ⟨pr, 0, xs.length, rfl, upd_same, by omega, by omega, by omega, by omega, by omega, fun l hl1 => ?_⟩
    have s1' : Same H0 (upd (upd H0 pr (.rng 0 xs.length)) l (.lst (rngV 0 ((xs.length : Int) - 0).toNat))) := (Same.upd_new hpr).trans (Same.upd_new hl1)
    have s1 := s0.trans s1'
    have e1 : rngV 0 ((xs.length : Int) - 0).toNat = (RT.all rs).map V.int := by
      rw [show ((xs.length : Int) - 0).toNat = rs.length by omega]
      exact rng_iota _
    refine ⟨n, a, l, rs, RT.all rs, rfl, hrep.mono s1, by rw [upd_same, e1], hv, RT.okn_all, hn, ?_, fun p H1 s2 np hp => ?_⟩
    · unfold RT.all RT.iota
      rw [List.length_map, List.length_range]
      exact hm
    have s2 : Same H H1 := s1.trans s2
    walk_at "rd"
    refine ⟨p, _, rfl, .inl (SqL.of hp), ?_⟩
    walk_at "rd"
    refine ite2 (fun c => ?_) (fun c => ?_)
    · have e : RT.isTree n rs ns = false := by
        unfold RT.isTree
        rw [if_pos]
        intro z
        simp at c
        omega
      have := k H1 s2
      rw [e] at this
      exact this
    · have c : ¬ ns.length ≠ (RT.take true n rs (RT.all rs)).length := by simp at c; omega
      walk_at "rd"
      refine ⟨b, rfl, ⟨_, SqL.of (s2 _ _ hb)⟩, fun D hD => ?_⟩
      refine comp_map_list (fun x => match x with | .int i => .bl (decide (0 ≤ i ∧ i < rs.length)) | y => y) (s2 _ _ hb) hD (by rw [List.length_map]; exact hl) (fun x mx H' Q' s3 q => ?_) ?_
      · obtain ⟨y, _, rfl⟩ := List.mem_map.mp mx
        walk_at "rd"
        refine ⟨a, xs, y, rfl, s3 _ _ (s2 _ _ ha), ?_⟩
        rw [lx]
        exact q
      · have s4 : Same H (upd H1 D (.lst ((ns.map V.int).map (fun x => match x with | .int i => .bl (decide (0 ≤ i ∧ i < rs.length)) | y => y)))) := s2.trans (Same.upd_new hD)
        walk_at "rd"
        refine ⟨D, ns.map fun i : Int => decide (0 ≤ i ∧ i < rs.length), rfl, ?_, ?_⟩
        · rw [upd_same, List.map_map, List.map_map]
          rfl
        walk_at "rd"
        have e2 : ((ns.map fun i : Int => decide (0 ≤ i ∧ i < rs.length)).all id) = ns.all (fun k => decide (0 ≤ k ∧ k < rs.length)) := by
          rw [List.all_map]
          rfl
        rw [e2]
        refine ite2 (fun c2 => ?_) (fun c2 => ?_)
        · have e : RT.isTree n rs ns = false := by
            unfold RT.isTree
            rw [if_neg c, if_pos]
            simpa using c2
          have := k _ s4
          rw [e] at this
          exact this
        · have c2 : ¬ (ns.all (fun k => decide (0 ≤ k ∧ k < rs.length)) = false) := by simpa using c2
          have ok : RT.Okn rs ns := by unfold RT.Okn; simpa using c2
          walk_at "rd"
          refine ⟨n, a, b, rs, ns, rfl, hrep.mono s4, s4 _ _ hb, hv, ok, hn, hl, fun p2 H2 s5 np2 hp2 => ?_⟩
          have s6 : Same H H2 := s4.trans s5
          walk_at "rd"
          refine ⟨p2, _, rfl, .inl (SqL.of hp2), ?_⟩
          walk_at "rd"
          refine ⟨b, _, rfl, .inl (SqL.of (s6 _ _ hb)), ?_⟩
          walk_at "rd"
          have := k H2 s6
          unfold RT.isTree at this
          rw [if_neg c, if_neg c2] at this
          have e3 : decide (((RT.take true n rs ns).length : Int) = (ns.length : Int)) = decide ((RT.take true n rs ns).length = ns.length) := by
            rw [Bool.eq_iff_iff, decide_eq_true_eq, decide_eq_true_eq]
            omega
          simp only [List.length_map, e3]
          exact this

end
end My
namespace My
open PySem L2
section
variable {P : Program} {w : World} {K : PySem.W.Frag} {mg : Str → Option Value} {base : Heap} {A : Ad}
def farV (o : Option Int) : V := match o with | some y => .int y | none => .non
def sp_far_end : Sp := fun vs H Q _ => ∃ (p : Addr) (r : RT.Rope) (x : Int), vs = [.ref p, .int x] ∧ H p = some (.tup [.int r.1, .int r.2.1, .int r.2.2]) ∧ Q (farV (RT.far r x)) H
theorem ok_far_end (T : Txt K mg A) : FnOk P w K mg base CX0 1 A.a_far_end A.d_far_end ["rope", "place"] sp_far_end := by
  refine T.f_far_end.ok sc_far_end (fun vs H Q E h => ?_) (fun cdv A' outer s H vs Q E hr h => ?_)
  · obtain ⟨p, r, x, rfl, _⟩ := h
    rfl
  · obtain ⟨p, r, x, rfl, hp, k⟩ := h
    refine ⟨_, (pss_cons (ps_if (pt_cmpR op_eq (pe_ix ix_tup (pv 0) pe_int (fun _ _ => rfl)) (pv 1) (nomark _)) (pss_one (ps_ret (pe_ix ix_tup (pv 0) pe_int (fun _ _ => rfl)))) pss_nil)
      (pss_cons (ps_if (pt_cmpR op_eq (pe_ix ix_tup (pv 0) pe_int (fun _ _ => rfl)) (pv 1) (nomark _)) (pss_one (ps_ret (pe_ix ix_tup (pv 0) pe_int (fun _ _ => rfl)))) pss_nil)
      (pss_one (ps_ret pe_non)))), ?_⟩
    rw [show start ["rope", "place"] [.ref p, .int x] = [some (.ref p), some (.int x)] from rfl]
    unfold RT.far at k
    walk_at "rd"
    refine rd_tup hp rfl ?_
    walk_at "rd"
    refine ite2 (fun c => ?_) (fun c => ?_)
    · have c : r.1 = x := by simpa using c
      rw [if_pos c] at k
      walk_at "rd"
      exact rd_tup hp rfl k
    · have c : ¬ r.1 = x := by simpa using c
      rw [if_neg c] at k
      walk_at "rd"
      refine rd_tup hp rfl ?_
      walk_at "rd"
      refine ite2 (fun c2 => ?_) (fun c2 => ?_)
      · have c2 : r.2.1 = x := by simpa using c2
        rw [if_pos c2] at k
        walk_at "rd"
        exact rd_tup hp rfl k
      · have c2 : ¬ r.2.1 = x := by simpa using c2
        rw [if_neg c2] at k
        walk_at "rd"
        exact k

end
end My
namespace My
open PySem L2
section
variable {P : Program} {w : World} {K : PySem.W.Frag} {mg : Str → Option Value} {base : Heap} {A : Ad}
def sp_ways_from : Sp := fun vs H Q _ => ∃ (n : Nat) (a b : Addr) (rs : List RT.Rope) (ns : List Int) (st : Int), vs = [.ref a, .ref b, .int st] ∧ Rep H (ropesD rs) (.ref a) ∧ H b = some (.lst (ns.map V.int)) ∧ RT.Okr n rs ∧ RT.Okn rs ns ∧ n ≤ 100 ∧ ns.length ≤ 100 ∧ (0 ≤ st ∧ st < n) ∧
  ∀ D H' (W : List (Int × List Int)) (ad : Int → Addr), Same H H' → H D = none → RT.Ways n rs ns st W → (∀ x : Int, x ∈ W.map (·.1) ↔ RT.Conn (RT.ed rs ns) st x) → H' D = some (.dK (wayD ad W)) → (∀ p ∈ W, H' (ad p.1) = some (.lst (p.2.map V.int))) → Q (.ref D) H'
theorem ok_ways_from (T : Txt K mg A) : FnOk P w K mg base CX0 2 A.a_ways_from A.d_ways_from ["ropes", "numbers", "start"] sp_ways_from := by
  have G_far_end : FnOk P w K mg base CX0 _ _ _ _ _ := ok_far_end T
  refine T.f_ways_from.ok sc_ways_from (fun vs H Q E h => ?_) (fun cdv A' outer s H vs Q E hr h => ?_)
  · obtain ⟨n, a, b, rs, ns, st, rfl, _⟩ := h
    rfl
  · obtain ⟨n, a, b, rs, ns, st, rfl, hrep, hb, hv, hok, hn, hln, hst, k⟩ := h
    obtain ⟨a', xs, e, ha, hxs⟩ := rep_lst.mp hrep
    cases e
    have hu := hu_of hr
    refine ⟨_, (pss_cons (ps_set (i := 3) sc_ways_from.nd rfl (Or.inl rfl) (pe_disp (pps_cons (pv 2) (pe_lst pa_nil) pps_nil) rfl rfl (by simp) (by decide)))
      (pss_cons (ps_set (i := 4) sc_ways_from.nd rfl (Or.inl rfl) (pe_lst (pa_cons (pv 2) pa_nil)))
      (pss_cons (ps_while PassesOwn.never (pt_truth (pv 4) (by intro _; rfl))
      (pss_cons (ps_set (i := 5) sc_ways_from.nd rfl (Or.inl rfl) (pe_bm0 PySem.F.plainAttrs_list PySem.F.slot_list_pop PySem.F.type_list_pop mt_pop (pv 4)))
      (pss_one (ps_for PassesOwn.never rfl (pi_list (pv 1)) (pg_name (i := 6) sc_ways_from.nd rfl (Or.inl rfl))
      (pss_cons (ps_set (i := 7) sc_ways_from.nd rfl (Or.inl rfl) (pe_call G_far_end (hr.mono (by decide)) rfl T.m_far_end T.k_far_end T.b_far_end .nil pass0 (pa_cons (pe_ix ix_list (pv 0) (pv 6) (fun _ _ => rfl)) (pa_cons (pv 5) pa_nil))))
      (pss_one (ps_if (PW.pt (pw_and (pt_cmp (pc_notN (pv 7))) (pw_and1 (pt_cmp (pc_dnotin hu (pv 7) (pv 3)))))) (pss_cons (ps_dput hu (pv 3) (pv 7) (pe_op op_cat (pe_dget hu (pv 3) (pv 5) (fun _ _ => rfl)) (pe_lst (pa_cons (pv 6) pa_nil))) rfl)
      (pss_one (ps_expr (pe_bm PySem.F.plainAttrs_list PySem.F.slot_list_append PySem.F.type_list_append mt_append (pv 4) (pa_cons (pv 7) pa_nil))))) pss_nil)))))))
      (pss_one (ps_ret (pv 3)))))), ?_⟩
    rw [show start ["ropes", "numbers", "start", "ways", "waiting", "place", "number", "far"] [.ref a, .ref b, .int st] = [some (.ref a), some (.ref b), some (.int st), none, none, none, none, none] from rfl]
    walk_at "rd"
    refine fun fp hfp => ?_
    walk_at "rd"
    refine ⟨Nat.zero_le _, fun lp hlp => ?_⟩
    have nlf : fp ≠ lp := fun z => by rw [← z, upd_same] at hlp; cases hlp
    have hlp0 : H lp = none := (Same.upd_new hfp).free hlp
    walk_at "rd"
    refine ⟨by rw [upd_ne nlf, upd_same], [(.inl st, .ref lp)], rfl, show 1 ≤ 15 by decide, ?_⟩
    walk_at "rd"
    refine ⟨show 1 ≤ sizeLine by decide, fun wt hwt => ?_⟩
    walk_at "rd"
    have m1 : mergeK [] [((.inl st : Key), V.ref lp)] = wayD (fun _ => lp) [(st, [])] := rfl
    rw [m1] at hwt ⊢
    have nwf : fp ≠ wt := fun z => by rw [← z, upd_same] at hwt; cases hwt
    have hl1 : upd (upd (upd H fp (.dK [])) lp (.lst [])) fp (.dK (wayD (fun _ => lp) [(st, [])])) lp = some (.lst []) := by rw [upd_ne nlf.symm, upd_same]
    have nwl : lp ≠ wt := fun z => by rw [← z, hl1] at hwt; cases hwt
    have s0 : Same H (upd (upd (upd H fp (.dK [])) lp (.lst [])) fp (.dK (wayD (fun _ => lp) [(st, [])]))) := (((Same.upd_new hfp).trans (Same.upd_new hlp))).upd_late hfp
    have hwt0 : H wt = none := s0.free hwt
    have s1 := s0.trans (Same.upd_new (o := .lst [.int st]) hwt)
    have big : 1000 < sizeLine := big1000
    refine ⟨fun m σ H2 => ∃ (W : List (Int × List Int)) (ad : Int → Addr) (ws : List Int) (x5 x6 x7 : Option V), σ = [some (.ref a), some (.ref b), some (.int st), some (.ref fp), some (.ref wt), x5, x6, x7] ∧ Same H H2 ∧ H2 fp = some (.dK (wayD ad W)) ∧ H2 wt = some (.lst (ws.map V.int)) ∧
      (∀ p ∈ W, H2 (ad p.1) = some (.lst (p.2.map V.int)) ∧ ad p.1 ≠ wt) ∧ RT.Ways n rs ns st W ∧ (∀ x : Int, x ∈ ws → x ∈ W.map (·.1)) ∧ (∀ x : Int, x ∈ W.map (·.1) → x ∈ ws ∨ RT.Gone rs ns W x) ∧ m = ws.length + 2 * (n - W.length) ∧ m ≤ 2 * n,
      ⟨_, [(st, [])], fun _ => lp, [st], none, none, none, rfl, s1, by rw [upd_ne nwf, upd_same], upd_same, fun p mp => ?_, .init hst, fun x m => (by simpa using m), fun x m => .inl (by simpa using m), rfl, ?_⟩, ?_⟩
    · rw [List.mem_singleton.mp mp]
      exact ⟨by rw [upd_ne nwl, hl1]; rfl, nwl⟩
    · simp only [List.length_cons, List.length_nil]
      omega
    rintro m σ H2 ⟨W, ad, ws, x5, x6, x7, rfl, s2, hfd, hwd, hls, Wy, hws, hgo, hm, hmn⟩
    walk_at "rd"
    refine ⟨!(ws.map V.int).isEmpty, .inl ⟨_, SqL.of hwd, rfl⟩, ?_⟩
    rcases List.eq_nil_or_concat ws with rfl | ⟨ws0, pl, rfl⟩
    · refine iteF ?_
      walk_at "rd"
      refine k fp H2 W ad s2 hfp Wy (Wy.done fun x m => ?_) hfd fun p mp => (hls p mp).1
      rcases hgo x m with z | z
      · cases z
      · exact z
    · rw [List.concat_eq_append] at *
      have ne : (!(((ws0 ++ [pl]).map V.int).isEmpty)) = true := by simp
      rw [ne]
      refine iteT ⟨fun σ' H' => ∃ m', m' < m ∧ ∃ (W : List (Int × List Int)) (ad : Int → Addr) (ws : List Int) (x5 x6 x7 : Option V), σ' = [some (.ref a), some (.ref b), some (.int st), some (.ref fp), some (.ref wt), x5, x6, x7] ∧ Same H H' ∧ H' fp = some (.dK (wayD ad W)) ∧ H' wt = some (.lst (ws.map V.int)) ∧
        (∀ p ∈ W, H' (ad p.1) = some (.lst (p.2.map V.int)) ∧ ad p.1 ≠ wt) ∧ RT.Ways n rs ns st W ∧ (∀ x : Int, x ∈ ws → x ∈ W.map (·.1)) ∧ (∀ x : Int, x ∈ W.map (·.1) → x ∈ ws ∨ RT.Gone rs ns W x) ∧ m' = ws.length + 2 * (n - W.length) ∧ m' ≤ 2 * n, fun _ _ z => z, ?_⟩
      walk_at "rd"
      have hpl : pl ∈ W.map (·.1) := hws pl (by simp)
      refine ⟨.inl ⟨rfl, _, SqL.of hwd⟩, wt, _, .int pl, rfl, rfl, hwd, by simp, ?_⟩
      walk_at "rd"
      have s3 : Same H (upd H2 wt (.lst ((ws0 ++ [pl]).map V.int).dropLast)) := s2.upd_late hwt0
      have hwd3 : upd H2 wt (.lst ((ws0 ++ [pl]).map V.int).dropLast) wt = some (.lst (ws0.map V.int)) := by rw [upd_same]; simp
      have hfd3 : upd H2 wt (.lst ((ws0 ++ [pl]).map V.int).dropLast) fp = some (.dK (wayD ad W)) := by rw [upd_ne nwf]; exact hfd
      have hls3 : ∀ p ∈ W, upd H2 wt (.lst ((ws0 ++ [pl]).map V.int).dropLast) (ad p.1) = some (.lst (p.2.map V.int)) ∧ ad p.1 ≠ wt := fun p mp => ⟨by rw [upd_ne (hls p mp).2]; exact (hls p mp).1, (hls p mp).2⟩
      generalize upd H2 wt (.lst ((ws0 ++ [pl]).map V.int).dropLast) = H3 at s3 hwd3 hfd3 hls3 ⊢
      rw [List.length_append, List.length_singleton] at hm
      refine ⟨_, rfl, b, rfl, ⟨_, SqL.of (s3 _ _ hb)⟩, for_list (K := K) (a := b) (xs := ns.map V.int) (fun i σ H4 => ∃ (W : List (Int × List Int)) (ad : Int → Addr) (ws : List Int) (x6 x7 : Option V), σ = [some (.ref a), some (.ref b), some (.int st), some (.ref fp), some (.ref wt), some (.int pl), x6, x7] ∧ Same H H4 ∧ H4 fp = some (.dK (wayD ad W)) ∧ H4 wt = some (.lst (ws.map V.int)) ∧
        (∀ p ∈ W, H4 (ad p.1) = some (.lst (p.2.map V.int)) ∧ ad p.1 ≠ wt) ∧ RT.Ways n rs ns st W ∧ (∀ x : Int, x ∈ ws → x ∈ W.map (·.1)) ∧ (∀ x : Int, x ∈ W.map (·.1) → x ∈ ws ∨ x = pl ∨ RT.Gone rs ns W x) ∧ pl ∈ W.map (·.1) ∧ RT.Gone rs (ns.take i) W pl ∧ ws.length + 2 * (n - W.length) + 1 ≤ m)
        ⟨W, ad, ws0, x6, x7, rfl, s3, hfd3, hwd3, hls3, Wy, fun x mx => hws x (List.mem_append.mpr (.inl mx)), fun x mx => ?_, hpl, fun k mk => by simp at mk, by omega⟩ (fun i σ H4 _ ⟨_, _, _, _, _, _, q, _⟩ => SqL.of (q _ _ hb)) ?_ ?_⟩
      · rcases hgo x mx with z | z
        · rcases List.mem_append.mp z with z | z
          · exact .inl z
          · exact .inr (.inl (List.mem_singleton.mp z))
        · exact .inr (.inr z)
      · clear hls hfd hwd hls3 hfd3 hwd3 hgo hws Wy s2 s3 hpl hm x5 x6 x7
        rintro i x σ H4 hx ⟨W, ad, ws, x6, x7, rfl, s4, hfd, hwd, hls, Wy, hws, hgo, hpl, hG, hm⟩
        obtain ⟨z, ez, rfl⟩ := ints_got hx
        have mz := List.mem_of_getElem? ez
        have hz := hok z mz
        obtain ⟨p, hp1, hp2⟩ := ropes_at (hxs.mono s4) hz.1 hz.2
        have lW := Wy.len
        walk_at "rd"
        refine rd_list (s4 _ _ ha) hp1 ?_
        refine ⟨p, RT.rp rs z, pl, rfl, hp2, ?_⟩
        have G1 : ∀ {V : List (Int × List Int)}, (∀ y ∈ W.map (·.1), y ∈ V.map (·.1)) → (∀ y, RT.far (RT.rp rs z) pl = some y → y ∈ V.map (·.1)) → RT.Gone rs (ns.take (i + 1)) V pl := fun {V} sub h k mk y ey => by
          rw [take_snoc ez] at mk
          rcases List.mem_append.mp mk with mk | mk
          · exact sub y (hG k mk y ey)
          · rw [List.mem_singleton.mp mk] at ey
            exact h y ey
        cases hf : RT.far (RT.rp rs z) pl with
        | none =>
          simp only [farV]
          walk_at "rd"
          refine ite2 (fun z => absurd z (by simp)) (fun _ => ?_)
          exact ⟨W, ad, ws, _, _, rfl, s4, hfd, hwd, hls, Wy, hws, hgo, hpl, G1 (fun y m => m) (fun y e => by rw [hf] at e; cases e), hm⟩
        | some c =>
          simp only [farV]
          walk_at "rd"
          refine ite2 (fun _ => ?_) (fun z => absurd (by simp) z)
          refine ⟨fp, _, rfl, DGet.k (k := .inl c) hfd, ?_⟩
          rw [wayD_has]
          by_cases mc : c ∈ W.map (·.1)
          · rw [decide_eq_true mc]
            refine iteF ?_
            walk_at "rd"
            exact ⟨W, ad, ws, _, _, rfl, s4, hfd, hwd, hls, Wy, hws, hgo, hpl, G1 (fun y m => m) (fun y e => by rw [hf] at e; cases e; exact mc), hm⟩
          · rw [decide_eq_false mc]
            refine iteT ?_
            obtain ⟨pw, mpw, epw⟩ := List.mem_map.mp hpl
            obtain ⟨pl', ks⟩ := pw
            have epw : pl' = pl := epw
            subst epw
            have hpv : H4 (ad pl') = some (.lst (ks.map V.int)) ∧ ad pl' ≠ wt := hls _ mpw
            walk_at "rd"
            refine ⟨fp, .ref (ad pl'), rfl, ?_, ?_⟩
            · have := DGet.k (k := .inl pl') hfd
              rw [wayD_val, if_pos hpl] at this
              exact this
            walk_at "rd"
            refine ⟨show 1 ≤ sizeLine by decide, fun np hnp => ?_⟩
            walk_at "rd"
            have s5 : Same H4 (upd H4 np (.lst [.int z])) := Same.upd_new hnp
            have lk : ks.length ≤ n := by
              obtain ⟨ps, l, _, u⟩ := Wy.way _ mpw
              have := RT.nodup_le l.nodup fun x m => Wy.keysOk x (u x m)
              have q : ps.length = ks.length + 1 := l.len
              omega
            refine ⟨ad pl', np, _, _, rfl, rfl, s5 _ _ hpv.1, upd_same, ?_, fun vp hvp => ?_⟩
            · rw [List.length_map, List.length_singleton]; omega
            walk_at "rd"
            have s6 : Same H4 (upd (upd H4 np (.lst [.int z])) vp (.lst (ks.map V.int ++ [.int z]))) := s5.trans (Same.upd_new hvp)
            have nfv : fp ≠ vp := fun q => by rw [← q, s5 _ _ hfd] at hvp; cases hvp
            have nwv : wt ≠ vp := fun q => by rw [← q, s5 _ _ hwd] at hvp; cases hvp
            refine ⟨fp, _, rfl, DPut.k (k := .inl c) (s6 _ _ hfd) (by rw [wayD_len]; omega), ?_⟩
            rw [wayD_put (ks := ks ++ [z]) mc]
            walk_at "rd"
            have hf4 : H fp = none := hfp
            have hwd7 : upd (upd (upd H4 np (.lst [.int z])) vp (.lst (ks.map V.int ++ [.int z]))) fp (.dK (wayD (fun x => if x = c then vp else ad x) (W ++ [(c, ks ++ [z])]))) wt = some (.lst (ws.map V.int)) := by
              rw [upd_ne nwf.symm]; exact s6 _ _ hwd
            refine ⟨.inl ⟨rfl, _, SqL.of hwd7⟩, wt, _, _, rfl, rfl, hwd7, ?_, ?_⟩
            · rw [List.length_map]; omega
            have hc : 0 ≤ c ∧ c < n := by
              have j := RT.far_joins hf
              obtain ⟨v1, v2⟩ := hv.at hz
              rcases j with j | j
              · unfold RT.e1 at j; injection j with j1 j2; rw [← j2]; exact v2
              · unfold RT.e1 at j; injection j with j1 j2; rw [← j1]; exact v1
            have Wn := Wy.add mpw mz (RT.far_joins hf) hc mc
            have lW2 := Wn.len
            rw [List.length_append, List.length_singleton] at lW2
            have sub : ∀ y ∈ W.map (·.1), y ∈ (W ++ [(c, ks ++ [z])]).map (·.1) := fun y m => by rw [List.map_append]; exact List.mem_append.mpr (.inl m)
            have mc2 : c ∈ (W ++ [(c, ks ++ [z])]).map (·.1) := by rw [List.map_append]; exact List.mem_append.mpr (.inr (by simp))
            refine ⟨W ++ [(c, ks ++ [z])], fun x => if x = c then vp else ad x, ws ++ [c], _, _, rfl, ?_, ?_, ?_, fun q mq => ?_, Wn, fun y my => ?_, fun y my => ?_, sub _ hpl, G1 sub (fun y e => by rw [hf] at e; cases e; exact mc2), ?_⟩
            · exact ((s4.trans s6).upd_late hfp).upd_late hwt0
            · rw [upd_ne nwf, upd_same]
            · rw [upd_same, List.map_append]; rfl
            · rcases List.mem_append.mp mq with q' | q'
              · have ne : q.1 ≠ c := fun e => mc (e ▸ List.mem_map.mpr ⟨q, q', rfl⟩)
                obtain ⟨o1, o2⟩ := hls q q'
                have o3 := s6 _ _ o1
                have nf : ad q.1 ≠ fp := fun e => by rw [e, s6 _ _ hfd] at o3; cases o3
                simp only [if_neg ne]
                exact ⟨by rw [upd_ne o2, upd_ne nf]; exact o3, o2⟩
              · have e := List.mem_singleton.mp q'
                subst e
                simp only [if_pos]
                exact ⟨by rw [upd_ne nwv.symm, upd_ne nfv.symm, upd_same, List.map_append]; rfl, nwv.symm⟩
            · rcases List.mem_append.mp my with q | q
              · exact sub y (hws y q)
              · rw [List.mem_singleton.mp q]; exact mc2
            · rw [List.map_append] at my
              rcases List.mem_append.mp my with q | q
              · rcases hgo y q with q | q | q
                · exact .inl (List.mem_append.mpr (.inl q))
                · exact .inr (.inl q)
                · exact .inr (.inr (q.more sub))
              · exact .inl (List.mem_append.mpr (.inr q))
            · simp only [List.length_append, List.length_singleton]
              omega
      · rintro σ H4 ⟨W, ad, ws, x6, x7, rfl, s4, hfd, hwd, hls, Wy, hws, hgo, hpl, hG, hm⟩
        rw [List.length_map, List.take_length] at hG
        refine ⟨_, ?_, W, ad, ws, _, _, _, rfl, s4, hfd, hwd, hls, Wy, hws, fun x mx => ?_, rfl, by omega⟩
        · omega
        rcases hgo x mx with q | q | q
        · exact .inl q
        · rw [q]; exact .inr hG
        · exact .inr q

end
end My
namespace My
open PySem L2
section
variable {P : Program} {w : World} {K : PySem.W.Frag} {mg : Str → Option Value} {base : Heap} {A : Ad}
def sp_least_tree (T : Addr) : Sp := fun vs H Q _ => ∃ (n : Nat) (a : Addr) (rs : List RT.Rope), vs = [.int n, .ref a] ∧ Rep H (ropesD rs) (.ref a) ∧ RT.Okr n rs ∧ n ≤ 1000 ∧ rs.length < 64 ∧ H T = some (.ctab q_from_cheapest) ∧
  ∀ D H' (ns : List Int), Same H H' → H D = none → RT.Least n rs ns → H' D = some (.lst (ns.map V.int)) → Q (.ref D) H'
theorem ok_least_tree (T : Txt K mg A) (B : Bm mg base) : FnOk P w K mg base CX0 3 A.a_least_tree A.d_least_tree ["count", "ropes"] (sp_least_tree A.p_from_cheapest) := by
  have G_check_ropes : FnOk P w K mg base CX0 _ _ _ _ _ := ok_check_ropes T
  have G_take_ringless : FnOk P w K mg base CX0 _ _ _ _ _ := ok_take_ringless T
  have G_from_cheapest : FnOk P w K mg base CX0 _ _ _ _ _ := ok_from_cheapest T B
  refine T.f_least_tree.ok sc_least_tree (fun vs H Q E h => ?_) (fun cdv A' outer s H vs Q E hr h => ?_)
  · obtain ⟨n, a, rs, rfl, _⟩ := h
    rfl
  · obtain ⟨n, a, rs, rfl, hrep, hv, hn, hl, hT, k⟩ := h
    refine ⟨_, (pss_cons (ps_expr (pe_call G_check_ropes (hr.mono (by decide)) rfl T.m_check_ropes T.k_check_ropes T.b_check_ropes .nil pass0 (pa_cons (pv 0) (pa_cons (pv 1) pa_nil))))
      (pss_one (ps_ret (pe_callB call_sortedI rfl T.z_sorted bo_sorted (pa_cons (pe_call G_take_ringless (hr.mono (by decide)) rfl T.m_take_ringless T.k_take_ringless T.b_take_ringless .nil pass0 (pa_cons (pv 0) (pa_cons (pv 1) (pa_cons (pe_call G_from_cheapest (hr.mono (by decide)) rfl T.m_from_cheapest T.k_from_cheapest T.b_from_cheapest .nil pass0 (pa_cons (pv 1) pa_nil)) pa_nil)))) pa_nil))))), ?_⟩
    rw [show start ["count", "ropes"] [.int n, .ref a] = [some (.int n), some (.ref a)] from rfl]
    walk_at "rd"
    refine ⟨n, a, rs, rfl, hrep, hv, by omega, fun H1 s1 => ?_⟩
    walk_at "rd"
    refine ⟨a, rs, rfl, hrep.mono s1, hl, s1 _ _ hT, fun D H2 os s2 nD O eD => ?_⟩
    have s3 := s1.trans s2
    have lt := (RT.take_sub (d := true) hv O.okn).length_le
    have lo : os.length ≤ rs.length := RT.nodup_le O.nodup O.okn
    refine ⟨n, a, D, rs, os, rfl, hrep.mono s3, eD, hv, O.okn, hn, by omega, fun p2 H3 s4 n4 e4 => ?_⟩
    refine ⟨p2, _, rfl, e4, by omega, fun D2 ns' p1 p2 n5 => ?_⟩
    have s5 := s3.trans s4
    exact k D2 _ ns' (s5.trans (Same.upd_new n5)) (s5.free n5) ⟨_, O, p1, p2⟩ upd_same

end
end My
namespace My
open PySem L2
section
variable {P : Program} {w : World} {K : PySem.W.Frag} {mg : Str → Option Value} {base : Heap} {A : Ad}
def sp_dearest_tree (T : Addr) : Sp := fun vs H Q _ => ∃ (n : Nat) (a : Addr) (rs : List RT.Rope), vs = [.int n, .ref a] ∧ Rep H (ropesD rs) (.ref a) ∧ RT.Okr n rs ∧ n ≤ 1000 ∧ rs.length < 64 ∧ H T = some (.ctab q_from_cheapest) ∧
  ∀ D H' (ns : List Int), Same H H' → H D = none → RT.Least n (RT.neg rs) ns → H' D = some (.lst (ns.map V.int)) → Q (.ref D) H'
theorem ok_dearest_tree (T : Txt K mg A) (B : Bm mg base) : FnOk P w K mg base CX0 4 A.a_dearest_tree A.d_dearest_tree ["count", "ropes"] (sp_dearest_tree A.p_from_cheapest) := by
  have G_least_tree : FnOk P w K mg base CX0 _ _ _ _ _ := ok_least_tree T B
  refine T.f_dearest_tree.ok sc_dearest_tree (fun vs H Q E h => ?_) (fun cdv A' outer s H vs Q E hr h => ?_)
  · obtain ⟨n, a, rs, rfl, _⟩ := h
    rfl
  · obtain ⟨n, a, rs, rfl, hrep, hv, hn, hl, hT, k⟩ := h
    obtain ⟨a', xs, e, ha, hxs⟩ := rep_lst.mp hrep
    cases e
    have lxs : xs.length = rs.length := by have := hxs.length; rw [List.length_map] at this; exact this.symm
    refine ⟨_, (pss_one (ps_ret (pe_call G_least_tree (hr.mono (by decide)) rfl T.m_least_tree T.k_least_tree T.b_least_tree .nil pass0 (pa_cons (pv 0) (pa_cons (pe_comp1 rfl (CompOk.of (os := defScope s_dearest_tree) (N := ["count", "ropes"]) (ts := ["rope"]) (cs := []) (by decide +kernel) rfl rfl) (pi_list (pv 1)) (fun _ _ _ _ _ => pif_nil) (fun _ _ _ _ _ => (pe_tup (pa_cons (pe_ix ixc_tup (pv 0) pe_int (fun _ _ => rfl)) (pa_cons (pe_ix ixc_tup (pv 0) pe_int (fun _ _ => rfl)) (pa_cons (pe_un un_neg (pe_ix ixc_tup (pv 0) pe_int (fun _ _ => rfl))) pa_nil)))))) pa_nil))))), ?_⟩
    rw [show start ["count", "ropes"] [.int n, .ref a] = [some (.int n), some (.ref a)] from rfl]
    walk_at "rd"
    refine ⟨a, rfl, ⟨_, SqL.of ha⟩, fun D hD => comp_ropes (RT.neg rs) ha hD (by unfold RT.neg; rw [List.length_map]; omega) (by omega) (fun i x r hx hr' H2 Q' s2 q => ?_) fun H2 s2 rep => ?_⟩
    · obtain ⟨r0, p, m, rfl, hp⟩ := ropes_gotI hxs hx
      unfold RT.neg at hr'
      rw [List.getElem?_map, m] at hr'
      cases hr'
      have hp := s2 _ _ hp
      walk_at "rd"
      refine rd_tup hp rfl ?_
      walk_at "rd"
      refine rd_tup hp rfl ?_
      walk_at "rd"
      refine rd_tup hp rfl ?_
      walk_at "rd"
      refine ⟨show 3 ≤ sizeLine by decide, fun kp hkp => q kp _ (Same.upd_new hkp) upd_same⟩
    · walk_at "rd"
      refine ⟨n, D, RT.neg rs, rfl, rep, RT.okr_neg hv, hn, by unfold RT.neg; rw [List.length_map]; exact hl, s2 _ _ hT, fun D2 H3 ns s3 n3 L e => k D2 H3 ns (s2.trans s3) (s2.free n3) L e⟩

end
end My
namespace My
open PySem L2
section
variable {P : Program} {w : World} {K : PySem.W.Frag} {mg : Str → Option Value} {base : Heap} {A : Ad}
def sp_least_without (T : Addr) : Sp := fun vs H Q _ => ∃ (n : Nat) (a : Addr) (rs : List RT.Rope) (e : Int), vs = [.int n, .ref a, .int e] ∧ Rep H (ropesD rs) (.ref a) ∧ RT.Okr n rs ∧ n ≤ 1000 ∧ rs.length < 64 ∧ H T = some (.ctab q_from_cheapest) ∧
  ∀ D H' (ms : List Int), Same H H' → H D = none → RT.Rest n rs e ms → H' D = some (.lst (ms.map V.int)) → Q (.ref D) H'
theorem ok_least_without (T : Txt K mg A) (B : Bm mg base) : FnOk P w K mg base CX0 3 A.a_least_without A.d_least_without ["count", "ropes", "out"] (sp_least_without A.p_from_cheapest) := by
  have G_take_ringless : FnOk P w K mg base CX0 _ _ _ _ _ := ok_take_ringless T
  have G_from_cheapest : FnOk P w K mg base CX0 _ _ _ _ _ := ok_from_cheapest T B
  refine T.f_least_without.ok sc_least_without (fun vs H Q E h => ?_) (fun cdv A' outer s H vs Q E hr h => ?_)
  · obtain ⟨n, a, rs, e, rfl, _⟩ := h
    rfl
  · obtain ⟨n, a, rs, e, rfl, hrep, hv, hn, hl, hT, k⟩ := h
    refine ⟨_, (pss_one (ps_ret (pe_callB call_sortedI rfl T.z_sorted bo_sorted (pa_cons (pe_call G_take_ringless (hr.mono (by decide)) rfl T.m_take_ringless T.k_take_ringless T.b_take_ringless .nil pass0 (pa_cons (pv 0) (pa_cons (pv 1) (pa_cons (pe_comp1 rfl (CompOk.of (os := defScope s_least_without) (N := ["count", "ropes", "out"]) (ts := ["number"]) (cs := [2]) (by decide +kernel) rfl rfl) (pi_list (pe_call G_from_cheapest (hr.mono (by decide)) rfl T.m_from_cheapest T.k_from_cheapest T.b_from_cheapest .nil pass0 (pa_cons (pv 1) pa_nil))) (fun _ _ _ _ _ => (pif_one (pt_cmpR op_ne (pv 0) (pv 1) (nomark _)))) (fun _ _ _ _ _ => (pv 0))) pa_nil)))) pa_nil)))), ?_⟩
    rw [show start ["count", "ropes", "out"] [.int n, .ref a, .int e] = [some (.int n), some (.ref a), some (.int e)] from rfl]
    walk_at "rd"
    refine ⟨a, rs, rfl, hrep, hl, hT, fun D H1 os s1 nD O eD => ?_⟩
    have lo : os.length ≤ rs.length := RT.nodup_le O.nodup O.okn
    refine ⟨D, rfl, ⟨_, SqL.of eD⟩, fun D2 hD2 => comp_filter_list (fun x => decide (x ≠ .int e)) eD hD2 (by rw [List.length_map]; omega) (fun x mx H' Q' s3 q => ?_) ?_⟩
    · obtain ⟨z, mz, rfl⟩ := List.mem_map.mp mx
      walk_at "rd"
      simpa using q
    rw [wo_map]
    have s2 := s1.trans (Same.upd_new (o := .lst ((RT.wo os e).map V.int)) hD2)
    have g2 : upd H1 D2 (.lst ((RT.wo os e).map V.int)) D2 = some (.lst ((RT.wo os e).map V.int)) := upd_same
    generalize upd H1 D2 (.lst ((RT.wo os e).map V.int)) = H2 at s2 g2 ⊢
    walk_at "rd"
    have lw : (RT.wo os e).length ≤ os.length := List.length_filter_le _ _
    have ok := RT.okn_wo' (e := e) O
    have lt := (RT.take_sub (d := true) hv ok).length_le
    refine ⟨n, a, D2, rs, RT.wo os e, rfl, hrep.mono s2, g2, hv, ok, hn, by omega, fun p2 H3 s4 n4 e4 => ?_⟩
    refine ⟨p2, _, rfl, e4, by omega, fun D3 ms p1 p2 n5 => ?_⟩
    have s5 := s2.trans s4
    exact k D3 _ ms (s5.trans (Same.upd_new n5)) (s5.free n5) ⟨_, O, p1, p2⟩ upd_same

end
end My
namespace My
open PySem L2
section
variable {P : Program} {w : World} {K : PySem.W.Frag} {mg : Str → Option Value} {base : Heap} {A : Ad}
def sp_total (C : Addr) : Sp := fun vs H Q E => ∃ (n : Nat) (a b : Addr) (rs : List RT.Rope) (ns : List Int), vs = [.int n, .ref a, .ref b] ∧ Rep H (ropesD rs) (.ref a) ∧ H b = some (.lst (ns.map V.int)) ∧ RT.Okr n rs ∧ n ≤ 100 ∧ rs.length ≤ 100 ∧ ns.length ≤ 100 ∧
  ∀ H', Same H H' → if RT.isTree n rs ns = true then Q (.int (RT.sumC rs ns)) H' else E (.ref C) none H'
theorem ok_total (T : Txt K mg A) : FnOk P w K mg base (CX1 P w) 4 A.a_total A.d_total ["count", "ropes", "numbers"] (sp_total A.a_NoTree) := by
  have G_is_tree : FnOk P w K mg base CX0 _ _ _ _ _ := ok_is_tree T
  have G_cost_of : FnOk P w K mg base CX0 _ _ _ _ _ := ok_cost_of T
  refine T.f_total.okX sc_total (fun vs H Q E h => ?_) (fun cdv A' outer s H vs Q E hr h => ?_)
  · obtain ⟨n, a, b, rs, ns, rfl, _⟩ := h
    rfl
  · obtain ⟨n, a, b, rs, ns, rfl, hrep, hb, hv, hn, hl, hln, k⟩ := h
    refine ⟨_, (pss_cons (ps_if (pt_not (pt_val (pe_call G_is_tree (hr.mono (by decide)) rfl T.m_is_tree T.k_is_tree T.b_is_tree .nil pass0 (pa_cons (pv 0) (pa_cons (pv 1) (pa_cons (pv 2) pa_nil)))))) (pss_one (ps_raise1 hr.hd T.x_NoTree T.m_NoTree rfl (pa_cons pe_str pa_nil))) pss_nil)
      (pss_one (ps_ret (pe_call G_cost_of (hr.mono (by decide)) rfl T.m_cost_of T.k_cost_of T.b_cost_of .nil pass0 (pa_cons (pv 1) (pa_cons (pv 2) pa_nil)))))), ?_⟩
    rw [show start ["count", "ropes", "numbers"] [.int n, .ref a, .ref b] = [some (.int n), some (.ref a), some (.ref b)] from rfl]
    walk_at "rd"
    refine ⟨n, a, b, rs, ns, rfl, hrep, hb, hv, by omega, by omega, by omega, fun H2 s2 => ?_⟩
    have kk := k H2 s2
    walk_at "rd"
    cases ht : RT.isTree n rs ns with
    | false =>
      rw [ht, if_neg Bool.false_ne_true] at kk
      exact ⟨show 1 ≤ sizeLine by decide, kk⟩
    | true =>
      have Tr : RT.Tree n rs ns := (RT.isATree_iff hv).mp (by rw [← RT.isTree_eq hv]; exact ht)
      refine iteF ?_
      walk_at "rd"
      refine ⟨a, b, rs, ns, rfl, hrep.mono s2, s2 _ _ hb, Tr.ok, by omega, fun H3 s3 => ?_⟩
      have kk := k _ (s2.trans s3)
      rw [ht, if_pos rfl] at kk
      exact kk

end
end My
namespace My
open PySem L2
section
variable {P : Program} {w : World} {K : PySem.W.Frag} {mg : Str → Option Value} {base : Heap} {A : Ad}
def sp_why (C T : Addr) : Sp := fun vs H Q E => ∃ (n : Nat) (a : Addr) (rs : List RT.Rope) (m : Int), vs = [.int n, .ref a, .int m] ∧ Rep H (ropesD rs) (.ref a) ∧ RT.Okr n rs ∧ n < 64 ∧ rs.length < 64 ∧ H T = some (.ctab q_from_cheapest) ∧
  (¬ (0 ≤ m ∧ m < rs.length) → ∀ H', Same H H' → E (.ref C) none H') ∧
  ((0 ≤ m ∧ m < rs.length) → ∀ p q H' (ns : List Int), Same H H' → RT.Least n rs ns →
    (m ∈ ns → ∀ zs : List Int, zs.Nodup → zs.Pairwise (· ≤ ·) → (∀ x, x ∈ zs ↔ RT.Conn (RT.ed rs (RT.wo ns m)) (RT.rp rs m).1 x) → H' q = some (.lst (zs.map V.int)) → H' p = some (.tup [.str "in", .ref q]) → Q (.ref p) H') ∧
    (m ∉ ns → ∀ ks ps : List Int, RT.Lead rs (RT.rp rs m).1 ks (RT.rp rs m).2.1 ps → (∀ k ∈ ks, k ∈ ns) → H' q = some (.lst (ks.map V.int)) → H' p = some (.tup [.str "out", .ref q]) → Q (.ref p) H'))
theorem ok_why (T : Txt K mg A) (B : Bm mg base) : FnOk P w K mg base (CX1 P w) 4 A.a_why A.d_why ["count", "ropes", "number"] (sp_why A.a_NoRope A.p_from_cheapest) := by
  have G_check_ropes : FnOk P w K mg base CX0 _ _ _ _ _ := ok_check_ropes T
  have G_is_rope_number : FnOk P w K mg base CX0 _ _ _ _ _ := ok_is_rope_number T
  have G_least_tree : FnOk P w K mg base CX0 _ _ _ _ _ := ok_least_tree T B
  have G_ways_from : FnOk P w K mg base CX0 _ _ _ _ _ := ok_ways_from T
  refine T.f_why.okX sc_why (fun vs H Q E h => ?_) (fun cdv A' outer s H vs Q E hr h => ?_)
  · obtain ⟨n, a, rs, m, rfl, _⟩ := h
    rfl
  · obtain ⟨n, a, rs, m, rfl, hrep, hv, hn, hl, hT, k1, k2⟩ := h
    obtain ⟨a', xs, e, ha, hxs⟩ := rep_lst.mp hrep
    cases e
    have lxs : xs.length = rs.length := by have := hxs.length; rw [List.length_map] at this; exact this.symm
    have hu := hu_of hr
    refine ⟨_, (pss_cons (ps_expr (pe_call G_check_ropes (hr.mono (by decide)) rfl T.m_check_ropes T.k_check_ropes T.b_check_ropes .nil pass0 (pa_cons (pv 0) (pa_cons (pv 1) pa_nil))))
      (pss_cons (ps_if (pt_not (pt_val (pe_call G_is_rope_number (hr.mono (by decide)) rfl T.m_is_rope_number T.k_is_rope_number T.b_is_rope_number .nil pass0 (pa_cons (pv 1) (pa_cons (pv 2) pa_nil))))) (pss_one (ps_raise1 hr.hd T.x_NoRope T.m_NoRope rfl (pa_cons pe_str pa_nil))) pss_nil)
      (pss_cons (ps_set (i := 3) sc_why.nd rfl (Or.inl rfl) (pe_ix ix_list (pv 1) (pv 2) (fun _ _ => rfl)))
      (pss_cons (ps_set (i := 4) sc_why.nd rfl (Or.inl rfl) (pe_call G_least_tree (hr.mono (by decide)) rfl T.m_least_tree T.k_least_tree T.b_least_tree .nil pass0 (pa_cons (pv 0) (pa_cons (pv 1) pa_nil))))
      (pss_cons (ps_if (pt_cmpR op_in_seq (pv 2) (pv 4) (by rfl)) (pss_cons (ps_setc1 (i := 5) rfl (CompOk.of (os := defScope s_why) (N := ["count", "ropes", "number", "rope", "tree", "others"]) (ts := ["kept"]) (cs := [2]) (by decide +kernel) rfl rfl) (pi_list (pv 4)) (fun _ _ _ _ _ => (pif_one (pt_cmpR op_ne (pv 0) (pv 1) (nomark _)))) (fun _ _ _ _ _ => (pv 0)) sc_why.nd rfl (Or.inl rfl))
      (pss_one (ps_ret (pe_tup (pa_cons pe_str (pa_cons (pe_callB (call_sortedD rfl) rfl T.z_sorted bo_sorted (pa_cons (pe_call G_ways_from (hr.mono (by decide)) rfl T.m_ways_from T.k_ways_from T.b_ways_from .nil pass0 (pa_cons (pv 1) (pa_cons (pv 5) (pa_cons (pe_ix ix_tup (pv 3) pe_int (fun _ _ => rfl)) pa_nil)))) pa_nil)) pa_nil)))))) pss_nil)
      (pss_one (ps_ret (pe_tup (pa_cons pe_str (pa_cons (pe_dget hu (pe_call G_ways_from (hr.mono (by decide)) rfl T.m_ways_from T.k_ways_from T.b_ways_from .nil pass0 (pa_cons (pv 1) (pa_cons (pv 4) (pa_cons (pe_ix ix_tup (pv 3) pe_int (fun _ _ => rfl)) pa_nil)))) (pe_ix ix_tup (pv 3) pe_int (fun _ _ => rfl)) (fun _ _ => rfl)) pa_nil)))))))))), ?_⟩
    rw [show start ["count", "ropes", "number", "rope", "tree", "others"] [.int n, .ref a, .int m] = [some (.int n), some (.ref a), some (.int m), none, none, none] from rfl]
    walk_at "rd"
    refine ⟨n, a, rs, rfl, hrep, hv, by omega, fun H1 s1 => ?_⟩
    walk_at "rd"
    refine ⟨a, xs, m, rfl, s1 _ _ ha, ?_⟩
    walk_at "rd"
    rw [lxs]
    by_cases hm : 0 ≤ m ∧ m < rs.length
    · rw [decide_eq_true hm]
      refine iteF ?_
      have k2 := k2 hm
      walk_at "rd"
      obtain ⟨rp, hp1, hp2⟩ := ropes_at (hxs.mono s1) hm.1 hm.2
      refine rd_list (s1 _ _ ha) hp1 ?_
      walk_at "rd"
      refine ⟨n, a, rs, rfl, hrep.mono s1, hv, by omega, hl, s1 _ _ hT, fun D H2 ns s2 nD L eD => ?_⟩
      have s3 := s1.trans s2
      have Tr := L.tree hv
      have lns := L.len hv
      have hp2 : H2 rp = some (.tup [.int (RT.rp rs m).1, .int (RT.rp rs m).2.1, .int (RT.rp rs m).2.2]) := s2 _ _ hp2
      obtain ⟨vr1, vr2⟩ := hv.at hm
      walk_at "rd"
      refine ⟨D, ns.map V.int, rfl, .inl (SqL.of eD), rfl, flat_ints _, ?_⟩
      simp only [Bool.false_eq_true, if_false, inV_ints]
      walk_at "rd"
      by_cases mn : m ∈ ns
      · refine ite2 (fun _ => ?_) (fun c => absurd (by simpa using mn) c)
        walk_at "rd"
        refine ⟨D, rfl, ⟨_, SqL.of eD⟩, fun D2 hD2 => comp_filter_list (fun x => decide (x ≠ .int m)) eD hD2 (by rw [List.length_map]; omega) (fun x mx H' Q' s3 q => ?_) ?_⟩
        · obtain ⟨z, mz, rfl⟩ := List.mem_map.mp mx
          walk_at "rd"
          simpa using q
        rw [wo_map]
        have s4' : Same H2 (upd H2 D2 (.lst ((RT.wo ns m).map V.int))) := Same.upd_new hD2
        have s4 := s3.trans s4'
        have g4 : upd H2 D2 (.lst ((RT.wo ns m).map V.int)) D2 = some (.lst ((RT.wo ns m).map V.int)) := upd_same
        generalize upd H2 D2 (.lst ((RT.wo ns m).map V.int)) = H3 at s4 s4' g4 ⊢
        walk_at "rd"
        refine rd_tup (s4' _ _ hp2) rfl ?_
        have lw : (RT.wo ns m).length ≤ ns.length := List.length_filter_le _ _
        refine ⟨n, a, D2, rs, RT.wo ns m, (RT.rp rs m).1, rfl, hrep.mono s4, g4, hv, RT.okn_wo Tr.ok, by omega, by omega, vr1, fun D3 H4 W ad s5 nD3 Wy Wc eW _ => ?_⟩
        have lW := Wy.len
        refine ⟨D3, _, W.map (·.1), rfl, eW, wayD_keys, by rw [List.length_map]; omega, fun D4 zs p1 p2 nD4 => ?_⟩
        have s6 := (s4.trans s5).trans (Same.upd_new (o := .lst (zs.map V.int)) nD4)
        have g6 : upd H4 D4 (.lst (zs.map V.int)) D4 = some (.lst (zs.map V.int)) := upd_same
        generalize upd H4 D4 (.lst (zs.map V.int)) = H5 at s6 g6 ⊢
        walk_at "rd"
        refine ⟨show 2 ≤ sizeLine by decide, fun tp htp => ?_⟩
        have s7 := Same.upd_new (o := .tup [.str "in", .ref D4]) htp
        exact (k2 tp D4 _ ns (s6.trans s7) L).1 mn zs (p1.nodup_iff.mpr Wy.nd) p2 (fun x => by rw [p1.mem_iff]; exact Wc x) (s7 _ _ g6) upd_same
      · refine ite2 (fun c => absurd (by simpa using c) mn) (fun _ => ?_)
        walk_at "rd"
        refine rd_tup hp2 rfl ?_
        refine ⟨n, a, D, rs, ns, (RT.rp rs m).1, rfl, hrep.mono s3, eD, hv, Tr.ok, by omega, by omega, vr1, fun D3 H4 W ad s5 nD3 Wy Wc eW eL => ?_⟩
        walk_at "rd"
        refine rd_tup (s5 _ _ hp2) rfl ?_
        have mo : (RT.rp rs m).2.1 ∈ W.map (·.1) := (Wc _).mpr (Tr.sp _ _ (RT.Conn.edge (List.mem_map.mpr ⟨m, RT.mem_all.mpr hm, rfl⟩)))
        obtain ⟨⟨x, ks⟩, mp, ex⟩ := List.mem_map.mp mo
        have ex : x = (RT.rp rs m).2.1 := ex
        subst ex
        refine ⟨D3, .ref (ad (RT.rp rs m).2.1), rfl, ?_, ?_⟩
        · have := DGet.k (k := .inl (RT.rp rs m).2.1) eW
          rw [wayD_val, if_pos mo] at this
          exact this
        walk_at "rd"
        refine ⟨show 2 ≤ sizeLine by decide, fun tp htp => ?_⟩
        have s7 := Same.upd_new (o := .tup [.str "out", .ref (ad (RT.rp rs m).2.1)]) htp
        obtain ⟨ps, l, sub, _⟩ := Wy.way _ mp
        exact (k2 tp (ad (RT.rp rs m).2.1) _ ns ((s3.trans s5).trans s7) L).2 mn ks ps l sub (s7 _ _ (eL _ mp)) upd_same
    · rw [decide_eq_false hm]
      refine iteT ?_
      walk_at "rd"
      exact ⟨show 1 ≤ sizeLine by decide, k1 hm _ s1⟩

end
end My
namespace My
open PySem L2
section
variable {P : Program} {w : World} {K : PySem.W.Frag} {mg : Str → Option Value} {base : Heap} {A : Ad}
def SecondV (n : Nat) (rs : List RT.Rope) (ns : List Int) (v : V) (H : Hp) : Prop := (v = .non ∧ ∀ e ∈ ns, ∀ ks, RT.Rest n rs e ks → ks.length ≠ ns.length) ∨
  ∃ (p q : Addr) (ms : List Int), v = .ref p ∧ RT.Second n rs ns ms ∧ H q = some (.lst (ms.map V.int)) ∧ H p = some (.tup [.ref q, .int (RT.sumC rs ms)])
def sp_second_tree (T1 T2 : Addr) : Sp := fun vs H Q _ => ∃ (n : Nat) (a : Addr) (rs : List RT.Rope), vs = [.int n, .ref a] ∧ Rep H (ropesD rs) (.ref a) ∧ RT.Okr n rs ∧ n ≤ 1000 ∧ rs.length < 64 ∧ H T1 = some (.ctab q_from_cheapest) ∧ H T2 = some (.ctab q_second_tree) ∧
  ∀ v H' (ns : List Int), Same H H' → RT.Least n rs ns → (∀ e ∈ ns, ∃ ks, RT.Rest n rs e ks) → SecondV n rs ns v H' → Q v H'
theorem ok_second_tree (T : Txt K mg A) (B : Bm mg base) : FnOk P w K mg base CX0 5 A.a_second_tree A.d_second_tree ["count", "ropes"] (sp_second_tree A.p_from_cheapest A.p_second_tree) := by
  have G_least_tree : FnOk P w K mg base CX0 _ _ _ _ _ := ok_least_tree T B
  have G_least_without : FnOk P w K mg base CX0 _ _ _ _ _ := ok_least_without T B
  have G_cost_of : FnOk P w K mg base CX0 _ _ _ _ _ := ok_cost_of T
  refine T.f_second_tree.okC T.e_second_tree sc_second_tree (fun vs H Q E h => ?_) (fun A' outer s H vs Q E hr h => ?_)
  · obtain ⟨n, a, rs, rfl, _⟩ := h
    rfl
  · obtain ⟨n, a, rs, rfl, hrep, hv, hn, hl, hT1, hT2, k⟩ := h
    refine ⟨_, (pss_cons (ps_set (i := 2) sc_second_tree.nd rfl (Or.inr rfl) (pe_call G_least_tree (hr.mono (by decide)) rfl T.m_least_tree T.k_least_tree T.b_least_tree .nil pass0 (pa_cons (pv 0) (pa_cons (pv 1) pa_nil))))
      (pss_cons (ps_setc1 (i := 3) rfl (CompOk.of (os := defScope s_second_tree) (N := ["count", "ropes", "least", "rests", "trees", "second"]) (ts := ["number"]) (cs := [0, 1]) (by decide +kernel) rfl rfl) (pi_list (pv 2)) (fun _ _ _ _ _ => pif_nil) (fun _ _ _ _ _ => (pe_call G_least_without (hr.mono (by decide)) rfl T.m_least_without T.k_least_without T.b_least_without .nil pass0 (pa_cons (pv 1) (pa_cons (pv 2) (pa_cons (pv 0) pa_nil))))) sc_second_tree.nd rfl (Or.inl rfl))
      (pss_cons (ps_setc1 (i := 4) rfl (CompOk.of (os := defScope s_second_tree) (N := ["count", "ropes", "least", "rests", "trees", "second"]) (ts := ["rest"]) (cs := [2]) (by decide +kernel) rfl rfl) (pi_list (pv 3)) (fun _ _ _ _ _ => (pif_one (pt_cmpR op_eq (pe_callB callc_len_seq rfl T.z_len bo_len (pa_cons (pv 0) pa_nil)) (pe_callB callc_len_seq rfl T.z_len bo_len (pa_cons (pv 1) pa_nil)) (nomark _)))) (fun _ _ _ _ _ => (pv 0)) sc_second_tree.nd rfl (Or.inl rfl))
      (pss_cons (ps_if (pt_not (pt_truth (pv 4) (by intro _; rfl))) (pss_one (ps_ret pe_non)) pss_nil)
      (pss_cons (ps_set (i := 5) sc_second_tree.nd rfl (Or.inl rfl) (pe_minK rfl hr.depth rfl T.h_second_tree B (CompOk.of (os := defScope s_second_tree) (N := ["count", "ropes", "least", "rests", "trees", "second"]) (ts := ["tree"]) (cs := [1]) (by decide +kernel) rfl rfl) rfl T.z_min (pa_cons (pv 4) pa_nil) (fun _ _ _ _ => (pe_call G_cost_of (Room.deeper (Room.in1 (hr.mono (by decide))) _) rfl T.m_cost_of T.k_cost_of T.b_cost_of .nil pass0 (pa_cons (pv 1) (pa_cons (pv 0) pa_nil))))))
      (pss_one (ps_ret (pe_tup (pa_cons (pv 5) (pa_cons (pe_call G_cost_of (hr.mono (by decide)) rfl T.m_cost_of T.k_cost_of T.b_cost_of .nil pass0 (pa_cons (pv 1) (pa_cons (pv 5) pa_nil))) pa_nil)))))))))), ?_⟩
    rw [show start ["count", "ropes", "least", "rests", "trees", "second"] [.int n, .ref a] = [some (.int n), some (.ref a), none, none, none, none] from rfl]
    walk_at "rd"
    refine ⟨n, a, rs, rfl, hrep, hv, hn, hl, hT1, fun L1 H1 ns s1 nL1 L eL1 => ?_⟩
    have lns := L.len hv
    walk_at "rd"
    refine ⟨L1, rfl, ⟨_, SqL.of eL1⟩, fun D hD => comp_any (fun j y H' => ∃ (b : Addr) (ms : List Int) (e : Int), y = .ref b ∧ b ≠ D ∧ H' b = some (.lst (ms.map V.int)) ∧ ns[j]? = some e ∧ RT.Rest n rs e ms) eL1 hD (by rw [List.length_map]; omega) (fun j y H2 H3 sm ⟨b, ms, e, p1, p2, p3, p4⟩ => ⟨b, ms, e, p1, p2, sm _ _ p3, p4⟩) (fun j y H2 ys ⟨b, ms, e, p1, p2, p3, p4⟩ => ⟨b, ms, e, p1, p2, by rw [upd_ne p2]; exact p3, p4⟩) (fun i x hx H2 Q' s2 ⟨ys, hDD⟩ q => ?_) fun H2 ys s2 lys hys eD => ?_⟩
    · obtain ⟨z, ez, rfl⟩ := ints_got hx
      walk_at "rd"
      exact ⟨n, a, rs, z, rfl, hrep.mono (s1.trans s2), hv, hn, hl, (s1.trans s2) _ _ hT1, fun D2 H3 ms s3 nD2 R e3 => q _ _ s3 ⟨D2, ms, z, rfl, fun w => (by rw [w, hDD] at nD2; cases nD2), e3, ez, R⟩⟩
    have s2' := s1.trans s2
    have eL2 := s2 _ _ eL1
    rw [List.length_map] at lys
    have hRex : ∀ e ∈ ns, ∃ ks, RT.Rest n rs e ks := fun e me => by
      obtain ⟨j, hj, ej⟩ := List.getElem_of_mem me
      obtain ⟨b, ms, e', _, _, _, p4, p5⟩ := hys j ys[j] (List.getElem?_eq_getElem (by omega))
      rw [List.getElem?_eq_getElem hj, ej] at p4
      cases p4
      exact ⟨ms, p5⟩
    walk_at "rd"
    refine ⟨D, rfl, ⟨_, SqL.of eD⟩, fun D2 hD2 => comp_filter_list (fun x => decide ((readL H2 x).length = ns.length)) eD hD2 (by omega) (fun x mx H3 Q' s3 q => ?_) ?_⟩
    · obtain ⟨j, hj, ej⟩ := List.getElem_of_mem mx
      obtain ⟨b, ms, e', rfl, _, p3, _⟩ := hys j x (by rw [List.getElem?_eq_getElem hj, ej])
      rw [readL_of p3] at q
      walk_at "rd"
      refine ⟨b, _, rfl, .inl (SqL.of (s3 _ _ p3)), L1, _, rfl, .inl (SqL.of (s3 _ _ eL2)), ?_⟩
      walk_at "rd"
      simp only [List.length_map]
      have e3 : decide ((ms.length : Int) = (ns.length : Int)) = decide (ms.length = ns.length) := by
        rw [Bool.eq_iff_iff, decide_eq_true_eq, decide_eq_true_eq]
        omega
      rw [e3]
      exact q
    generalize hzs : ys.filter (fun x => decide ((readL H2 x).length = ns.length)) = zs
    have s3 : Same H2 (upd H2 D2 (.lst zs)) := Same.upd_new hD2
    have e3 : upd H2 D2 (.lst zs) D2 = some (.lst zs) := upd_same
    generalize upd H2 D2 (.lst zs) = H3 at s3 e3 ⊢
    have s3' := s2'.trans s3
    have lz : zs.length ≤ ys.length := by rw [← hzs]; exact List.length_filter_le _ _
    -- what stands in zs
    have hz : ∀ z ∈ zs, ∃ b ms e, z = .ref b ∧ H3 b = some (.lst (ms.map V.int)) ∧ e ∈ ns ∧ RT.Rest n rs e ms ∧ ms.length = ns.length := fun z mz => by
      rw [← hzs] at mz
      obtain ⟨m1, m2⟩ := List.mem_filter.mp mz
      obtain ⟨j, hj, ej⟩ := List.getElem_of_mem m1
      obtain ⟨b, ms, e', rfl, _, p3, p4, p5⟩ := hys j z (by rw [List.getElem?_eq_getElem hj, ej])
      rw [readL_of p3] at m2
      exact ⟨b, ms, e', rfl, s3 _ _ p3, List.mem_of_getElem? p4, p5, by simpa using m2⟩
    have hall : ∀ e ∈ ns, ∀ ks, RT.Rest n rs e ks → ks.length = ns.length → ∃ z ∈ zs, readL H3 z = ks := fun e me ks R lk => by
      obtain ⟨j, hj, ej⟩ := List.getElem_of_mem me
      have hy := List.getElem?_eq_getElem (l := ys) (i := j) (by omega)
      obtain ⟨b, ms, e', p1, _, p3, p4, p5⟩ := hys j _ hy
      rw [List.getElem?_eq_getElem hj, ej] at p4
      cases p4
      have em := p5.uniq R
      subst em
      refine ⟨.ref b, ?_, readL_of (s3 _ _ p3)⟩
      rw [← hzs]
      refine List.mem_filter.mpr ⟨?_, ?_⟩
      · rw [← p1]; exact List.getElem_mem _
      · rw [readL_of p3]; simpa using lk
    walk_at "rd"
    refine ⟨!zs.isEmpty, .inl ⟨_, SqL.of e3, rfl⟩, ?_⟩
    by_cases hne : zs = []
    · subst hne
      refine iteT ?_
      walk_at "rd"
      refine k .non H3 ns s3' L hRex (.inl ⟨rfl, fun e me ks R lk => ?_⟩)
      obtain ⟨z, mz, _⟩ := hall e me ks R lk
      cases mz
    · have : (!zs.isEmpty) = true := by cases zs with | nil => exact absurd rfl hne | cons _ _ => rfl
      rw [this]
      refine iteF ?_
      walk_at "rd"
      unfold tMinK
      walk_at "rd"
      refine ⟨D2, zs, fun i => RT.sumC rs (readL H3 (zs.getD i .non)), rfl, e3, hne, s3' _ _ hT2, fun i y hy H4 s4 Q' q => ?_, fun i y H4 hy best s4 => ?_⟩
      · obtain ⟨b, ms, e, rfl, hb, me, R, lm⟩ := hz y (List.mem_of_getElem? hy)
        have ey : readL H3 (zs.getD i .non) = ms := by rw [List.getD_eq_getElem?_getD, hy]; exact readL_of hb
        simp only [capL]
        walk_at "rd"
        refine ⟨a, b, rs, ms, rfl, hrep.mono (s3'.trans s4), s4 _ _ hb, (R.ok hv).1, by omega, fun H5 s5 => ?_⟩
        have this : Q' (V.int (RT.sumC rs (readL H3 (zs.getD i .non)))) H5 := q H5 s5
        rw [ey] at this
        exact this
      · obtain ⟨b, ms, e, rfl, hb, me, R, lm⟩ := hz y (List.mem_of_getElem? hy)
        have ey : readL H3 (zs.getD i .non) = ms := by rw [List.getD_eq_getElem?_getD, hy]; exact readL_of hb
        have s4' := s3'.trans s4
        walk_at "rd"
        refine ⟨a, b, rs, ms, rfl, hrep.mono s4', s4 _ _ hb, (R.ok hv).1, by omega, fun H5 s5 => ?_⟩
        walk_at "rd"
        refine ⟨show 2 ≤ sizeLine by decide, fun p hp => ?_⟩
        have s6 := Same.upd_new (o := .tup [.ref b, .int (RT.sumC rs ms)]) hp
        refine k (.ref p) _ ns ((s4'.trans s5).trans s6) L hRex (.inr ⟨p, b, ms, rfl, ⟨⟨e, me, R⟩, lm, fun e' me' ks R' lk => ?_⟩, (s5.trans s6) _ _ (s4 _ _ hb), upd_same⟩)
        obtain ⟨z, mz, rz⟩ := hall e' me' ks R' lk
        obtain ⟨j, hj, ej⟩ := List.getElem_of_mem mz
        have this : RT.sumC rs (readL H3 (zs.getD i .non)) ≤ RT.sumC rs (readL H3 (zs.getD j .non)) := best j hj
        rw [ey, List.getD_eq_getElem?_getD, List.getElem?_eq_getElem hj, ej] at this
        rw [← rz]
        exact this

end
end My
namespace My
open PySem L2
section
variable {P : Program} {w : World} {K : PySem.W.Frag} {mg : Str → Option Value} {base : Heap} {A : Ad}
def sp_rope_to_leave : Sp := fun vs H Q _ => ∃ (n : Nat) (a t o : Addr) (rs : List RT.Rope) (tree other : List Int) (m : Int), vs = [.ref a, .ref t, .ref o, .int m] ∧ Rep H (ropesD rs) (.ref a) ∧ H t = some (.lst (tree.map V.int)) ∧ H o = some (.lst (other.map V.int)) ∧ RT.Okr n rs ∧ RT.Tree n rs tree ∧ RT.Tree n rs other ∧ m ∈ other ∧ m ∉ tree ∧ n ≤ 100 ∧ rs.length ≤ 100 ∧
  ∀ H' (x : Int) (ks ps : List Int), Same H H' → RT.Lead rs (RT.rp rs m).1 ks (RT.rp rs m).2.1 ps → (∀ k ∈ ks, k ∈ tree) → x ∈ ks → x ∉ other → Q (.int x) H'
theorem ok_rope_to_leave (T : Txt K mg A) : FnOk P w K mg base CX0 3 A.a_rope_to_leave A.d_rope_to_leave ["ropes", "tree", "other", "number"] sp_rope_to_leave := by
  have G_ways_from : FnOk P w K mg base CX0 _ _ _ _ _ := ok_ways_from T
  refine T.f_rope_to_leave.ok sc_rope_to_leave (fun vs H Q E h => ?_) (fun cdv A' outer s H vs Q E hr h => ?_)
  · obtain ⟨n, a, t, o, rs, tree, other, m, rfl, _⟩ := h
    rfl
  · obtain ⟨n, a, t, o, rs, tree, other, m, rfl, hrep, ht, ho, hv, Tt, To, mo, nt, hn, hl, k⟩ := h
    obtain ⟨a', xs, e, ha, hxs⟩ := rep_lst.mp hrep
    cases e
    have hu := hu_of hr
    have hm := To.ok m mo
    have lt : tree.length ≤ rs.length := RT.nodup_le (Tt.nodup hv) Tt.ok
    obtain ⟨rp, hp1, hp2⟩ := ropes_at hxs hm.1 hm.2
    have hp2 : H rp = some (.tup [.int (RT.rp rs m).1, .int (RT.rp rs m).2.1, .int (RT.rp rs m).2.2]) := hp2
    obtain ⟨vr1, vr2⟩ := hv.at hm
    refine ⟨_, (pss_cons (ps_set (i := 4) sc_rope_to_leave.nd rfl (Or.inl rfl) (pe_ix ix_list (pv 0) (pv 3) (fun _ _ => rfl)))
      (pss_cons (ps_set (i := 5) sc_rope_to_leave.nd rfl (Or.inl rfl) (pe_dget hu (pe_call G_ways_from (hr.mono (by decide)) rfl T.m_ways_from T.k_ways_from T.b_ways_from .nil pass0 (pa_cons (pv 0) (pa_cons (pv 1) (pa_cons (pe_ix ix_tup (pv 4) pe_int (fun _ _ => rfl)) pa_nil)))) (pe_ix ix_tup (pv 4) pe_int (fun _ _ => rfl)) (fun _ _ => rfl)))
      (pss_one (ps_ret (pe_ix ix_list (pe_comp1 rfl (CompOk.of (os := defScope s_rope_to_leave) (N := ["ropes", "tree", "other", "number", "rope", "ring"]) (ts := ["kept"]) (cs := [2]) (by decide +kernel) rfl rfl) (pi_list (pv 5)) (fun _ _ _ _ _ => (pif_one (pt_cmpR opc_notIn_seq (pv 0) (pv 1) (by rfl)))) (fun _ _ _ _ _ => (pv 0))) pe_int (fun _ _ => rfl)))))), ?_⟩
    rw [show start ["ropes", "tree", "other", "number", "rope", "ring"] [.ref a, .ref t, .ref o, .int m] = [some (.ref a), some (.ref t), some (.ref o), some (.int m), none, none] from rfl]
    walk_at "rd"
    refine rd_list ha hp1 ?_
    walk_at "rd"
    refine rd_tup hp2 rfl ?_
    refine ⟨n, a, t, rs, tree, (RT.rp rs m).1, rfl, hrep, ht, hv, Tt.ok, by omega, by omega, vr1, fun D H1 W ad s1 nD Wy Wc eW eL => ?_⟩
    refine rd_tup (s1 _ _ hp2) rfl ?_
    have mw : (RT.rp rs m).2.1 ∈ W.map (·.1) := (Wc _).mpr (Tt.sp _ _ (RT.Conn.edge (List.mem_map.mpr ⟨m, RT.mem_all.mpr hm, rfl⟩)))
    obtain ⟨⟨x, ks⟩, mp, ex⟩ := List.mem_map.mp mw
    have ex : x = (RT.rp rs m).2.1 := ex
    subst ex
    have hks : H1 (ad (RT.rp rs m).2.1) = some (.lst (ks.map V.int)) := eL _ mp
    obtain ⟨ps, l, sub, _⟩ := Wy.way _ mp
    have l : RT.Lead rs (RT.rp rs m).1 ks (RT.rp rs m).2.1 ps := l
    have sub : ∀ k ∈ ks, k ∈ tree := sub
    have lk : ks.length ≤ rs.length := RT.nodup_le l.once fun k mk => Tt.ok k (sub k mk)
    walk_at "rd"
    refine ⟨D, .ref (ad (RT.rp rs m).2.1), rfl, ?_, ?_⟩
    · have := DGet.k (k := .inl (RT.rp rs m).2.1) eW
      rw [wayD_val, if_pos mw] at this
      exact this
    walk_at "rd"
    refine ⟨ad (RT.rp rs m).2.1, rfl, ⟨_, SqL.of hks⟩, fun D2 hD2 => comp_filter_list (fun x => match x with | .int z => !other.contains z | _ => false) hks hD2 (by rw [List.length_map]; omega) (fun x mx H' Q' s3 q => ?_) ?_⟩
    · obtain ⟨z, mz, rfl⟩ := List.mem_map.mp mx
      walk_at "rd"
      refine ⟨o, _, rfl, .inl (SqL.of ((s1.trans s3) _ _ ho)), rfl, flat_ints _, ?_⟩
      simp only [if_true, inV_ints]
      exact ⟨_, rfl, q⟩
    have ef : (ks.map V.int).filter (fun x => match x with | .int z => !other.contains z | _ => false) = (ks.filter fun z => !other.contains z).map V.int := by
      rw [List.filter_map]
      rfl
    rw [ef]
    have nk : m ∉ ks := fun z => nt (sub m z)
    obtain ⟨j, mj, nj⟩ := RT.ring_leaves hv To mo nk l
    cases ek : ks.filter (fun z => !other.contains z) with
    | nil =>
      have : j ∈ ks.filter (fun z => !other.contains z) := List.mem_filter.mpr ⟨mj, by simpa using nj⟩
      rw [ek] at this
      cases this
    | cons x r =>
      have mx : x ∈ ks.filter (fun z => !other.contains z) := by rw [ek]; simp
      obtain ⟨m1, m2⟩ := List.mem_filter.mp mx
      walk_at "rd"
      refine rd_list upd_same (atI_int (Int.le_refl 0) rfl) ?_
      exact k _ x ks ps (s1.trans (Same.upd_new hD2)) l sub m1 (by simpa using m2)

end
end My
namespace My
open PySem L2
section
variable {P : Program} {w : World} {K : PySem.W.Frag} {mg : Str → Option Value} {base : Heap} {A : Ad}
def StepsAt (H : Hp) (D : Addr) (st : List (Int × Int)) : Prop := ∃ ps : List Addr, H D = some (.lst (ps.map V.ref)) ∧ ps.length = st.length ∧ ∀ (j : Nat) p s, ps[j]? = some p → st[j]? = some s → H p = some (.tup [.int s.1, .int s.2])
def sp_steps_to (C : Addr) : Sp := fun vs H Q E => ∃ (n : Nat) (a p q : Addr) (rs : List RT.Rope) (one other : List Int), vs = [.int n, .ref a, .ref p, .ref q] ∧ Rep H (ropesD rs) (.ref a) ∧ H p = some (.lst (one.map V.int)) ∧ H q = some (.lst (other.map V.int)) ∧ RT.Okr n rs ∧ n ≤ 100 ∧ rs.length ≤ 100 ∧ one.length ≤ 100 ∧ other.length ≤ 100 ∧
  (¬ (RT.Tree n rs one ∧ RT.Tree n rs other) → ∀ H', Same H H' → E (.ref C) none H') ∧
  (RT.Tree n rs one → RT.Tree n rs other → ∀ D H' st, Same H H' → H D = none → RT.Mid n rs one other other.length st → StepsAt H' D st → Q (.ref D) H')
theorem ok_steps_to (T : Txt K mg A) : FnOk P w K mg base (CX1 P w) 4 A.a_steps_to A.d_steps_to ["count", "ropes", "one", "other"] (sp_steps_to A.a_NoTree) := by
  have G_is_tree : FnOk P w K mg base CX0 _ _ _ _ _ := ok_is_tree T
  have G_rope_to_leave : FnOk P w K mg base CX0 _ _ _ _ _ := ok_rope_to_leave T
  refine T.f_steps_to.okX sc_steps_to (fun vs H Q E h => ?_) (fun cdv A' outer s H vs Q E hr h => ?_)
  · obtain ⟨n, a, p, q, rs, one, other, rfl, _⟩ := h
    rfl
  · obtain ⟨n, a, p, q, rs, one, other, rfl, hrep, hp, hq, hv, hn, hl, l1, l2, k1, k2⟩ := h
    have big := big1000
    refine ⟨_, (pss_cons (ps_if (PW.pt (pw_or (pt_not (pt_val (pe_call G_is_tree (hr.mono (by decide)) rfl T.m_is_tree T.k_is_tree T.b_is_tree .nil pass0 (pa_cons (pv 0) (pa_cons (pv 1) (pa_cons (pv 2) pa_nil)))))) (pw_or1 (pt_not (pt_val (pe_call G_is_tree (hr.mono (by decide)) rfl T.m_is_tree T.k_is_tree T.b_is_tree .nil pass0 (pa_cons (pv 0) (pa_cons (pv 1) (pa_cons (pv 3) pa_nil))))))))) (pss_one (ps_raise1 hr.hd T.x_NoTree T.m_NoTree rfl (pa_cons pe_str pa_nil))) pss_nil)
      (pss_cons (ps_set (i := 4) sc_steps_to.nd rfl (Or.inl rfl) (pe_lst pa_nil))
      (pss_cons (ps_set (i := 5) sc_steps_to.nd rfl (Or.inl rfl) (pe_callTy call_list_of rfl T.z_list bo_list (pa_cons (pv 2) pa_nil)))
      (pss_cons (ps_for PassesOwn.leaving rfl (pi_list (pv 3)) (pg_name (i := 6) sc_steps_to.nd rfl (Or.inl rfl))
      (pss_one (ps_if (pt_cmpR op_notIn_seq (pv 6) (pv 2) (by rfl)) (pss_cons (ps_set (i := 7) sc_steps_to.nd rfl (Or.inr rfl) (pe_call G_rope_to_leave (hr.mono (by decide)) rfl T.m_rope_to_leave T.k_rope_to_leave T.b_rope_to_leave .nil pass0 (pa_cons (pv 1) (pa_cons (pv 5) (pa_cons (pv 3) (pa_cons (pv 6) pa_nil))))))
      (pss_cons (ps_expr (pe_bm PySem.F.plainAttrs_list PySem.F.slot_list_append PySem.F.type_list_append mt_append (pv 4) (pa_cons (pe_tup (pa_cons (pv 7) (pa_cons (pv 6) pa_nil))) pa_nil)))
      (pss_one (ps_set (i := 5) sc_steps_to.nd rfl (Or.inl rfl) (pe_op op_cat (pe_comp1 rfl (CompOk.of (os := defScope s_steps_to) (N := ["count", "ropes", "one", "other", "steps", "tree", "number", "out"]) (ts := ["kept"]) (cs := [7]) (by decide +kernel) rfl rfl) (pi_list (pv 5)) (fun _ _ _ _ _ => (pif_one (pt_cmpR op_ne (pv 0) (pv 1) (nomark _)))) (fun _ _ _ _ _ => (pv 0))) (pe_lst (pa_cons (pv 6) pa_nil))))))) pss_nil)))
      (pss_one (ps_ret (pv 4))))))), ?_⟩
    rw [show start ["count", "ropes", "one", "other", "steps", "tree", "number", "out"] [.int n, .ref a, .ref p, .ref q] = [some (.int n), some (.ref a), some (.ref p), some (.ref q), none, none, none, none] from rfl]
    walk_at "rd"
    refine ⟨n, a, p, rs, one, rfl, hrep, hp, hv, by omega, by omega, by omega, fun H1 s1 => ?_⟩
    refine ⟨_, rfl, ite2 (fun c => ?_) (fun c => ?_)⟩
    · have c : RT.isTree n rs one = false := by simpa using c
      refine ⟨show 1 ≤ sizeLine by decide, k1 (fun z => ?_) _ s1⟩
      rw [RT.isTree_of hv z.1] at c
      cases c
    have c1 : RT.isTree n rs one = true := by simpa using c
    have T1 : RT.Tree n rs one := (RT.isATree_iff hv).mp (by rw [← RT.isTree_eq hv]; exact c1)
    refine ⟨n, a, q, rs, other, rfl, hrep.mono s1, s1 _ _ hq, hv, by omega, by omega, by omega, fun H2 s2 => ?_⟩
    have t2 := s1.trans s2
    refine ⟨_, rfl, ite2 (fun c => ?_) (fun c => ?_)⟩
    · have c : RT.isTree n rs other = false := by simpa using c
      refine ⟨show 1 ≤ sizeLine by decide, k1 (fun z => ?_) _ t2⟩
      rw [RT.isTree_of hv z.2] at c
      cases c
    have c2 : RT.isTree n rs other = true := by simpa using c
    have T2 : RT.Tree n rs other := (RT.isATree_iff hv).mp (by rw [← RT.isTree_eq hv]; exact c2)
    have k2 := k2 T1 T2
    walk_at "rd"
    refine ⟨Nat.zero_le _, fun sp nsp => ?_⟩
    have s3 := Same.upd_new (o := .lst []) nsp
    have g3 : upd H2 sp (.lst []) sp = some (.lst (([] : List Addr).map V.ref)) := upd_same
    generalize upd H2 sp (.lst []) = H3 at s3 g3 ⊢
    have t3 := t2.trans s3
    have fsp : H sp = none := t2.free nsp
    walk_at "rd"
    refine ⟨p, _, rfl, .inl (SqL.of (t3 _ _ hp)), fun tp ntp => ?_⟩
    have s4 := Same.upd_new (o := .lst (one.map V.int)) ntp
    have g4 : upd H3 tp (.lst (one.map V.int)) tp = some (.lst ((RT.walk one []).map V.int)) := upd_same
    have g34 := s4 _ _ g3
    have nst : sp ≠ tp := fun z => by rw [← z, g3] at ntp; cases ntp
    generalize upd H3 tp (.lst (one.map V.int)) = H4 at s4 g4 g34 ⊢
    have t4 := t3.trans s4
    have ftp : H tp = none := t3.free ntp
    walk_at "rd"
    refine ⟨_, rfl, q, rfl, ⟨_, SqL.of (t4 _ _ hq)⟩, for_list (K := K) (a := q) (xs := other.map V.int) (fun i σ H5 => ∃ (tp : Addr) (st : List (Int × Int)) (ps : List Addr) (x6 x7 : Option V), σ = [some (.int n), some (.ref a), some (.ref p), some (.ref q), some (.ref sp), some (.ref tp), x6, x7] ∧ Same H H5 ∧ tp ≠ sp ∧ H5 tp = some (.lst ((RT.walk one st).map V.int)) ∧ H5 sp = some (.lst (ps.map V.ref)) ∧ ps.length = st.length ∧ (∀ (j : Nat) p s, ps[j]? = some p → st[j]? = some s → H5 p = some (.tup [.int s.1, .int s.2])) ∧ RT.Mid n rs one other i st)
      ⟨tp, [], [], none, none, rfl, t4, nst.symm, g4, g34, rfl, fun j p s e => by simp at e, .init T1⟩ (fun i σ H5 _ ⟨_, _, _, _, _, _, t, _⟩ => SqL.of (t _ _ hq)) ?_ ?_⟩
    · rintro i x σ H5 hx ⟨tp, st, ps, x6, x7, rfl, t5, nts, g5, gs5, lps, hps, Md⟩
      obtain ⟨z, ez, rfl⟩ := ints_got hx
      have mz := List.mem_of_getElem? ez
      walk_at "rd"
      refine ⟨p, _, rfl, .inl (SqL.of (t5 _ _ hp)), rfl, flat_ints _, ?_⟩
      simp only [if_true, inV_ints]
      refine ⟨_, rfl, ite2 (fun c => ?_) (fun c => ?_)⟩
      · have nz : z ∉ one := by simpa using c
        have lst : st.length ≤ 100 := by
          rw [Md.cnt]
          refine Nat.le_trans (List.length_filter_le _ _) ?_
          rw [List.length_take]
          omega
        have lw : (RT.walk one st).length ≤ rs.length := RT.nodup_le (Md.tr.nodup hv) Md.tr.ok
        refine ⟨n, a, tp, q, rs, RT.walk one st, other, z, rfl, hrep.mono t5, g5, t5 _ _ hq, hv, Md.tr, T2, mz, Md.fresh (T2.nodup hv) ez nz, by omega, by omega, fun H6 o ks ps' s6 Ld sub mo no => ?_⟩
        have t6 := t5.trans s6
        have Md2 := Md.step hv T2 ez nz Ld sub mo no
        walk_at "rd"
        refine ⟨.inl ⟨rfl, _, SqL.of (s6 _ _ gs5)⟩, ?_⟩
        refine ⟨show 2 ≤ sizeLine by decide, fun kp nkp => ?_⟩
        have s7 := s6.trans (Same.upd_new (o := .tup [.int o, .int z]) nkp)
        have g7 : upd H6 kp (.tup [.int o, .int z]) kp = some (.tup [.int o, .int z]) := upd_same
        generalize upd H6 kp (.tup [.int o, .int z]) = H7 at s7 g7 ⊢
        have gs7 := s7 _ _ gs5
        refine ⟨sp, _, _, rfl, rfl, gs7, by rw [List.length_map]; omega, ?_⟩
        have t8 : Same H (upd H7 sp (.lst (ps.map V.ref ++ [.ref kp]))) := (t5.trans s7).upd_late fsp
        have gs8 : upd H7 sp (.lst (ps.map V.ref ++ [.ref kp])) sp = some (.lst ((ps ++ [kp]).map V.ref)) := by rw [upd_same, List.map_append]; rfl
        have g8 : upd H7 sp (.lst (ps.map V.ref ++ [.ref kp])) tp = some (.lst ((RT.walk one st).map V.int)) := by rw [upd_ne nts]; exact s7 _ _ g5
        have nsp7 : ∀ b l, H7 b = some (.tup l) → b ≠ sp := fun b l e w => by rw [w, gs7] at e; cases e
        have hps8 : ∀ (j : Nat) p s, (ps ++ [kp])[j]? = some p → (st ++ [(o, z)])[j]? = some s → upd H7 sp (.lst (ps.map V.ref ++ [.ref kp])) p = some (.tup [.int s.1, .int s.2]) := fun j p' s e1 e2 => by
          by_cases hj : j < ps.length
          · rw [List.getElem?_append_left hj] at e1
            rw [List.getElem?_append_left (by omega)] at e2
            have := s7 _ _ (hps j p' s e1 e2)
            rw [upd_ne (nsp7 _ _ this)]
            exact this
          · have lt := (List.getElem?_eq_some_iff.mp e1).1
            have ej : j = ps.length := by simp at lt; omega
            rw [List.getElem?_append_right (by omega), show j - ps.length = 0 by omega] at e1
            rw [List.getElem?_append_right (by omega), show j - st.length = 0 by omega] at e2
            have e1 : kp = p' := by simpa using e1
            have e2 : (o, z) = s := by simpa using e2
            subst e1 e2
            rw [upd_ne (nsp7 _ _ g7)]
            exact g7
        generalize upd H7 sp (.lst (ps.map V.ref ++ [.ref kp])) = H8 at t8 gs8 g8 hps8 ⊢
        refine ⟨tp, rfl, ⟨_, SqL.of g8⟩, fun D hD => comp_filter_list (fun x => decide (x ≠ .int o)) g8 hD (by rw [List.length_map]; omega) (fun x mx H' Q' s3 q' => ?_) ?_⟩
        · obtain ⟨y, my, rfl⟩ := List.mem_map.mp mx
          walk_at "rd"
          simpa using q'
        rw [wo_map]
        have s9 := Same.upd_new (o := .lst ((RT.wo (RT.walk one st) o).map V.int)) hD
        have g9 : upd H8 D (.lst ((RT.wo (RT.walk one st) o).map V.int)) D = some (.lst ((RT.wo (RT.walk one st) o).map V.int)) := upd_same
        generalize upd H8 D (.lst ((RT.wo (RT.walk one st) o).map V.int)) = H9 at s9 g9 ⊢
        walk_at "rd"
        refine ⟨show 1 ≤ sizeLine by decide, fun D2 hD2 => ?_⟩
        have sa := Same.upd_new (o := .lst [.int z]) hD2
        have lw2 : (RT.wo (RT.walk one st) o).length ≤ (RT.walk one st).length := List.length_filter_le _ _
        refine ⟨D, D2, _, _, rfl, rfl, sa _ _ g9, upd_same, by rw [List.length_map, List.length_singleton]; omega, fun D3 hD3 => ?_⟩
        have sb := (s9.trans sa).trans (Same.upd_new (o := .lst ((RT.wo (RT.walk one st) o).map V.int ++ [.int z])) hD3)
        refine ⟨D3, st ++ [(o, z)], ps ++ [kp], _, _, rfl, t8.trans sb, fun w => ?_, ?_, sb _ _ gs8, by simp [lps], fun j p' s e1 e2 => sb _ _ (hps8 j p' s e1 e2), Md2⟩
        · rw [w, (s9.trans sa) _ _ gs8] at hD3
          cases hD3
        · rw [upd_same, RT.walk_snoc, List.map_append]
          rfl
      · have mz1 : z ∈ one := by simpa using c
        exact ⟨tp, st, ps, _, _, rfl, t5, nts, g5, gs5, lps, hps, Md.skip ez mz1⟩
    · rintro σ H5 ⟨tp, st, ps, x6, x7, rfl, t5, nts, g5, gs5, lps, hps, Md⟩
      rw [List.length_map] at Md
      walk_at "rd"
      exact k2 sp H5 st t5 fsp Md ⟨ps, gs5, lps, hps⟩

end
end My
namespace My
open PySem L2
section
variable {P : Program} {w : World} {K : PySem.W.Frag} {mg : Str → Option Value} {base : Heap} {A : Ad}
def BestV (n : Nat) (rs : List RT.Rope) (x y : Int) (p : Addr) (H : Hp) : Prop :=
  (¬ RT.Conn (RT.ed rs (RT.all rs)) x y ∧ ∃ (q : Addr) (zs : List Int), zs.Nodup ∧ zs.Pairwise (· ≤ ·) ∧ (∀ z, z ∈ zs ↔ RT.Conn (RT.ed rs (RT.all rs)) x z) ∧ H q = some (.lst (zs.map V.int)) ∧ H p = some (.tup [.str "wall", .ref q])) ∨
  (RT.Conn (RT.ed rs (RT.all rs)) x y ∧ ∃ (q : Addr) (v : V) (ns ks ps : List Int), RT.Least n rs ns ∧ RT.Lead rs x ks y ps ∧ (∀ k ∈ ks, k ∈ ns) ∧ ((ks = [] ∧ v = .non) ∨ ∃ k ∈ ks, v = .int (RT.cost rs k) ∧ ∀ j ∈ ks, RT.cost rs j ≤ RT.cost rs k) ∧ H q = some (.lst (ks.map V.int)) ∧ H p = some (.tup [.str "way", .ref q, v]))
theorem BestV.mono {n : Nat} {rs : List RT.Rope} {x y : Int} {p : Addr} {H H' : Hp} (h : BestV n rs x y p H) (s : Same H H') : BestV n rs x y p H' := by
  rcases h with ⟨c, q, zs, a, b, d, e, f⟩ | ⟨c, q, v, ns, ks, ps, a, b, d, e, f, g⟩
  · exact .inl ⟨c, q, zs, a, b, d, s _ _ e, s _ _ f⟩
  · exact .inr ⟨c, q, v, ns, ks, ps, a, b, d, e, s _ _ f, s _ _ g⟩
def sp_best_way (T : Addr) : Sp := fun vs H Q _ => ∃ (n : Nat) (a : Addr) (rs : List RT.Rope) (x y : Int), vs = [.int n, .ref a, .int x, .int y] ∧ Rep H (ropesD rs) (.ref a) ∧ RT.Okr n rs ∧ n < 64 ∧ rs.length < 64 ∧ (0 ≤ x ∧ x < n) ∧ (0 ≤ y ∧ y < n) ∧ H T = some (.ctab q_from_cheapest) ∧
  ∀ p H', Same H H' → BestV n rs x y p H' → Q (.ref p) H'
theorem ok_best_way (T : Txt K mg A) (B : Bm mg base) : FnOk P w K mg base CX0 4 A.a_best_way A.d_best_way ["count", "ropes", "one", "other"] (sp_best_way A.p_from_cheapest) := by
  have G_check_places : FnOk P w K mg base CX0 _ _ _ _ _ := ok_check_places T
  have G_least_tree : FnOk P w K mg base CX0 _ _ _ _ _ := ok_least_tree T B
  have G_ways_from : FnOk P w K mg base CX0 _ _ _ _ _ := ok_ways_from T
  refine T.f_best_way.ok sc_best_way (fun vs H Q E h => ?_) (fun cdv A' outer s H vs Q E hr h => ?_)
  · obtain ⟨n, a, rs, x, y, rfl, _⟩ := h
    rfl
  · obtain ⟨n, a, rs, x, y, rfl, hrep, hv, hn, hl, hx, hy, hT, k⟩ := h
    obtain ⟨a', xs, e, ha, hxs⟩ := rep_lst.mp hrep
    cases e
    have hu := hu_of hr
    refine ⟨_, (pss_cons (ps_expr (pe_call G_check_places (hr.mono (by decide)) rfl T.m_check_places T.k_check_places T.b_check_places .nil pass0 (pa_cons (pv 0) (pa_cons (pe_lst (pa_cons (pv 2) (pa_cons (pv 3) pa_nil))) pa_nil))))
      (pss_cons (ps_set (i := 4) sc_best_way.nd rfl (Or.inl rfl) (pe_call G_ways_from (hr.mono (by decide)) rfl T.m_ways_from T.k_ways_from T.b_ways_from .nil pass0 (pa_cons (pv 1) (pa_cons (pe_call G_least_tree (hr.mono (by decide)) rfl T.m_least_tree T.k_least_tree T.b_least_tree .nil pass0 (pa_cons (pv 0) (pa_cons (pv 1) pa_nil))) (pa_cons (pv 2) pa_nil)))))
      (pss_cons (ps_if (pt_cmp (pc_dnotin hu (pv 3) (pv 4))) (pss_one (ps_ret (pe_tup (pa_cons pe_str (pa_cons (pe_callB (call_sortedD rfl) rfl T.z_sorted bo_sorted (pa_cons (pv 4) pa_nil)) pa_nil))))) pss_nil)
      (pss_cons (ps_set (i := 5) sc_best_way.nd rfl (Or.inl rfl) (pe_dget hu (pv 4) (pv 3) (fun _ _ => rfl)))
      (pss_one (ps_ret (pe_tup (pa_cons pe_str (pa_cons (pv 5) (pa_cons (pe_maxD rfl rfl T.z_max (pa_cons (pe_comp1 rfl (CompOk.of (os := defScope s_best_way) (N := ["count", "ropes", "one", "other", "ways", "numbers"]) (ts := ["number"]) (cs := [1]) (by decide +kernel) rfl rfl) (pi_list (pv 5)) (fun _ _ _ _ _ => pif_nil) (fun _ _ _ _ _ => (pe_ix ixc_tup (pe_ix ixc_list (pv 1) (pv 0) (fun _ _ => rfl)) pe_int (fun _ _ => rfl)))) pa_nil)) pa_nil)))))))))), ?_⟩
    rw [show start ["count", "ropes", "one", "other", "ways", "numbers"] [.int n, .ref a, .int x, .int y] = [some (.int n), some (.ref a), some (.int x), some (.int y), none, none] from rfl]
    walk_at "rd"
    refine ⟨show 2 ≤ sizeLine by decide, fun lp hlp => ?_⟩
    have s0 : Same H (upd H lp (.lst [.int x, .int y])) := Same.upd_new hlp
    have g0 : upd H lp (.lst [.int x, .int y]) lp = some (.lst ([x, y].map V.int)) := upd_same
    generalize upd H lp (.lst [.int x, .int y]) = H0 at s0 g0 ⊢
    walk_at "rd"
    refine ⟨n, lp, [x, y], rfl, g0, fun z mz => ?_, ?_⟩
    · rcases List.mem_cons.mp mz with rfl | mz
      · exact hx
      · rw [List.mem_singleton.mp mz]; exact hy
    walk_at "rd"
    refine ⟨n, a, rs, rfl, hrep.mono s0, hv, by omega, hl, s0 _ _ hT, fun D H1 ns s1 nD L eD => ?_⟩
    have s1' := s0.trans s1
    have Tr := L.tree hv
    have lns := L.len hv
    refine ⟨n, a, D, rs, ns, x, rfl, hrep.mono s1', eD, hv, Tr.ok, by omega, by omega, hx, fun D2 H2 W ad s2 nD2 Wy Wc eW eL => ?_⟩
    have s2' := s1'.trans s2
    have lW := Wy.len
    have Wall : ∀ z, z ∈ W.map (·.1) ↔ RT.Conn (RT.ed rs (RT.all rs)) x z := fun z => by rw [Wc]; exact ⟨fun c => c.mono (RT.ed_sub_all Tr.ok), Tr.sp x z⟩
    walk_at "rd"
    refine ⟨D2, _, rfl, DGet.k (k := .inl y) eW, ?_⟩
    rw [wayD_has]
    by_cases my : y ∈ W.map (·.1)
    · rw [decide_eq_true my]
      refine iteF ?_
      obtain ⟨⟨y', ks⟩, mp, ey⟩ := List.mem_map.mp my
      have ey : y' = y := ey
      subst ey
      obtain ⟨ps, l, sub, up⟩ := Wy.way _ mp
      have hks : H2 (ad y') = some (.lst (ks.map V.int)) := eL _ mp
      have okk : RT.Okn rs ks := fun k mk => Tr.ok k (sub k mk)
      have lk : ks.length ≤ rs.length := RT.nodup_le l.once okk
      walk_at "rd"
      refine ⟨D2, .ref (ad y'), rfl, ?_, ?_⟩
      · have := DGet.k (k := .inl y') eW
        rw [wayD_val, if_pos my] at this
        exact this
      walk_at "rd"
      refine ⟨ad y', rfl, ⟨_, SqL.of hks⟩, fun D3 hD3 => comp_map_list (fun x => match x with | .int z => .int (RT.cost rs z) | v => v) hks hD3 (by rw [List.length_map]; omega) (fun x mx H' Q' s3 q => ?_) ?_⟩
      · obtain ⟨z, mz, rfl⟩ := List.mem_map.mp mx
        have hz := okk z mz
        obtain ⟨p, hp1, hp2⟩ := ropes_at (hxs.mono (s2'.trans s3)) hz.1 hz.2
        walk_at "rd"
        exact rd_list ((s2'.trans s3) _ _ ha) hp1 (rd_tup hp2 rfl q)
      rw [show (ks.map V.int).map (fun x => match x with | .int z => V.int (RT.cost rs z) | v => v) = (ks.map (RT.cost rs)).map V.int by simp [Function.comp]]
      have s3' := Same.upd_new (o := .lst ((ks.map (RT.cost rs)).map V.int)) hD3
      have s3 := s2'.trans s3'
      have g3 : upd H2 D3 (.lst ((ks.map (RT.cost rs)).map V.int)) D3 = some (.lst ((ks.map (RT.cost rs)).map V.int)) := upd_same
      have hks3 := s3' _ _ hks
      generalize upd H2 D3 (.lst ((ks.map (RT.cost rs)).map V.int)) = H3 at s3 s3' g3 hks3 ⊢
      walk_at "rd"
      refine ⟨D3, _, rfl, g3, fun e0 => ?_, fun M mM mx => ?_⟩
      · have e0 : ks = [] := by simpa using e0
        refine ⟨show 3 ≤ sizeLine by decide, fun tp htp => ?_⟩
        have s4 := Same.upd_new (o := .tup [.str "way", .ref (ad y'), .non]) htp
        exact k tp _ (s3.trans s4) (.inr ⟨(Wall y').mp my, ad y', .non, ns, ks, ps, L, l, sub, .inl ⟨e0, rfl⟩, s4 _ _ hks3, upd_same⟩)
      · obtain ⟨k', mk, ek⟩ := List.mem_map.mp mM
        refine ⟨show 3 ≤ sizeLine by decide, fun tp htp => ?_⟩
        have s4 := Same.upd_new (o := .tup [.str "way", .ref (ad y'), .int M]) htp
        exact k tp _ (s3.trans s4) (.inr ⟨(Wall y').mp my, ad y', .int M, ns, ks, ps, L, l, sub, .inr ⟨k', mk, by rw [ek], fun j mj => by rw [ek]; exact mx _ (List.mem_map.mpr ⟨j, mj, rfl⟩)⟩, s4 _ _ hks3, upd_same⟩)
    · rw [decide_eq_false my]
      refine iteT ?_
      walk_at "rd"
      refine ⟨D2, _, W.map (·.1), rfl, eW, wayD_keys, by rw [List.length_map]; omega, fun D4 zs p1 p2 nD4 => ?_⟩
      have s6 := s2'.trans (Same.upd_new (o := .lst (zs.map V.int)) nD4)
      have g6 : upd H2 D4 (.lst (zs.map V.int)) D4 = some (.lst (zs.map V.int)) := upd_same
      generalize upd H2 D4 (.lst (zs.map V.int)) = H5 at s6 g6 ⊢
      walk_at "rd"
      refine ⟨show 2 ≤ sizeLine by decide, fun tp htp => ?_⟩
      have s7 := Same.upd_new (o := .tup [.str "wall", .ref D4]) htp
      exact k tp _ (s6.trans s7) (.inl ⟨fun c => my ((Wall y).mpr c), D4, zs, p1.nodup_iff.mpr Wy.nd, p2, fun z => by rw [p1.mem_iff]; exact Wall z, s7 _ _ g6, upd_same⟩)

end
end My
namespace My
open PySem L2
section
variable {P : Program} {w : World} {K : PySem.W.Frag} {mg : Str → Option Value} {base : Heap} {A : Ad}
theorem reps_lists {H : Hp} : ∀ {G : List (List Int)} {bs : List Addr}, bs.length = G.length → (∀ (j : Nat) b g, bs[j]? = some b → G[j]? = some g → H b = some (.lst (g.map V.int))) → Reps H (G.map intsD) (bs.map V.ref)
  | [], bs, hl, _ => by
    have : bs = [] := List.length_eq_zero_iff.mp hl
    subst this
    exact reps_nil.mpr rfl
  | g :: G, [], hl, _ => by simp at hl
  | g :: G, b :: bs, hl, h => by
    refine reps_cc.mpr ⟨rep_ints.mpr ⟨b, rfl, h 0 b g rfl rfl⟩, reps_lists (by simpa using hl) fun j b' g' e1 e2 => ?_⟩
    exact h (j + 1) b' g' (by simpa using e1) (by simpa using e2)
def sp_groups_below : Sp := fun vs H Q _ => ∃ (n : Nat) (a : Addr) (rs : List RT.Rope) (bd : Int), vs = [.int n, .ref a, .int bd] ∧ Rep H (ropesD rs) (.ref a) ∧ RT.Okr n rs ∧ n < 64 ∧ rs.length < 64 ∧
  ∀ D H', Same H H' → H D = none → Rep H' (.list ((RT.grps n (RT.ed rs (cheapL rs bd)) n).map intsD)) (.ref D) → Q (.ref D) H'
theorem ok_groups_below (T : Txt K mg A) : FnOk P w K mg base CX0 3 A.a_groups_below A.d_groups_below ["count", "ropes", "bound"] sp_groups_below := by
  have G_check_ropes : FnOk P w K mg base CX0 _ _ _ _ _ := ok_check_ropes T
  have G_ways_from : FnOk P w K mg base CX0 _ _ _ _ _ := ok_ways_from T
  refine T.f_groups_below.ok sc_groups_below (fun vs H Q E h => ?_) (fun cdv A' outer s H vs Q E hr h => ?_)
  · obtain ⟨n, a, rs, bd, rfl, _⟩ := h
    rfl
  · obtain ⟨n, a, rs, bd, rfl, hrep, hv, hn, hl, k⟩ := h
    obtain ⟨a', xs, e, ha, hxs⟩ := rep_lst.mp hrep
    cases e
    have lxs : xs.length = rs.length := by have := hxs.length; rw [List.length_map] at this; exact this.symm
    have hu := hu_of hr
    have okc : RT.Okn rs (cheapL rs bd) := fun k mk => (mem_cheap.mp mk).1
    have lc := cheap_len (rs := rs) (bd := bd)
    have hV := RT.valid_ed hv okc
    refine ⟨_, (pss_cons (ps_expr (pe_call G_check_ropes (hr.mono (by decide)) rfl T.m_check_ropes T.k_check_ropes T.b_check_ropes .nil pass0 (pa_cons (pv 0) (pa_cons (pv 1) pa_nil))))
      (pss_cons (ps_setc1 (i := 3) rfl (CompOk.of (os := defScope s_groups_below) (N := ["count", "ropes", "bound", "cheap", "groups", "grouped", "place", "group", "member"]) (ts := ["number"]) (cs := [2, 1]) (by decide +kernel) rfl rfl) (pi_range1 rfl T.z_range (pa_cons (pe_callB call_len_seq rfl T.z_len bo_len (pa_cons (pv 1) pa_nil)) pa_nil)) (fun _ _ _ _ _ => (pif_one (pt_cmpR op_lt (pe_ix ixc_tup (pe_ix ixc_list (pv 2) (pv 0) (fun _ _ => rfl)) pe_int (fun _ _ => rfl)) (pv 1) (nomark _)))) (fun _ _ _ _ _ => (pv 0)) sc_groups_below.nd rfl (Or.inl rfl))
      (pss_cons (ps_set (i := 4) sc_groups_below.nd rfl (Or.inl rfl) (pe_lst pa_nil))
      (pss_cons (ps_set (i := 5) sc_groups_below.nd rfl (Or.inl rfl) pe_dnewK)
      (pss_cons (ps_for PassesOwn.never rfl (pi_range1 rfl T.z_range (pa_cons (pv 0) pa_nil)) (pg_name (i := 6) sc_groups_below.nd rfl (Or.inl rfl))
      (pss_one (ps_if (pt_cmp (pc_dnotin hu (pv 6) (pv 5))) (pss_cons (ps_set (i := 7) sc_groups_below.nd rfl (Or.inl rfl) (pe_callB (call_sortedD rfl) rfl T.z_sorted bo_sorted (pa_cons (pe_call G_ways_from (hr.mono (by decide)) rfl T.m_ways_from T.k_ways_from T.b_ways_from .nil pass0 (pa_cons (pv 1) (pa_cons (pv 3) (pa_cons (pv 6) pa_nil)))) pa_nil)))
      (pss_cons (ps_expr (pe_bm PySem.F.plainAttrs_list PySem.F.slot_list_append PySem.F.type_list_append mt_append (pv 4) (pa_cons (pv 7) pa_nil)))
      (pss_one (ps_for PassesOwn.never rfl (pi_list (pv 7)) (pg_name (i := 8) sc_groups_below.nd rfl (Or.inl rfl))
      (pss_one (ps_dput hu (pv 5) (pv 8) pe_bl rfl)))))) pss_nil)))
      (pss_one (ps_ret (pv 4)))))))), ?_⟩
    rw [show start ["count", "ropes", "bound", "cheap", "groups", "grouped", "place", "group", "member"] [.int n, .ref a, .int bd] = [some (.int n), some (.ref a), some (.int bd), none, none, none, none, none, none] from rfl]
    walk_at "rd"
    refine ⟨n, a, rs, rfl, hrep, hv, by omega, fun H0 s0 => ?_⟩
    walk_at "rd"
    refine ⟨a, _, rfl, .inl (SqL.of (s0 _ _ ha)), _, rfl, by omega, by omega, fun D hD => ?_⟩
    rw [lxs]
    refine comp_filter_range (fun i => decide (RT.cost rs i < bd)) hD (by omega) (fun i hi H1 Q' s1 q => ?_) ?_
    · have s1' := s0.trans s1
      have hi : i < rs.length := by omega
      obtain ⟨rp, hp1, hp2⟩ := ropes_at (k := (0 : Int) + (i : Nat)) (hxs.mono s1') (by omega) (by omega)
      walk_at "rd"
      refine rd_list (s1' _ _ ha) hp1 (rd_tup hp2 rfl ?_)
      walk_at "rd"
      have : (rs.getD ((0 : Int) + (i : Nat)).toNat (0, 0, 0)).2.2 = RT.cost rs i := by simp [RT.cost, RT.rp]
      rw [this]
      exact q
    rw [Int.toNat_natCast, cheap_range]
    have s1 := s0.trans (Same.upd_new (o := .lst ((cheapL rs bd).map V.int)) hD)
    have g1 : upd H0 D (.lst ((cheapL rs bd).map V.int)) D = some (.lst ((cheapL rs bd).map V.int)) := upd_same
    generalize upd H0 D (.lst ((cheapL rs bd).map V.int)) = H1 at s1 g1 ⊢
    walk_at "rd"
    refine ⟨Nat.zero_le _, fun gp hgp => ?_⟩
    have sg := Same.upd_new (o := .lst []) hgp
    have gg : upd H1 gp (.lst []) gp = some (.lst []) := upd_same
    generalize upd H1 gp (.lst []) = H2 at sg gg ⊢
    walk_at "rd"
    refine fun gd hgd => ?_
    have sd := Same.upd_new (o := .dK []) hgd
    have ggd : upd H2 gd (.dK []) gd = some (.dK (setD [])) := upd_same
    have ggp := sd _ _ gg
    generalize upd H2 gd (.dK []) = H3 at sd ggd ggp ⊢
    have s3 := s1.trans (sg.trans sd)
    have fgp : H gp = none := s1.free hgp
    have fgd : H gd = none := (s1.trans sg).free hgd
    have ned : gp ≠ gd := fun z => by rw [z, ggd] at ggp; cases ggp
    walk_at "rd"
    refine ⟨_, rfl, (n : Int), rfl, by omega, by omega, for_range (lo := 0) (n := n) (fun i σ H4 => ∃ (zs : List Int) (bs : List Addr) (x6 x7 x8 : Option V), σ = [some (.int n), some (.ref a), some (.int bd), some (.ref D), some (.ref gp), some (.ref gd), x6, x7, x8] ∧ Same H1 H4 ∧ H4 gd = some (.dK (setD zs)) ∧ H4 gp = some (.lst (bs.map V.ref)) ∧
      bs.length = (RT.grps n (RT.ed rs (cheapL rs bd)) i).length ∧ (∀ (j : Nat) b g, bs[j]? = some b → (RT.grps n (RT.ed rs (cheapL rs bd)) i)[j]? = some g → H4 b = some (.lst (g.map V.int)) ∧ b ≠ gp) ∧ zs.Nodup ∧ (∀ x ∈ zs, 0 ≤ x ∧ x < n) ∧ ∀ x, x ∈ zs ↔ ∃ p : Int, 0 ≤ p ∧ p < i ∧ RT.Conn (RT.ed rs (cheapL rs bd)) p x)
      ⟨[], [], none, none, none, rfl, sg.trans sd, ggd, ggp, rfl, fun j b g e => by simp at e, List.nodup_nil, (fun x m => (nomatch m)), fun x => ⟨fun m => (nomatch m), fun ⟨p, h1, h2, _⟩ => by omega⟩⟩ ?_ ?_⟩
    · rintro i σ H4 hi ⟨zs, bs, x6, x7, x8, rfl, s4, hgd4, hgp4, lbs, hbs, ndz, okz, memz⟩
      have hi' : 0 ≤ ((i : Nat) : Int) ∧ ((i : Nat) : Int) < n := by omega
      have lz : zs.length ≤ n := RT.nodup_le ndz okz
      have big := big1000
      walk_at "rd"
      rw [Int.zero_add]
      refine ⟨gd, _, rfl, DGet.k (k := .inl (i : Int)) hgd4, ?_⟩
      rw [setD_val]
      have lst1 : (i : Int) ∈ zs ↔ ¬ RT.Least1 n (RT.ed rs (cheapL rs bd)) (i : Int) := by
        rw [memz]
        unfold RT.Least1
        constructor
        · rintro ⟨p, h1, h2, c⟩ z
          exact z p h1 h2 c
        · intro z
          exact Classical.byContradiction fun q => z fun p h1 h2 c => q ⟨p, h1, h2, c⟩
      by_cases mi : (i : Int) ∈ zs
      · rw [decide_eq_true mi]
        refine iteF ?_
        have no := RT.grps_no (n := n) (es := RT.ed rs (cheapL rs bd)) (i := i) fun z => lst1.mp mi ((RT.head_sideL hi').mp z)
        rw [← no] at lbs hbs
        refine ⟨zs, bs, _, _, _, rfl, s4, hgd4, hgp4, lbs, hbs, ndz, okz, fun x => ?_⟩
        rw [memz]
        constructor
        · rintro ⟨p, h1, h2, c⟩
          exact ⟨p, h1, by omega, c⟩
        · rintro ⟨p, h1, h2, c⟩
          by_cases e : p = i
          · subst e
            obtain ⟨p', a1, a2, a3⟩ := (memz _).mp mi
            exact ⟨p', a1, a2, a3.trans c⟩
          · exact ⟨p, h1, by omega, c⟩
      · rw [decide_eq_false mi]
        refine iteT ?_
        have yes := RT.grps_yes (n := n) (es := RT.ed rs (cheapL rs bd)) (i := i) ((RT.head_sideL hi').mpr (Classical.byContradiction fun z => mi (lst1.mpr z)))
        walk_at "rd"
        refine ⟨n, a, D, rs, cheapL rs bd, (i : Int), rfl, hrep.mono (s1.trans s4), s4 _ _ g1, hv, okc, by omega, by omega, hi', fun D3 H5 W ad s5 nD3 Wy Wc eW _ => ?_⟩
        have lW := Wy.len
        refine ⟨D3, _, W.map (·.1), rfl, eW, wayD_keys, by rw [List.length_map]; omega, fun D4 z4 p1 p2 nD4 => ?_⟩
        have ez : z4 = RT.sideL n (RT.ed rs (cheapL rs bd)) i := RT.side_is hV hi' (p1.nodup_iff.mpr Wy.nd) p2 fun x => by rw [p1.mem_iff]; exact Wc x
        have s6 := s5.trans (Same.upd_new (o := .lst (z4.map V.int)) nD4)
        have g6 : upd H5 D4 (.lst (z4.map V.int)) D4 = some (.lst (z4.map V.int)) := upd_same
        have n6 : D4 ≠ gp := fun z => by rw [z, s5 _ _ hgp4] at nD4; cases nD4
        generalize upd H5 D4 (.lst (z4.map V.int)) = H6 at s6 g6 ⊢
        have hgp6 := s6 _ _ hgp4
        have hgd6 := s6 _ _ hgd4
        have lz4 : z4.length ≤ n := by have := p1.length_eq; rw [List.length_map] at this; omega
        walk_at "rd"
        have lgr := RT.grps_len (n := n) (es := RT.ed rs (cheapL rs bd)) (i := i)
        refine ⟨.inl ⟨rfl, _, SqL.of hgp6⟩, gp, _, _, rfl, rfl, hgp6, by rw [List.length_map]; omega, ?_⟩
        have t7 : Same H1 (upd H6 gp (.lst (bs.map V.ref ++ [.ref D4]))) := (s4.trans s6).upd_late hgp
        have hgp7 : upd H6 gp (.lst (bs.map V.ref ++ [.ref D4])) gp = some (.lst ((bs ++ [D4]).map V.ref)) := by rw [upd_same, List.map_append]; rfl
        have hgd7 : upd H6 gp (.lst (bs.map V.ref ++ [.ref D4])) gd = some (.dK (setD zs)) := by rw [upd_ne ned.symm]; exact hgd6
        have g7 : upd H6 gp (.lst (bs.map V.ref ++ [.ref D4])) D4 = some (.lst (z4.map V.int)) := by rw [upd_ne n6]; exact g6
        have hb7 : ∀ (j : Nat) b g, (bs ++ [D4])[j]? = some b → (RT.grps n (RT.ed rs (cheapL rs bd)) (i + 1))[j]? = some g → upd H6 gp (.lst (bs.map V.ref ++ [.ref D4])) b = some (.lst (g.map V.int)) ∧ b ≠ gp := fun j b g e1 e2 => by
          rw [yes] at e2
          by_cases hj : j < bs.length
          · rw [List.getElem?_append_left hj] at e1
            rw [List.getElem?_append_left (by omega)] at e2
            obtain ⟨q1, q2⟩ := hbs j b g e1 e2
            exact ⟨by rw [upd_ne q2]; exact s6 _ _ q1, q2⟩
          · have lt := (List.getElem?_eq_some_iff.mp e1).1
            have ej : j = bs.length := by simp at lt; omega
            rw [List.getElem?_append_right (by omega), show j - bs.length = 0 by omega] at e1
            rw [List.getElem?_append_right (by omega), show j - (RT.grps n (RT.ed rs (cheapL rs bd)) i).length = 0 by omega] at e2
            have e1 : D4 = b := by simpa using e1
            have e2 : RT.sideL n (RT.ed rs (cheapL rs bd)) i = g := by simpa using e2
            subst e1
            rw [← e2, ← ez]
            exact ⟨g7, n6⟩
        generalize upd H6 gp (.lst (bs.map V.ref ++ [.ref D4])) = H7 at t7 hgp7 hgd7 g7 hb7 ⊢
        refine ⟨_, rfl, D4, rfl, ⟨_, SqL.of g7⟩, for_list (K := K) (a := D4) (xs := z4.map V.int) (fun j σ H8 => ∃ (zs' : List Int) (x8 : Option V), σ = [some (.int n), some (.ref a), some (.int bd), some (.ref D), some (.ref gp), some (.ref gd), some (.int (i : Int)), some (.ref D4), x8] ∧ Same H1 H8 ∧ H8 gd = some (.dK (setD zs')) ∧ H8 gp = some (.lst ((bs ++ [D4]).map V.ref)) ∧ H8 D4 = some (.lst (z4.map V.int)) ∧
          (∀ (j : Nat) b g, (bs ++ [D4])[j]? = some b → (RT.grps n (RT.ed rs (cheapL rs bd)) (i + 1))[j]? = some g → H8 b = some (.lst (g.map V.int)) ∧ b ≠ gp) ∧ zs'.Nodup ∧ (∀ x ∈ zs', 0 ≤ x ∧ x < n) ∧ ∀ x, x ∈ zs' ↔ x ∈ zs ∨ x ∈ z4.take j)
          ⟨zs, _, rfl, t7, hgd7, hgp7, g7, hb7, ndz, okz, fun x => by simp⟩ (fun j σ H8 _ ⟨_, _, _, _, _, _, q, _⟩ => SqL.of q) ?_ ?_⟩
        · rintro j x σ H8 hx ⟨zs', x8, rfl, t8, hgd8, hgp8, g8, hb8, nd8, ok8, mem8⟩
          obtain ⟨y, ey, rfl⟩ := ints_got hx
          have my := List.mem_of_getElem? ey
          have hy : 0 ≤ y ∧ y < n := by rw [ez] at my; exact (RT.mem_sideL.mp my).1
          have lz8 : zs'.length ≤ n := RT.nodup_le nd8 ok8
          walk_at "rd"
          refine ⟨gd, _, rfl, DPut.k (k := .inl y) hgd8 (by rw [setD_len]; omega), ?_⟩
          rw [setD_put]
          have ne8 : ∀ b l, H8 b = some (.lst l) → b ≠ gd := fun b l e z => by rw [z, hgd8] at e; cases e
          refine ⟨RT.ins zs' y, _, rfl, t8.upd_late (sg.free hgd), by rw [upd_same]; rfl, by rw [upd_ne ned]; exact hgp8, by rw [upd_ne (ne8 _ _ g8)]; exact g8, fun j b g e1 e2 => ?_, RT.nodup_ins nd8, fun x m => ?_, fun x => ?_⟩
          · obtain ⟨q1, q2⟩ := hb8 j b g e1 e2
            exact ⟨by rw [upd_ne (ne8 _ _ q1)]; exact q1, q2⟩
          · rcases RT.mem_ins.mp m with m | m
            · exact ok8 x m
            · rw [m]; exact hy
          · rw [RT.mem_ins, mem8, take_snoc ey, List.mem_append, List.mem_singleton]
            exact or_assoc
        · rintro σ H8 ⟨zs', x8, rfl, t8, hgd8, hgp8, g8, hb8, nd8, ok8, mem8⟩
          rw [List.length_map, List.take_length] at mem8
          refine ⟨zs', bs ++ [D4], _, _, _, rfl, t8, hgd8, hgp8, by rw [yes, List.length_append, List.length_append, lbs]; rfl, hb8, nd8, ok8, fun x => ?_⟩
          rw [mem8, memz, ez, RT.mem_sideL]
          constructor
          · rintro (⟨p, h1, h2, c⟩ | ⟨_, c⟩)
            · exact ⟨p, h1, by omega, c⟩
            · exact ⟨i, by omega, by omega, c⟩
          · rintro ⟨p, h1, h2, c⟩
            by_cases e : p = i
            · subst e
              exact .inr ⟨RT.conn_place hV c hi', c⟩
            · exact .inl ⟨p, h1, by omega, c⟩
    · rintro σ H4 ⟨zs, bs, x6, x7, x8, rfl, s4, hgd4, hgp4, lbs, hbs, ndz, okz, memz⟩
      walk_at "rd"
      exact k gp H4 (s1.trans s4) fgp (rep_lst.mpr ⟨gp, _, rfl, hgp4, reps_lists lbs fun j b g e1 e2 => (hbs j b g e1 e2).1⟩)

end
end My
namespace My
open PySem L2
section
variable {P : Program} {w : World} {K : PySem.W.Frag} {mg : Str → Option Value} {base : Heap} {A : Ad}
/- check_places where a place is none -/
def sp_bad_check_places (C : Addr) : Sp := fun vs H _ E => ∃ (n : Nat) (a : Addr) (xs : List Int), vs = [.int n, .ref a] ∧ H a = some (.lst (xs.map V.int)) ∧ (¬ ∀ x ∈ xs, 0 ≤ x ∧ x < (n : Int)) ∧ E (.ref C) none H
theorem bad_check_places (T : Txt K mg A) : FnOk P w K mg base (CX1 P w) 1 A.a_check_places A.d_check_places ["count", "places"] (sp_bad_check_places A.a_NoPlace) := by
  refine T.f_check_places.okX sc_check_places (fun vs H Q E h => ?_) (fun cdv A' outer s H vs Q E hr h => ?_)
  · obtain ⟨n, a, xs, rfl, _⟩ := h
    rfl
  · obtain ⟨n, a, xs, rfl, ha, hv, k⟩ := h
    refine ⟨_, (pss_one (ps_for PassesOwn.leaving rfl (pi_list (pv 1)) (pg_name (i := 2) sc_check_places.nd rfl (Or.inl rfl))
      (pss_one (ps_if (pt_not (pt_chain op_le op_lt pe_int (pv 2) (pv 0))) (pss_one (ps_raise1 hr.hd T.x_NoPlace T.m_NoPlace rfl (pa_cons pe_str pa_nil))) pss_nil)))), ?_⟩
    refine ⟨_, rfl, a, rfl, ⟨_, SqL.of ha⟩, for_list (K := K) (a := a) (xs := xs.map V.int) (fun i σ H2 => H2 = H ∧ (∃ v, σ = [some (.int n), some (.ref a), v]) ∧ ∀ x ∈ xs.take i, 0 ≤ x ∧ x < (n : Int)) ⟨rfl, ⟨none, rfl⟩, fun x m => by simp at m⟩ (fun i σ H2 _ ⟨e, _⟩ => by rw [e]; exact SqL.of ha) ?_ ?_⟩
    · rintro i x σ H2 hx ⟨rfl, ⟨v, rfl⟩, hi⟩
      obtain ⟨z, ez, rfl⟩ := ints_got hx
      walk_at "rd"
      by_cases hz : 0 ≤ z ∧ z < (n : Int)
      · simp only [hz.1, hz.2, decide_true, if_true]
        walk_at "rd"
        refine ⟨trivial, ⟨_, rfl⟩, fun x m => ?_⟩
        rw [List.take_add_one, ez] at m
        rcases List.mem_append.mp m with m | m
        · exact hi x m
        · have : x = z := by simpa using m
          rw [this]; exact hz
      · by_cases h1 : 0 ≤ z
        · have h2 : ¬ z < (n : Int) := fun c => hz ⟨h1, c⟩
          simp only [h1, h2, decide_true, decide_false, if_true]
          walk_at "rd"
          exact ite2 (fun _ => ⟨show 1 ≤ sizeLine by decide, k⟩) (fun c => absurd (by simp) c)
        · simp only [h1, decide_false]
          walk_at "rd"
          refine iteF ?_
          exact ite2 (fun _ => ⟨show 1 ≤ sizeLine by decide, k⟩) (fun c => absurd (by simp) c)
    · rintro σ H2 ⟨rfl, _, hi⟩
      rw [List.length_map, List.take_length] at hi
      exact absurd hi hv

end
end My
namespace My
open PySem L2
section
variable {P : Program} {w : World} {K : PySem.W.Frag} {mg : Str → Option Value} {base : Heap} {A : Ad}
/- the defs where a place is none: each refuses with NoPlace, ahead of all else -/
theorem not_okr {n : Nat} {rs : List RT.Rope} (h : ¬ RT.Okr n rs) : ¬ ∀ x ∈ (rs.map fun r => r.1) ++ (rs.map fun r => r.2.1), 0 ≤ x ∧ x < (n : Int) := fun z => h fun r m =>
  ⟨z _ (List.mem_append.mpr (.inl (List.mem_map.mpr ⟨r, m, rfl⟩))), z _ (List.mem_append.mpr (.inr (List.mem_map.mpr ⟨r, m, rfl⟩)))⟩
def sp_bad2 (C : Addr) : Sp := fun vs H _ E => ∃ (n : Nat) (a : Addr) (rs : List RT.Rope), vs = [.int n, .ref a] ∧ Rep H (ropesD rs) (.ref a) ∧ ¬ RT.Okr n rs ∧ rs.length ≤ 100 ∧ ∀ H', Same H H' → E (.ref C) none H'
def sp_bad3 (C : Addr) : Sp := fun vs H _ E => ∃ (n : Nat) (a : Addr) (rs : List RT.Rope) (v : V), vs = [.int n, .ref a, v] ∧ Rep H (ropesD rs) (.ref a) ∧ ¬ RT.Okr n rs ∧ rs.length ≤ 100 ∧ ∀ H', Same H H' → E (.ref C) none H'
def sp_bad4 (C : Addr) : Sp := fun vs H _ E => ∃ (n : Nat) (a : Addr) (rs : List RT.Rope) (v u : V), vs = [.int n, .ref a, v, u] ∧ Rep H (ropesD rs) (.ref a) ∧ ¬ RT.Okr n rs ∧ rs.length ≤ 100 ∧ ∀ H', Same H H' → E (.ref C) none H'
def sp_badW (C : Addr) : Sp := fun vs H _ E => ∃ (n : Nat) (a : Addr) (rs : List RT.Rope) (x y : Int), vs = [.int n, .ref a, .int x, .int y] ∧ Rep H (ropesD rs) (.ref a) ∧ ¬ (RT.Okr n rs ∧ (0 ≤ x ∧ x < (n : Int)) ∧ (0 ≤ y ∧ y < (n : Int))) ∧ rs.length ≤ 100 ∧ ∀ H', Same H H' → E (.ref C) none H'
theorem bad_check_ropes (T : Txt K mg A) : FnOk P w K mg base (CX1 P w) 2 A.a_check_ropes A.d_check_ropes ["count", "ropes"] (sp_bad2 A.a_NoPlace) := by
  have B_check_places : FnOk P w K mg base (CX1 P w) _ _ _ _ _ := bad_check_places T
  refine T.f_check_ropes.okX sc_check_ropes (fun vs H Q E h => ?_) (fun cdv A' outer s H vs Q E hr h => ?_)
  · obtain ⟨n, a, rs, rfl, _⟩ := h
    rfl
  · obtain ⟨n, a, rs, rfl, hrep, hv, hl, k⟩ := h
    obtain ⟨a', xs, e, ha, hxs⟩ := rep_lst.mp hrep
    cases e
    have lxs : xs.length = rs.length := by have := hxs.length; rw [List.length_map] at this; exact this.symm
    refine ⟨_, (pss_one (ps_expr (pe_call B_check_places (hr.mono (by decide)) rfl T.m_check_places T.k_check_places T.b_check_places .nil (pass1 fun _ _ _ z => z) (pa_cons (pv 0) (pa_cons (pe_op op_cat (pe_comp1 rfl (CompOk.of (os := defScope s_check_ropes) (N := ["count", "ropes"]) (ts := ["rope"]) (cs := []) (by decide +kernel) rfl rfl) (pi_list (pv 1)) (fun _ _ _ _ _ => pif_nil) (fun _ _ _ _ _ => (pe_ix ixc_tup (pv 0) pe_int (fun _ _ => rfl)))) (pe_comp1 rfl (CompOk.of (os := defScope s_check_ropes) (N := ["count", "ropes"]) (ts := ["rope"]) (cs := []) (by decide +kernel) rfl rfl) (pi_list (pv 1)) (fun _ _ _ _ _ => pif_nil) (fun _ _ _ _ _ => (pe_ix ixc_tup (pv 0) pe_int (fun _ _ => rfl))))) pa_nil))))), ?_⟩
    rw [show start ["count", "ropes"] [.int n, .ref a] = [some (.int n), some (.ref a)] from rfl]
    walk_at "rd"
    refine ⟨a, rfl, ⟨_, SqL.of ha⟩, fun D hD => comp_ints (rs.map fun r => r.1) ha hD (by rw [List.length_map]; omega) (by omega) (fun i x z hx hz H2 Q' s2 q => ?_) ?_⟩
    · obtain ⟨r, p, m, rfl, hp⟩ := ropes_gotI hxs hx
      rw [List.getElem?_map, m] at hz
      cases hz
      walk_at "rd"
      exact rd_tup (s2 _ _ hp) rfl q
    have s1 : Same H (upd H D (.lst ((rs.map fun r => r.1).map V.int))) := Same.upd_new hD
    walk_at "rd"
    refine ⟨a, rfl, ⟨_, SqL.of (s1 _ _ ha)⟩, fun D2 hD2 => comp_ints (rs.map fun r => r.2.1) (s1 _ _ ha) hD2 (by rw [List.length_map]; omega) (by omega) (fun i x z hx hz H2 Q' s2 q => ?_) ?_⟩
    · obtain ⟨r, p, m, rfl, hp⟩ := ropes_gotI hxs hx
      rw [List.getElem?_map, m] at hz
      cases hz
      walk_at "rd"
      exact rd_tup (s2 _ _ (s1 _ _ hp)) rfl q
    have s2 : Same H (upd (upd H D (.lst ((rs.map fun r => r.1).map V.int))) D2 (.lst ((rs.map fun r => r.2.1).map V.int))) := s1.trans (Same.upd_new hD2)
    walk_at "rd"
    refine ⟨D, D2, _, _, rfl, rfl, (Same.upd_new hD2) _ _ upd_same, upd_same, ?_, fun p hp => ?_⟩
    · simp only [List.length_map]
      have := big1000
      have : 2000 ≤ sizeLine := by decide
      omega
    walk_at "rd"
    exact ⟨n, p, (rs.map fun r => r.1) ++ (rs.map fun r => r.2.1), rfl, by rw [upd_same, List.map_append], not_okr hv, k _ (s2.trans (Same.upd_new hp))⟩
theorem bad_least_tree (T : Txt K mg A) : FnOk P w K mg base (CX1 P w) 3 A.a_least_tree A.d_least_tree ["count", "ropes"] (sp_bad2 A.a_NoPlace) := by
  have B_check_ropes : FnOk P w K mg base (CX1 P w) _ _ _ _ _ := bad_check_ropes T
  refine T.f_least_tree.okX sc_least_tree (fun vs H Q E h => ?_) (fun cdv A' outer s H vs Q E hr h => ?_)
  · obtain ⟨n, a, rs, rfl, _⟩ := h
    rfl
  · obtain ⟨n, a, rs, rfl, hrep, hv, hl, k⟩ := h
    refine ⟨_, (pss_cons (ps_expr (pe_call B_check_ropes (hr.mono (by decide)) rfl T.m_check_ropes T.k_check_ropes T.b_check_ropes .nil (pass1 fun _ _ _ z => z) (pa_cons (pv 0) (pa_cons (pv 1) pa_nil)))) pss_never), ?_⟩
    rw [show start ["count", "ropes"] [.int n, .ref a] = [some (.int n), some (.ref a)] from rfl]
    walk_at "rd"
    exact ⟨n, a, rs, rfl, hrep, hv, hl, k⟩
theorem bad_is_tree (T : Txt K mg A) : FnOk P w K mg base (CX1 P w) 3 A.a_is_tree A.d_is_tree ["count", "ropes", "numbers"] (sp_bad3 A.a_NoPlace) := by
  have B_check_ropes : FnOk P w K mg base (CX1 P w) _ _ _ _ _ := bad_check_ropes T
  refine T.f_is_tree.okX sc_is_tree (fun vs H Q E h => ?_) (fun cdv A' outer s H vs Q E hr h => ?_)
  · obtain ⟨n, a, rs, v, rfl, _⟩ := h
    rfl
  · obtain ⟨n, a, rs, v, rfl, hrep, hv, hl, k⟩ := h
    refine ⟨_, (pss_cons (ps_expr (pe_call B_check_ropes (hr.mono (by decide)) rfl T.m_check_ropes T.k_check_ropes T.b_check_ropes .nil (pass1 fun _ _ _ z => z) (pa_cons (pv 0) (pa_cons (pv 1) pa_nil)))) pss_never), ?_⟩
    rw [show start ["count", "ropes", "numbers"] [.int n, .ref a, v] = [some (.int n), some (.ref a), some v] from rfl]
    walk_at "rd"
    exact ⟨n, a, rs, rfl, hrep, hv, hl, k⟩
theorem neg_neg_ropes (rs : List RT.Rope) : RT.neg (RT.neg rs) = rs := by
  unfold RT.neg
  rw [List.map_map]
  conv => rhs; rw [← List.map_id rs]
  exact List.map_congr_left fun r _ => by simp
theorem bad_dearest_tree (T : Txt K mg A) : FnOk P w K mg base (CX1 P w) 4 A.a_dearest_tree A.d_dearest_tree ["count", "ropes"] (sp_bad2 A.a_NoPlace) := by
  have B_least_tree : FnOk P w K mg base (CX1 P w) _ _ _ _ _ := bad_least_tree T
  refine T.f_dearest_tree.okX sc_dearest_tree (fun vs H Q E h => ?_) (fun cdv A' outer s H vs Q E hr h => ?_)
  · obtain ⟨n, a, rs, rfl, _⟩ := h
    rfl
  · obtain ⟨n, a, rs, rfl, hrep, hv, hl, k⟩ := h
    obtain ⟨a', xs, e, ha, hxs⟩ := rep_lst.mp hrep
    cases e
    have lxs : xs.length = rs.length := by have := hxs.length; rw [List.length_map] at this; exact this.symm
    refine ⟨_, (pss_one (ps_ret (pe_call B_least_tree (hr.mono (by decide)) rfl T.m_least_tree T.k_least_tree T.b_least_tree .nil (pass1 fun _ _ _ z => z) (pa_cons (pv 0) (pa_cons (pe_comp1 rfl (CompOk.of (os := defScope s_dearest_tree) (N := ["count", "ropes"]) (ts := ["rope"]) (cs := []) (by decide +kernel) rfl rfl) (pi_list (pv 1)) (fun _ _ _ _ _ => pif_nil) (fun _ _ _ _ _ => (pe_tup (pa_cons (pe_ix ixc_tup (pv 0) pe_int (fun _ _ => rfl)) (pa_cons (pe_ix ixc_tup (pv 0) pe_int (fun _ _ => rfl)) (pa_cons (pe_un un_neg (pe_ix ixc_tup (pv 0) pe_int (fun _ _ => rfl))) pa_nil)))))) pa_nil))))), ?_⟩
    rw [show start ["count", "ropes"] [.int n, .ref a] = [some (.int n), some (.ref a)] from rfl]
    walk_at "rd"
    refine ⟨a, rfl, ⟨_, SqL.of ha⟩, fun D hD => comp_ropes (RT.neg rs) ha hD (by unfold RT.neg; rw [List.length_map]; omega) (by omega) (fun i x r hx hr' H2 Q' s2 q => ?_) fun H2 s2 rep => ?_⟩
    · obtain ⟨r0, p, m, rfl, hp⟩ := ropes_gotI hxs hx
      unfold RT.neg at hr'
      rw [List.getElem?_map, m] at hr'
      cases hr'
      have hp := s2 _ _ hp
      walk_at "rd"
      refine rd_tup hp rfl ?_
      walk_at "rd"
      refine rd_tup hp rfl ?_
      walk_at "rd"
      refine rd_tup hp rfl ?_
      walk_at "rd"
      refine ⟨show 3 ≤ sizeLine by decide, fun kp hkp => q kp _ (Same.upd_new hkp) upd_same⟩
    · walk_at "rd"
      refine ⟨n, D, RT.neg rs, rfl, rep, fun o => hv ?_, by unfold RT.neg; rw [List.length_map]; exact hl, fun H' s => k H' (s2.trans s)⟩
      have := RT.okr_neg o
      rwa [neg_neg_ropes] at this
theorem bad_total (T : Txt K mg A) : FnOk P w K mg base (CX1 P w) 4 A.a_total A.d_total ["count", "ropes", "numbers"] (sp_bad3 A.a_NoPlace) := by
  have B_is_tree : FnOk P w K mg base (CX1 P w) _ _ _ _ _ := bad_is_tree T
  refine T.f_total.okX sc_total (fun vs H Q E h => ?_) (fun cdv A' outer s H vs Q E hr h => ?_)
  · obtain ⟨n, a, rs, v, rfl, _⟩ := h
    rfl
  · obtain ⟨n, a, rs, v, rfl, hrep, hv, hl, k⟩ := h
    refine ⟨_, (pss_cons (ps_if (pt_not (pt_val (pe_call B_is_tree (hr.mono (by decide)) rfl T.m_is_tree T.k_is_tree T.b_is_tree .nil (pass1 fun _ _ _ z => z) (pa_cons (pv 0) (pa_cons (pv 1) (pa_cons (pv 2) pa_nil)))))) pss_never pss_never) pss_never), ?_⟩
    rw [show start ["count", "ropes", "numbers"] [.int n, .ref a, v] = [some (.int n), some (.ref a), some v] from rfl]
    walk_at "rd"
    exact ⟨n, a, rs, v, rfl, hrep, hv, hl, k⟩
theorem bad_why (T : Txt K mg A) : FnOk P w K mg base (CX1 P w) 4 A.a_why A.d_why ["count", "ropes", "number"] (sp_bad3 A.a_NoPlace) := by
  have B_check_ropes : FnOk P w K mg base (CX1 P w) _ _ _ _ _ := bad_check_ropes T
  refine T.f_why.okX sc_why (fun vs H Q E h => ?_) (fun cdv A' outer s H vs Q E hr h => ?_)
  · obtain ⟨n, a, rs, v, rfl, _⟩ := h
    rfl
  · obtain ⟨n, a, rs, v, rfl, hrep, hv, hl, k⟩ := h
    refine ⟨_, (pss_cons (ps_expr (pe_call B_check_ropes (hr.mono (by decide)) rfl T.m_check_ropes T.k_check_ropes T.b_check_ropes .nil (pass1 fun _ _ _ z => z) (pa_cons (pv 0) (pa_cons (pv 1) pa_nil)))) pss_never), ?_⟩
    rw [show start ["count", "ropes", "number", "rope", "tree", "others"] [.int n, .ref a, v] = [some (.int n), some (.ref a), some v, none, none, none] from rfl]
    walk_at "rd"
    exact ⟨n, a, rs, rfl, hrep, hv, hl, k⟩
theorem bad_second_tree (T : Txt K mg A) : FnOk P w K mg base (CX1 P w) 5 A.a_second_tree A.d_second_tree ["count", "ropes"] (sp_bad2 A.a_NoPlace) := by
  have B_least_tree : FnOk P w K mg base (CX1 P w) _ _ _ _ _ := bad_least_tree T
  refine T.f_second_tree.okX sc_second_tree (fun vs H Q E h => ?_) (fun cdv A' outer s H vs Q E hr h => ?_)
  · obtain ⟨n, a, rs, rfl, _⟩ := h
    rfl
  · obtain ⟨n, a, rs, rfl, hrep, hv, hl, k⟩ := h
    refine ⟨_, (pss_cons (ps_set (i := 2) sc_second_tree.nd rfl (Or.inr rfl) (pe_call B_least_tree (hr.mono (by decide)) rfl T.m_least_tree T.k_least_tree T.b_least_tree .nil (pass1 fun _ _ _ z => z) (pa_cons (pv 0) (pa_cons (pv 1) pa_nil)))) pss_never), ?_⟩
    rw [show start ["count", "ropes", "least", "rests", "trees", "second"] [.int n, .ref a] = [some (.int n), some (.ref a), none, none, none, none] from rfl]
    walk_at "rd"
    exact ⟨n, a, rs, rfl, hrep, hv, hl, k⟩
theorem bad_groups_below (T : Txt K mg A) : FnOk P w K mg base (CX1 P w) 3 A.a_groups_below A.d_groups_below ["count", "ropes", "bound"] (sp_bad3 A.a_NoPlace) := by
  have B_check_ropes : FnOk P w K mg base (CX1 P w) _ _ _ _ _ := bad_check_ropes T
  refine T.f_groups_below.okX sc_groups_below (fun vs H Q E h => ?_) (fun cdv A' outer s H vs Q E hr h => ?_)
  · obtain ⟨n, a, rs, v, rfl, _⟩ := h
    rfl
  · obtain ⟨n, a, rs, v, rfl, hrep, hv, hl, k⟩ := h
    refine ⟨_, (pss_cons (ps_expr (pe_call B_check_ropes (hr.mono (by decide)) rfl T.m_check_ropes T.k_check_ropes T.b_check_ropes .nil (pass1 fun _ _ _ z => z) (pa_cons (pv 0) (pa_cons (pv 1) pa_nil)))) pss_never), ?_⟩
    rw [show start ["count", "ropes", "bound", "cheap", "groups", "grouped", "place", "group", "member"] [.int n, .ref a, v] = [some (.int n), some (.ref a), some v, none, none, none, none, none, none] from rfl]
    walk_at "rd"
    exact ⟨n, a, rs, rfl, hrep, hv, hl, k⟩
theorem bad_steps_to (T : Txt K mg A) : FnOk P w K mg base (CX1 P w) 4 A.a_steps_to A.d_steps_to ["count", "ropes", "one", "other"] (sp_bad4 A.a_NoPlace) := by
  have B_is_tree : FnOk P w K mg base (CX1 P w) _ _ _ _ _ := bad_is_tree T
  refine T.f_steps_to.okX sc_steps_to (fun vs H Q E h => ?_) (fun cdv A' outer s H vs Q E hr h => ?_)
  · obtain ⟨n, a, rs, v, u, rfl, _⟩ := h
    rfl
  · obtain ⟨n, a, rs, v, u, rfl, hrep, hv, hl, k⟩ := h
    refine ⟨_, (pss_cons (ps_if (PW.pt (pw_or (pt_not (pt_val (pe_call B_is_tree (hr.mono (by decide)) rfl T.m_is_tree T.k_is_tree T.b_is_tree .nil (pass1 fun _ _ _ z => z) (pa_cons (pv 0) (pa_cons (pv 1) (pa_cons (pv 2) pa_nil)))))) (pw_or1 (pt_not (pt_val (pe_call B_is_tree (hr.mono (by decide)) rfl T.m_is_tree T.k_is_tree T.b_is_tree .nil (pass1 fun _ _ _ z => z) (pa_cons (pv 0) (pa_cons (pv 1) (pa_cons (pv 3) pa_nil))))))))) pss_never pss_never) pss_never), ?_⟩
    rw [show start ["count", "ropes", "one", "other", "steps", "tree", "number", "out"] [.int n, .ref a, v, u] = [some (.int n), some (.ref a), some v, some u, none, none, none, none] from rfl]
    walk_at "rd"
    exact ⟨n, a, rs, v, rfl, hrep, hv, hl, k⟩
theorem bad_best_way (T : Txt K mg A) : FnOk P w K mg base (CX1 P w) 4 A.a_best_way A.d_best_way ["count", "ropes", "one", "other"] (sp_badW A.a_NoPlace) := by
  have B_check_places : FnOk P w K mg base (CX1 P w) _ _ _ _ _ := (ok_check_places T).up.or (bad_check_places T)
  have B_least_tree : FnOk P w K mg base (CX1 P w) _ _ _ _ _ := bad_least_tree T
  have G_ways_from : FnOk P w K mg base CX0 _ _ _ _ _ := ok_ways_from T
  refine T.f_best_way.okX sc_best_way (fun vs H Q E h => ?_) (fun cdv A' outer s H vs Q E hr h => ?_)
  · obtain ⟨n, a, rs, x, y, rfl, _⟩ := h
    rfl
  · obtain ⟨n, a, rs, x, y, rfl, hrep, hv, hl, k⟩ := h
    refine ⟨_, (pss_cons (ps_expr (pe_call B_check_places (hr.mono (by decide)) rfl T.m_check_places T.k_check_places T.b_check_places .nil (pass1 fun _ _ _ z => z) (pa_cons (pv 0) (pa_cons (pe_lst (pa_cons (pv 2) (pa_cons (pv 3) pa_nil))) pa_nil)))) (pss_cons (ps_set (i := 4) sc_best_way.nd rfl (Or.inl rfl) (pe_call G_ways_from (hr.mono (by decide)) rfl T.m_ways_from T.k_ways_from T.b_ways_from .nil pass0 (pa_cons (pv 1) (pa_cons (pe_call B_least_tree (hr.mono (by decide)) rfl T.m_least_tree T.k_least_tree T.b_least_tree .nil (pass1 fun _ _ _ z => z) (pa_cons (pv 0) (pa_cons (pv 1) pa_nil))) (pa_cons (pv 2) pa_nil))))) pss_never)), ?_⟩
    rw [show start ["count", "ropes", "one", "other", "ways", "numbers"] [.int n, .ref a, .int x, .int y] = [some (.int n), some (.ref a), some (.int x), some (.int y), none, none] from rfl]
    walk_at "rd"
    refine ⟨show 2 ≤ sizeLine by decide, fun lp hlp => ?_⟩
    have s0 : Same H (upd H lp (.lst [.int x, .int y])) := Same.upd_new hlp
    have g0 : upd H lp (.lst [.int x, .int y]) lp = some (.lst ([x, y].map V.int)) := upd_same
    generalize upd H lp (.lst [.int x, .int y]) = H0 at s0 g0 ⊢
    walk_at "rd"
    by_cases hp : (0 ≤ x ∧ x < (n : Int)) ∧ (0 ≤ y ∧ y < (n : Int))
    · refine .inl ⟨n, lp, [x, y], rfl, g0, fun z mz => ?_, ?_⟩
      · rcases List.mem_cons.mp mz with rfl | mz
        · exact hp.1
        · rw [List.mem_singleton.mp mz]; exact hp.2
      walk_at "rd"
      exact ⟨n, a, rs, rfl, hrep.mono s0, fun o => hv ⟨o, hp⟩, hl, fun H' s => k H' (s0.trans s)⟩
    · exact .inr ⟨n, lp, [x, y], rfl, g0, fun z => hp ⟨z x (by simp), z y (by simp)⟩, k _ s0⟩

end
end My
namespace My
open PySem L2
section
variable {P : Program} {w : World} {K : PySem.W.Frag} {mg : Str → Option Value} {base : Heap} {A : Ad}
/-- a row of at most 63: the lesser number -/
def sp__law_upto : Sp := fun vs H Q _ => ∃ (a : Addr) (xs : List V) (i j : Int), vs = [.ref a, .int i, .int j] ∧ H a = some (.lst xs) ∧ xs.length ≤ 63 ∧ Q (.int i) H
theorem ok__law_upto (T : Txt K mg A) : FnOk P w K mg base CX0 1 A.a__law_upto A.d__law_upto ["_law_script", "_law_small", "_law_great"] sp__law_upto := by
  refine T.f__law_upto.ok sc__law_upto (fun vs H Q E h => ?_) (fun cdv A' outer s H vs Q E hr h => ?_)
  · obtain ⟨a, xs, i, j, rfl, _⟩ := h
    rfl
  · obtain ⟨a, xs, i, j, rfl, ha, hl, k⟩ := h
    refine ⟨_, (pss_cons (ps_if (pt_cmpR op_gt (pe_callB call_len_seq rfl T.z_len bo_len (pa_cons (pv 0) pa_nil)) pe_int (nomark _)) (pss_one (ps_ret (pv 2))) pss_nil)
      (pss_one (ps_ret (pv 1)))), ?_⟩
    rw [show start ["_law_script", "_law_small", "_law_great"] [.ref a, .int i, .int j] = [some (.ref a), some (.int i), some (.int j)] from rfl]
    walk_at "rd"
    refine ⟨a, _, rfl, .inl (SqL.of ha), ?_⟩
    walk_at "rd"
    rw [if_neg (by simp; omega)]
    exact k

end
end My
namespace My
open PySem L2
section
variable {P : Program} {w : World} {K : PySem.W.Frag} {mg : Str → Option Value} {base : Heap} {A : Ad}
def sp__law_whole : Sp := fun vs H Q _ => ∃ (i : Int), vs = [.int i] ∧ Q (.bl true) H
theorem ok__law_whole (T : Txt K mg A) : FnOk P w K mg base CX0 1 A.a__law_whole A.d__law_whole ["_law_found"] sp__law_whole := by
  refine T.f__law_whole.ok sc__law_whole (fun vs H Q E h => ?_) (fun cdv A' outer s H vs Q E hr h => ?_)
  · obtain ⟨i, rfl, _⟩ := h
    rfl
  · obtain ⟨i, rfl, k⟩ := h
    refine ⟨_, (pss_one (ps_ret (pe_and (pe_callB call_isinst rfl T.z_isinstance bo_isinstance (pa_cons (pv 0) (pa_cons (pe_bltn (v := .ty "int") rfl T.z_int bo_int rfl) pa_nil))) (pe_one (pe_not (pe_callB call_isinst rfl T.z_isinstance bo_isinstance (pa_cons (pv 0) (pa_cons (pe_bltn (v := .ty "bool") rfl T.z_bool bo_bool rfl) pa_nil)))))))), ?_⟩
    rw [show start ["_law_found"] [.int i] = [some (.int i)] from rfl]
    walk_at "rd"
    refine ⟨_, _, _, _, rfl, .int i, rfl, ?_⟩
    walk_at "rd"
    refine ⟨_, _, _, _, rfl, .int i, rfl, ?_⟩
    walk_at "rd"
    exact k

end
end My
namespace My
open PySem L2
section
variable {P : Program} {w : World} {K : PySem.W.Frag} {mg : Str → Option Value} {base : Heap} {A : Ad}
def sp__law_at : Sp := fun vs H Q _ => ∃ (a : Addr) (ns : List Int) (i : Int), vs = [.ref a, .int i] ∧ H a = some (.lst (ns.map V.int)) ∧ 0 ≤ i ∧ Q (.int (ns.getD i.toNat 0)) H
theorem ok__law_at (T : Txt K mg A) : FnOk P w K mg base CX0 1 A.a__law_at A.d__law_at ["_law_script", "_law_k"] sp__law_at := by
  refine T.f__law_at.ok sc__law_at (fun vs H Q E h => ?_) (fun cdv A' outer s H vs Q E hr h => ?_)
  · obtain ⟨a, ns, i, rfl, _⟩ := h
    rfl
  · obtain ⟨a, ns, i, rfl, ha, h0, k⟩ := h
    refine ⟨_, (pss_cons (ps_if (pt_cmpR op_lt (pv 1) (pe_callB call_len_seq rfl T.z_len bo_len (pa_cons (pv 0) pa_nil)) (nomark _)) (pss_one (ps_ret (pe_ix ix_list (pv 0) (pv 1) (fun _ _ => rfl)))) pss_nil)
      (pss_one (ps_ret pe_int))), ?_⟩
    rw [show start ["_law_script", "_law_k"] [.ref a, .int i] = [some (.ref a), some (.int i)] from rfl]
    walk_at "rd"
    refine ⟨a, _, rfl, .inl (SqL.of ha), ?_⟩
    walk_at "rd"
    refine ite2 (fun c => ?_) (fun c => ?_)
    · have hi : i.toNat < ns.length := by simp at c; omega
      refine rd_list ha (atI_int h0 (v := .int (ns.getD i.toNat 0)) ?_) k
      rw [List.getElem?_map, List.getD_eq_getElem?_getD, List.getElem?_eq_getElem hi]
      rfl
    · have e : ns.getD i.toNat 0 = 0 := by
        rw [List.getD_eq_getElem?_getD, List.getElem?_eq_none_iff.mpr (by simp at c; omega)]
        rfl
      rw [e] at k
      exact k

end
end My
namespace My
open PySem L2
section
variable {P : Program} {w : World} {K : PySem.W.Frag} {mg : Str → Option Value} {base : Heap} {A : Ad}
def sp__law_ropes_by : Sp := fun vs H Q _ => ∃ (n : Nat) (a : Addr) (cs : List Int) (sd : Int), vs = [.ref a, .int n, .int sd] ∧ H a = some (.lst (cs.map V.int)) ∧ cs.length ≤ 1000 ∧
  ∀ p rs H', Same H H' → H p = none → RT.Okr n rs → rs.length ≤ cs.length → Rep H' (ropesD rs) (.ref p) → Q (.ref p) H'
theorem ok__law_ropes_by (T : Txt K mg A) : FnOk P w K mg base CX0 1 A.a__law_ropes_by A.d__law_ropes_by ["_law_cells", "_law_count", "_law_seed"] sp__law_ropes_by := by
  refine T.f__law_ropes_by.ok sc__law_ropes_by (fun vs H Q E h => ?_) (fun cdv A' outer s H vs Q E hr h => ?_)
  · obtain ⟨n, a, cs, sd, rfl, _⟩ := h
    rfl
  · obtain ⟨n, a, cs, sd, rfl, ha, hl, k⟩ := h
    refine ⟨_, (pss_cons (ps_set (i := 3) sc__law_ropes_by.nd rfl (Or.inl rfl) (pe_lst pa_nil))
      (pss_cons (ps_set (i := 4) sc__law_ropes_by.nd rfl (Or.inl rfl) (pe_ix ix_list (pe_lst (pa_cons pe_int (pa_cons pe_int (pa_cons pe_int pa_nil)))) (pe_op op_mod (pv 2) pe_int) (fun _ _ => rfl)))
      (pss_cons (ps_set (i := 5) sc__law_ropes_by.nd rfl (Or.inl rfl) (pe_ix ix_list (pe_lst (pa_cons pe_int (pa_cons (pe_op op_add pe_int (pe_op op_mod (pv 2) (pe_op op_pow pe_int pe_int))) (pa_cons (pe_op op_pow pe_int pe_int) pa_nil)))) (pe_op op_mod (pe_op op_fdiv (pv 2) pe_int) pe_int) (fun _ _ => rfl)))
      (pss_cons (ps_if (pt_cmpR op_eq (pv 1) pe_int (nomark _)) (pss_one (ps_ret (pv 3))) pss_nil)
      (pss_cons (ps_for PassesOwn.never rfl (pi_rangeTwo rfl T.z_range (pa_cons pe_int (pa_cons (pe_op op_sub (pe_callB call_len_seq rfl T.z_len bo_len (pa_cons (pv 0) pa_nil)) pe_int) (pa_cons pe_int pa_nil)))) (pg_name (i := 6) sc__law_ropes_by.nd rfl (Or.inl rfl))
      (pss_cons (ps_set (i := 7) sc__law_ropes_by.nd rfl (Or.inl rfl) (pe_op op_mod (pe_op op_add (pe_ix ix_list (pv 0) (pv 6) (fun _ _ => rfl)) (pv 6)) (pv 1)))
      (pss_cons (ps_set (i := 8) sc__law_ropes_by.nd rfl (Or.inl rfl) (pe_ix ix_list (pe_lst (pa_cons pe_int (pa_cons (pe_callB (call_max2 rfl) rfl T.z_max bo_max (pa_cons pe_int (pa_cons (pe_op op_sub (pv 1) pe_int) pa_nil))) pa_nil))) (pe_op op_mod (pe_op op_fdiv (pv 2) pe_int) pe_int) (fun _ _ => rfl)))
      (pss_cons (ps_set (i := 9) sc__law_ropes_by.nd rfl (Or.inl rfl) (pe_op op_mod (pe_op op_add (pe_op op_add (pv 7) pe_int) (pe_op op_mod (pe_op op_fdiv (pe_ix ix_list (pv 0) (pv 6) (fun _ _ => rfl)) pe_int) (pv 8))) (pv 1)))
      (pss_cons (ps_cut (ps_if (pt_cmpR op_eq (pe_op op_mod (pe_ix ix_list (pv 0) (pv 6) (fun _ _ => rfl)) pe_int) pe_int (nomark _)) (pss_one (ps_set (i := 9) sc__law_ropes_by.nd rfl (Or.inl rfl) (pv 7))) pss_nil))
      (pss_cons (ps_set (i := 10) sc__law_ropes_by.nd rfl (Or.inl rfl) (pe_op op_mul (pe_op op_sub (pe_op op_mod (pe_ix ix_list (pv 0) (pe_op op_add (pv 6) pe_int) (fun _ _ => rfl)) (pv 4)) (pe_op op_fdiv (pv 4) pe_int)) (pv 5)))
      (pss_cons (ps_cut (ps_if (PW.pt (pw_and (pt_cmpR op_eq (pe_op op_mod (pe_ix ix_list (pv 0) (pe_op op_add (pv 6) pe_int) (fun _ _ => rfl)) pe_int) pe_int (nomark _)) (pw_and1 (pt_cmpR op_eq (pe_op op_mod (pe_op op_fdiv (pv 2) pe_int) pe_int) pe_int (nomark _))))) (pss_one (ps_set (i := 10) sc__law_ropes_by.nd rfl (Or.inl rfl) (pe_op op_mul (pe_op op_mod (pe_ix ix_list (pv 0) (pe_op op_add (pv 6) pe_int) (fun _ _ => rfl)) (pe_op op_pow pe_int pe_int)) (pe_ix ix_list (pe_lst (pa_cons pe_int (pa_cons (pe_un un_neg pe_int) pa_nil))) (pe_op op_mod (pe_ix ix_list (pv 0) (pv 6) (fun _ _ => rfl)) pe_int) (fun _ _ => rfl))))) pss_nil))
      (pss_cons (ps_set (i := 11) sc__law_ropes_by.nd rfl (Or.inl rfl) (pe_tup (pa_cons (pv 7) (pa_cons (pv 9) (pa_cons (pv 10) pa_nil)))))
      (pss_cons (ps_cut (ps_if (PW.pt (pw_and (pt_cmpR op_eq (pe_op op_mod (pe_op op_fdiv (pv 2) pe_int) pe_int) pe_int (nomark _)) (pw_and1 (pt_cmpR op_eq (pe_op op_mod (pv 6) pe_int) pe_int (nomark _))))) (pss_one (ps_set (i := 11) sc__law_ropes_by.nd rfl (Or.inl rfl) (pe_tup (pa_cons (pe_ix ix_tup (pe_ix ix_list (pv 3) (pe_un un_neg pe_int) (fun _ _ => rfl)) pe_int (fun _ _ => rfl)) (pa_cons (pe_ix ix_tup (pe_ix ix_list (pv 3) (pe_un un_neg pe_int) (fun _ _ => rfl)) pe_int (fun _ _ => rfl)) (pa_cons (pe_ix ix_tup (pe_ix ix_list (pv 3) (pe_un un_neg pe_int) (fun _ _ => rfl)) pe_int (fun _ _ => rfl)) pa_nil)))))) pss_nil))
      (pss_one (ps_expr (pe_bm PySem.F.plainAttrs_list PySem.F.slot_list_append PySem.F.type_list_append mt_append (pv 3) (pa_cons (pv 11) pa_nil)))))))))))))
      (pss_one (ps_ret (pv 3)))))))), ?_⟩
    rw [show start ["_law_cells", "_law_count", "_law_seed", "_law_ropes", "_law_wide", "_law_far", "_law_k", "_law_one", "_law_hop", "_law_other", "_law_cost", "_law_rope"] [.ref a, .int n, .int sd] = [some (.ref a), some (.int n), some (.int sd), none, none, none, none, none, none, none, none, none] from rfl]
    walk_at "rd"
    refine ⟨Nat.zero_le _, fun rp hrp => ?_⟩
    walk_at "rd"
    refine ⟨by decide, fun l1 hl1 => ?_⟩
    walk_at "rd"
    refine ⟨by decide, ?_⟩
    obtain ⟨wd, mw, ew⟩ := pick_at (ns := [3, 9, 40]) (i := sd % 3) (by omega) (by simp; omega)
    refine rd_list upd_same ew ?_
    walk_at "rd"
    have hw : 0 < wd ∧ wd ≤ 40 := by simp at mw; omega
    refine ⟨⟨by decide, by decide, by decide⟩, by decide, ⟨by decide, by decide, by decide⟩, (show 3 ≤ sizeLine by decide), fun l2 hl2 => ?_⟩
    walk_at "rd"
    refine ⟨⟨by decide, by decide⟩, by decide, ?_⟩
    obtain ⟨fr, _, ef⟩ := pick_at (ns := [1, 1 + sd % 10 ^ (30 : Int).toNat, 10 ^ (20 : Int).toNat]) (i := sd / 3 % 3) (by omega) (by simp; omega)
    refine rd_list upd_same ef ?_
    walk_at "rd"
    have nrp : rp ≠ l1 := fun z => by rw [← z, upd_same] at hl1; cases hl1
    have nrq : rp ≠ l2 := fun z => by rw [← z, upd_ne nrp, upd_same] at hl2; cases hl2
    have s0 : Same H (upd (upd (upd H rp (.lst [])) l1 (.lst [V.int 3, V.int 9, V.int 40])) l2 (.lst [V.int 1, V.int (1 + sd % 10 ^ (30 : Int).toNat), V.int (10 ^ (20 : Int).toNat)])) :=
      ((Same.upd_new hrp).trans (Same.upd_new hl1)).trans (Same.upd_new hl2)
    refine ite2 (fun c => ?_) (fun c => ?_)
    · refine k rp [] _ s0 hrp (fun _ m => absurd m (by simp)) (Nat.zero_le _) (rep_lst.mpr ⟨rp, [], rfl, ?_, reps_nil.mpr rfl⟩)
      rw [upd_ne nrq, upd_ne nrp, upd_same]
    · have hn : 0 < (n : Int) := by simp at c; omega
      refine ⟨_, rfl, a, _, rfl, .inl (SqL.of (s0 _ _ ha)), _, _, rfl, rfl, _, rfl, ⟨by rw [List.length_map]; omega, by rw [List.length_map]; omega⟩, for_rangeC (lo := 0) (c := 2) (fun i σ H2 => ∃ x6 x7 x8 x9 x10 x11 rs xs, σ = [some (.ref a), some (.int n), some (.int sd), some (.ref rp), some (.int wd), some (.int fr), x6, x7, x8, x9, x10, x11] ∧
        Same H H2 ∧ rs.length = i ∧ RT.Okr n rs ∧ H2 rp = some (.lst xs) ∧ Reps H2 (rs.map ropeD) xs) ⟨none, none, none, none, none, none, [], [], rfl, s0, rfl, fun _ m => absurd m (by simp), ?_, reps_nil.mpr rfl⟩ ?_ ?_⟩
      · rw [upd_ne nrq, upd_ne nrp, upd_same]
      · rintro i σ H2 hi ⟨x6, x7, x8, x9, x10, x11, rs, xs, rfl, s2, hi2, hv, hr2, hxs⟩
        rw [List.length_map] at hi
        have hk1 : (0 : Int) + i * 2 < cs.length := by omega
        have hk2 : (0 : Int) + i * 2 + 1 < cs.length := by omega
        have hk0 : (0 : Int) ≤ 0 + i * 2 := by omega
        have i1 := cell_at (ns := cs) hk0 hk1
        have i2 := cell_at (ns := cs) (i := (0 : Int) + i * 2 + 1) (by omega) hk2
        generalize cs.getD ((0 : Int) + i * 2).toNat 0 = c0 at i1
        generalize cs.getD ((0 : Int) + i * 2 + 1).toNat 0 = c1 at i2
        have ha2 := s2 _ _ ha
        walk_at "rd"
        refine rd_list ha2 i1 ?_
        walk_at "rd"
        refine ⟨hn, ?_⟩
        refine ⟨1, (n : Int) - 1, rfl, (show 2 ≤ sizeLine by decide), fun l3 hl3 => ⟨⟨by decide, by decide⟩, by decide, ?_⟩⟩
        obtain ⟨hp, mh, eh⟩ := pick_at (ns := [4, if (n : Int) - 1 > 1 then (n : Int) - 1 else 1]) (i := sd / 27 % 2) (by omega) (by simp; omega)
        have hh : 0 < hp := by
          rcases List.mem_cons.mp mh with e | e
          · omega
          · rw [List.mem_singleton.mp e]
            split <;> omega
        refine rd_list upd_same eh ?_
        clear eh mh
        have s3 : Same H2 (upd H2 l3 (.lst [V.int 4, V.int (if (n : Int) - 1 > 1 then (n : Int) - 1 else 1)])) := Same.upd_new hl3
        generalize upd H2 l3 (.lst [V.int 4, V.int (if (n : Int) - 1 > 1 then (n : Int) - 1 else 1)]) = H3 at s3 ⊢
        refine rd_list (s3 _ _ ha2) i1 ?_
        walk_at "rd"
        have o1 : 0 ≤ (c0 + ((0 : Int) + i * 2)) % n := Int.emod_nonneg _ (by omega)
        have o2 : (c0 + ((0 : Int) + i * 2)) % n < n := Int.emod_lt_of_pos _ hn
        have o3 : 0 ≤ ((c0 + ((0 : Int) + i * 2)) % n + 1 + c0 / 7 % hp) % n := Int.emod_nonneg _ (by omega)
        have o4 : ((c0 + ((0 : Int) + i * 2)) % n + 1 + c0 / 7 % hp) % n < n := Int.emod_lt_of_pos _ hn
        refine ⟨⟨by decide, by decide⟩, hh, hn, ?_⟩
        generalize ((c0 + ((0 : Int) + i * 2)) % n + 1 + c0 / 7 % hp) % n = ot at o3 o4 ⊢
        generalize (c0 + ((0 : Int) + i * 2)) % n = one at o1 o2 ⊢
        -- if cells % 11 == 3: other = one
        refine ⟨fun σ' H' => H' = H3 ∧ ∃ ot : Int, 0 ≤ ot ∧ ot < n ∧ σ' = [some (.ref a), some (.int n), some (.int sd), some (.ref rp), some (.int wd), some (.int fr), some (.int ((0 : Int) + i * 2)), some (.int one), some (.int hp), some (.int ot), x10, x11], ?_, ?_⟩
        · walk_at "rd"
          refine rd_list (s3 _ _ ha2) i1 ?_
          walk_at "rd"
          refine ⟨by decide, ite2 (fun _ => ?_) (fun _ => ?_)⟩
          · exact ⟨trivial, one, o1, o2, rfl⟩
          · exact ⟨trivial, ot, o3, o4, rfl⟩
        clear o3 o4 ot
        rintro _ H3 ⟨rfl, ot, o3, o4, rfl⟩
        walk_at "rd"
        refine rd_list (s3 _ _ ha2) i2 ?_
        walk_at "rd"
        have q1 : 0 ≤ c1 % wd := Int.emod_nonneg _ (by omega)
        have q2 : c1 % wd < wd := Int.emod_lt_of_pos _ hw.1
        refine ⟨hw.1, ⟨by decide, by decide⟩, .inl ⟨by omega, by omega⟩, ?_⟩
        generalize (c1 % wd - wd / 3) * fr = co
        -- if cells % 7 == 5 and ..: another cost
        refine ⟨fun σ' H' => Same H3 H' ∧ ∃ co : Int, σ' = [some (.ref a), some (.int n), some (.int sd), some (.ref rp), some (.int wd), some (.int fr), some (.int ((0 : Int) + i * 2)), some (.int one), some (.int hp), some (.int ot), some (.int co), x11], ?_, ?_⟩
        · walk_at "rd"
          refine rd_list (s3 _ _ ha2) i2 ?_
          walk_at "rd"
          refine ⟨by decide, ite2 (fun _ => ?_) (fun _ => ?_)⟩
          · refine ⟨⟨by decide, by decide⟩, by decide, ite2 (fun _ => ?_) (fun _ => ?_)⟩
            · refine rd_list (s3 _ _ ha2) i2 ?_
              walk_at "rd"
              refine ⟨⟨by decide, by decide, by decide⟩, by decide, (show 2 ≤ sizeLine by decide), fun l4 hl4 => ?_⟩
              have s4 : Same H3 (upd H3 l4 (.lst [V.int 1, V.int (-1)])) := Same.upd_new hl4
              refine rd_list (s4 _ _ (s3 _ _ ha2)) i1 ?_
              walk_at "rd"
              obtain ⟨sg, ms, es⟩ := pick_at (ns := [1, -1]) (i := c0 % 2) (by omega) (by simp; omega)
              refine ⟨by decide, rd_list upd_same es ?_⟩
              walk_at "rd"
              refine ⟨.inr ?_, s4, _, rfl⟩
              simp at ms
              rcases ms with rfl | rfl <;> exact ⟨by decide, by decide⟩
            · exact ⟨Same.refl _, co, rfl⟩
          · exact ⟨Same.refl _, co, rfl⟩
        clear co
        rintro _ H4 ⟨s4, co, rfl⟩
        walk_at "rd"
        refine ⟨(show 3 ≤ sizeLine by decide), fun t ht => ?_⟩
        have s5 : Same H3 (upd H4 t (.tup [V.int one, V.int ot, V.int co])) := s4.trans (Same.upd_new ht)
        have ht5 : upd H4 t (.tup [V.int one, V.int ot, V.int co]) t = some (.tup [V.int one, V.int ot, V.int co]) := upd_same
        generalize upd H4 t (.tup [V.int one, V.int ot, V.int co]) = H5 at s5 ht5 ⊢
        -- if .. and ..: the rope ahead, turned
        refine ⟨fun σ' H' => Same H3 H' ∧ ∃ (q : Addr) (r : RT.Rope), ((0 ≤ r.1 ∧ r.1 < n) ∧ 0 ≤ r.2.1 ∧ r.2.1 < n) ∧ H' q = some (.tup [.int r.1, .int r.2.1, .int r.2.2]) ∧ σ' = [some (.ref a), some (.int n), some (.int sd), some (.ref rp), some (.int wd), some (.int fr), some (.int ((0 : Int) + i * 2)), some (.int one), some (.int hp), some (.int ot), some (.int co), some (.ref q)], ?_, ?_⟩
        · walk_at "rd"
          refine ⟨⟨by decide, by decide⟩, by decide, ite2 (fun _ => ?_) (fun _ => ?_)⟩
          · refine ⟨by decide, ite2 (fun c => ?_) (fun _ => ?_)⟩
            · have c := of_decide_eq_true c
              obtain ⟨q, r, mr, e1, e2⟩ := ropes_last hxs (by omega)
              have e2 := s5 _ _ (s3 _ _ e2)
              have hr5 := s5 _ _ (s3 _ _ hr2)
              refine rd_list hr5 e1 (rd_tup e2 rfl ?_)
              refine rd_list hr5 e1 (rd_tup e2 rfl ?_)
              refine rd_list hr5 e1 (rd_tup e2 rfl ?_)
              refine ⟨(show 3 ≤ sizeLine by decide), fun u hu => ?_⟩
              obtain ⟨v1, v2⟩ := hv r mr
              exact ⟨s5.trans (Same.upd_new hu), u, (r.2.1, r.1, r.2.2), ⟨v2, v1⟩, upd_same, rfl⟩
            · exact ⟨s5, t, (one, ot, co), ⟨⟨o1, o2⟩, o3, o4⟩, ht5, rfl⟩
          · exact ⟨s5, t, (one, ot, co), ⟨⟨o1, o2⟩, o3, o4⟩, ht5, rfl⟩
        rintro _ H6 ⟨s6, q, r, vr, hq, rfl⟩
        walk_at "rd"
        have hr6 := s6 _ _ (s3 _ _ hr2)
        have s7 : Same H H6 := s2.trans (s3.trans s6)
        have lx : xs.length = rs.length := by have := hxs.length; rw [List.length_map] at this; exact this.symm
        refine ⟨.inl ⟨rfl, _, SqL.of hr6⟩, rp, xs, _, rfl, rfl, hr6, ?_, ?_⟩
        · have := big1000
          omega
        · have nq : q ≠ rp := ne_of hq hr6 (by intro z; cases z)
          refine ⟨_, _, _, _, _, _, rs ++ [r], xs ++ [.ref q], rfl, s7.upd_late hrp, by simp [hi2], fun z mz => ?_, upd_same, ?_⟩
          · rcases List.mem_append.mp mz with m | m
            · exact hv z m
            · rw [List.mem_singleton.mp m]; exact vr
          · rw [List.map_append]
            refine (ropes_upd hr6 (hxs.mono (s3.trans s6))).append ?_
            exact reps_cc.mpr ⟨rep_rope.mpr ⟨q, rfl, by rw [upd_ne nq]; exact hq⟩, reps_nil.mpr rfl⟩
      · rintro σ H2 ⟨x6, x7, x8, x9, x10, x11, rs, xs, rfl, s2, hi2, hv, hr2, hxs⟩
        walk_at "rd"
        rw [List.length_map] at hi2
        exact k rp rs H2 s2 hrp hv (by omega) (rep_lst.mpr ⟨rp, xs, rfl, hr2, hxs⟩)

end
end My
namespace My
open PySem L2
section
variable {P : Program} {w : World} {K : PySem.W.Frag} {mg : Str → Option Value} {base : Heap} {A : Ad}
def sp__law_whole_row : Sp := fun vs H Q _ => ∃ (a : Addr) (ns : List Int), vs = [.ref a] ∧ H a = some (.lst (ns.map V.int)) ∧ Q (.bl true) H
theorem ok__law_whole_row (T : Txt K mg A) : FnOk P w K mg base CX0 2 A.a__law_whole_row A.d__law_whole_row ["_law_found"] sp__law_whole_row := by
  have G__law_whole : FnOk P w K mg base CX0 _ _ _ _ _ := ok__law_whole T
  refine T.f__law_whole_row.ok sc__law_whole_row (fun vs H Q E h => ?_) (fun cdv A' outer s H vs Q E hr h => ?_)
  · obtain ⟨a, ns, rfl, _⟩ := h
    rfl
  · obtain ⟨a, ns, rfl, ha, k⟩ := h
    refine ⟨_, (pss_cons (ps_if (pt_not (pt_val (pe_callB call_isinst rfl T.z_isinstance bo_isinstance (pa_cons (pv 0) (pa_cons (pe_bltn (v := .ty "list") rfl T.z_list bo_list rfl) pa_nil))))) (pss_one (ps_ret pe_bl)) pss_nil)
      (pss_cons (ps_for PassesOwn.never rfl (pi_list (pv 0)) (pg_name (i := 1) sc__law_whole_row.nd rfl (Or.inl rfl))
      (pss_one (ps_if (pt_not (pt_val (pe_call G__law_whole (hr.mono (by decide)) rfl T.m__law_whole T.k__law_whole T.b__law_whole .nil pass0 (pa_cons (pv 1) pa_nil)))) (pss_one (ps_ret pe_bl)) pss_nil)))
      (pss_one (ps_ret pe_bl)))), ?_⟩
    rw [show start ["_law_found", "_law_one"] [.ref a] = [some (.ref a), none] from rfl]
    walk_at "rd"
    refine ⟨_, _, _, _, rfl, .lst ha, rfl, ?_⟩
    walk_at "rd"
    refine iteF ?_
    refine ⟨_, rfl, a, rfl, ⟨_, SqL.of ha⟩, for_list (K := K) (a := a) (xs := ns.map V.int) (fun i σ H2 => H2 = H ∧ ∃ v, σ = [some (.ref a), v]) ⟨rfl, none, rfl⟩ (fun i σ H2 _ ⟨e, _⟩ => by rw [e]; exact SqL.of ha) ?_ ?_⟩
    · rintro i x σ H2 hx ⟨rfl, v, rfl⟩
      obtain ⟨z, _, rfl⟩ := ints_got hx
      walk_at "rd"
      refine ⟨z, rfl, ?_⟩
      walk_at "rd"
      exact iteF ⟨trivial, _, rfl⟩
    · rintro σ H2 ⟨rfl, v, rfl⟩
      exact k

end
end My
namespace My
open PySem L2
section
variable {P : Program} {w : World} {K : PySem.W.Frag} {mg : Str → Option Value} {base : Heap} {A : Ad}
def sp__law_same_ropes : Sp := fun vs H Q _ => ∃ (a b : Addr) (rs : List RT.Rope), vs = [.ref a, .ref b] ∧ Rep H (ropesD rs) (.ref a) ∧ Rep H (ropesD rs) (.ref b) ∧ rs.length ≤ 1000 ∧ ∀ H', Same H H' → Q (.bl true) H'
theorem ok__law_same_ropes (T : Txt K mg A) : FnOk P w K mg base CX0 3 A.a__law_same_ropes A.d__law_same_ropes ["_law_found", "_law_ropes"] sp__law_same_ropes := by
  have G__law_whole_row : FnOk P w K mg base CX0 _ _ _ _ _ := ok__law_whole_row T
  refine T.f__law_same_ropes.ok sc__law_same_ropes (fun vs H Q E h => ?_) (fun cdv A' outer s H vs Q E hr h => ?_)
  · obtain ⟨a, b, rs, rfl, _⟩ := h
    rfl
  · obtain ⟨a, b, rs, rfl, hra, hrb, hm, k⟩ := h
    have hu64 := hr.units
    obtain ⟨a', xs, e, ha, hxs⟩ := rep_lst.mp hra
    cases e
    obtain ⟨b', ys, e, hb, hys⟩ := rep_lst.mp hrb
    cases e
    have lx : xs.length = rs.length := by have := hxs.length; rw [List.length_map] at this; exact this.symm
    have ly : ys.length = rs.length := by have := hys.length; rw [List.length_map] at this; exact this.symm
    refine ⟨_, (pss_cons (ps_if (PW.pt (pw_or (pt_not (pt_val (pe_callB call_isinst rfl T.z_isinstance bo_isinstance (pa_cons (pv 0) (pa_cons (pe_bltn (v := .ty "list") rfl T.z_list bo_list rfl) pa_nil))))) (pw_or1 (pt_cmpR op_ne (pe_callB call_len_seq rfl T.z_len bo_len (pa_cons (pv 0) pa_nil)) (pe_callB call_len_seq rfl T.z_len bo_len (pa_cons (pv 1) pa_nil)) (nomark _))))) (pss_one (ps_ret pe_bl)) pss_nil)
      (pss_cons (ps_for PassesOwn.never rfl (pi_range1 rfl T.z_range (pa_cons (pe_callB call_len_seq rfl T.z_len bo_len (pa_cons (pv 1) pa_nil)) pa_nil)) (pg_name (i := 2) sc__law_same_ropes.nd rfl (Or.inl rfl))
      (pss_cons (ps_if (PW.pt (pw_or (pt_not (pt_val (pe_callB call_isinst rfl T.z_isinstance bo_isinstance (pa_cons (pe_ix ix_list (pv 0) (pv 2) (fun _ _ => rfl)) (pa_cons (pe_bltn (v := .ty "tuple") rfl T.z_tuple bo_tuple rfl) pa_nil))))) (pw_or1 (pt_not (pt_val (pe_call G__law_whole_row (hr.mono (by decide)) rfl T.m__law_whole_row T.k__law_whole_row T.b__law_whole_row .nil pass0 (pa_cons (pe_callTy call_list_of rfl T.z_list bo_list (pa_cons (pe_ix ix_list (pv 0) (pv 2) (fun _ _ => rfl)) pa_nil)) pa_nil))))))) (pss_one (ps_ret pe_bl)) pss_nil)
      (pss_one (ps_if (pt_cmpR (op_neD hu64) (pe_ix ix_list (pv 0) (pv 2) (fun _ _ => rfl)) (pe_ix ix_list (pv 1) (pv 2) (fun _ _ => rfl)) (nomark _)) (pss_one (ps_ret pe_bl)) pss_nil))))
      (pss_one (ps_ret pe_bl)))), ?_⟩
    rw [show start ["_law_found", "_law_ropes", "_law_k"] [.ref a, .ref b] = [some (.ref a), some (.ref b), none] from rfl]
    walk_at "rd"
    refine ⟨_, _, _, _, rfl, .lst ha, rfl, ?_⟩
    walk_at "rd"
    refine iteF ?_
    refine ⟨a, _, rfl, .inl (SqL.of ha), b, _, rfl, .inl (SqL.of hb), ?_⟩
    walk_at "rd"
    rw [lx, ly]
    simp only [decide_true, Bool.not_true]
    refine iteF ?_
    refine ⟨_, rfl, b, _, rfl, .inl (SqL.of hb), (ys.length : Int), rfl, by omega, by omega, for_range (lo := 0) (n := ys.length) (fun i σ H2 => Same H H2 ∧ ∃ v, σ = [some (.ref a), some (.ref b), v]) ⟨Same.refl H, none, rfl⟩ ?_ ?_⟩
    · rintro i σ H2 hi ⟨s2, v, rfl⟩
      obtain ⟨p, hp1, hp2⟩ := ropes_at (hxs.mono s2) (k := (0 : Int) + i) (by omega) (by omega)
      obtain ⟨q, hq1, hq2⟩ := ropes_at (hys.mono s2) (k := (0 : Int) + i) (by omega) (by omega)
      walk_at "rd"
      refine rd_list (s2 _ _ ha) hp1 ?_
      walk_at "rd"
      refine ⟨_, _, _, _, rfl, .tup hp2, rfl, ?_⟩
      walk_at "rd"
      refine iteF ?_
      refine rd_list (s2 _ _ ha) hp1 ?_
      walk_at "rd"
      refine ⟨p, _, rfl, .inr (SqT.of hp2), fun l hl => ?_⟩
      walk_at "rd"
      have s3 := s2.trans (Same.upd_new (o := .lst [.int (rs.getD ((0 : Int) + i).toNat (0, 0, 0)).1, .int (rs.getD ((0 : Int) + i).toNat (0, 0, 0)).2.1, .int (rs.getD ((0 : Int) + i).toNat (0, 0, 0)).2.2]) hl)
      refine ⟨l, [_, _, _], rfl, upd_same, ?_⟩
      walk_at "rd"
      refine iteF ?_
      have np : p ≠ l := ne_of_none hp2 hl
      have nq : q ≠ l := ne_of_none hq2 hl
      refine rd_list (s3 _ _ ha) hp1 (rd_list (s3 _ _ hb) hq1 ?_)
      refine ⟨ropeD (rs.getD ((0 : Int) + i).toNat (0, 0, 0)), ropeD (rs.getD ((0 : Int) + i).toNat (0, 0, 0)), rep_rope.mpr ⟨p, rfl, by rw [upd_ne np]; exact hp2⟩, rep_rope.mpr ⟨q, rfl, by rw [upd_ne nq]; exact hq2⟩, sh_rope _, sh_rope _, ?_⟩
      rw [eqv_rope]
      walk_at "rd"
      simp only [decide_true, Bool.not_true]
      exact iteF ⟨s3, _, rfl⟩
    · rintro σ H2 ⟨s2, v, rfl⟩
      exact k H2 s2

end
end My
namespace My
open PySem L2
section
variable {P : Program} {w : World} {K : PySem.W.Frag} {mg : Str → Option Value} {base : Heap} {A : Ad}
def Right (n : Nat) (rs : List RT.Rope) (t x y : Int) : Prop := RT.Okr n rs ∧ (t = 8 → (0 ≤ x ∧ x < (n : Int)) ∧ (0 ≤ y ∧ y < (n : Int)))
def sp__law_asked (T1 T2 C1 C2 C3 : Addr) : Sp := fun vs H Q E => ∃ (n : Nat) (a : Addr) (rs : List RT.Rope) (t x y : Int), vs = [.int t, .int n, .ref a, .int x, .int y] ∧ Rep H (ropesD rs) (.ref a) ∧ n < 64 ∧ rs.length < 64 ∧ 0 ≤ t ∧ t ≤ 8 ∧ H T1 = some (.ctab q_from_cheapest) ∧ H T2 = some (.ctab q_second_tree) ∧
  (Right n rs t x y → ∀ H', Same H H' → Q .non H' ∧ E (.ref C2) none H' ∧ E (.ref C3) none H') ∧ (¬ Right n rs t x y → ∀ H', Same H H' → E (.ref C1) none H')
theorem ok__law_asked (T : Txt K mg A) (B : Bm mg base) : FnOk P w K mg base (CX1 P w) 6 A.a__law_asked A.d__law_asked ["_law_way", "_law_count", "_law_ropes", "_law_one", "_law_other"] (sp__law_asked A.p_from_cheapest A.p_second_tree A.a_NoPlace A.a_NoRope A.a_NoTree) := by
  have B_is_tree : FnOk P w K mg base (CX1 P w) _ _ _ _ _ := (ok_is_tree T).up.or (bad_is_tree T)
  have B_least_tree : FnOk P w K mg base (CX1 P w) _ _ _ _ _ := (ok_least_tree T B).up.or (bad_least_tree T)
  have B_dearest_tree : FnOk P w K mg base (CX1 P w) _ _ _ _ _ := (ok_dearest_tree T B).up.or (bad_dearest_tree T)
  have B_total : FnOk P w K mg base (CX1 P w) _ _ _ _ _ := (ok_total T).or (bad_total T)
  have B_why : FnOk P w K mg base (CX1 P w) _ _ _ _ _ := (ok_why T B).or (bad_why T)
  have B_second_tree : FnOk P w K mg base (CX1 P w) _ _ _ _ _ := (ok_second_tree T B).up.or (bad_second_tree T)
  have B_steps_to : FnOk P w K mg base (CX1 P w) _ _ _ _ _ := (ok_steps_to T).or (bad_steps_to T)
  have B_groups_below : FnOk P w K mg base (CX1 P w) _ _ _ _ _ := (ok_groups_below T).up.or (bad_groups_below T)
  have B_best_way : FnOk P w K mg base (CX1 P w) _ _ _ _ _ := (ok_best_way T B).up.or (bad_best_way T)
  refine T.f__law_asked.okX sc__law_asked (fun vs H Q E h => ?_) (fun cdv A' outer s H vs Q E hr h => ?_)
  · obtain ⟨n, a, rs, t, x, y, rfl, _⟩ := h
    rfl
  · obtain ⟨n, a, rs, t, x, y, rfl, hrep, hn, hl, t0, t8, hT1, hT2, k1, k2⟩ := h
    refine ⟨_, (pss_one (ps_if (pt_cmpR op_eq (pv 0) pe_int (nomark _)) (pss_one (ps_expr (pe_call B_is_tree (hr.mono (by decide)) rfl T.m_is_tree T.k_is_tree T.b_is_tree .nil (pass1 fun _ _ _ z => z) (pa_cons (pv 1) (pa_cons (pv 2) (pa_cons (pe_lst pa_nil) pa_nil)))))) (pss_one (ps_if (pt_cmpR op_eq (pv 0) pe_int (nomark _)) (pss_one (ps_expr (pe_call B_least_tree (hr.mono (by decide)) rfl T.m_least_tree T.k_least_tree T.b_least_tree .nil (pass1 fun _ _ _ z => z) (pa_cons (pv 1) (pa_cons (pv 2) pa_nil))))) (pss_one (ps_if (pt_cmpR op_eq (pv 0) pe_int (nomark _)) (pss_one (ps_expr (pe_call B_dearest_tree (hr.mono (by decide)) rfl T.m_dearest_tree T.k_dearest_tree T.b_dearest_tree .nil (pass1 fun _ _ _ z => z) (pa_cons (pv 1) (pa_cons (pv 2) pa_nil))))) (pss_one (ps_if (pt_cmpR op_eq (pv 0) pe_int (nomark _)) (pss_one (ps_expr (pe_call B_total (hr.mono (by decide)) rfl T.m_total T.k_total T.b_total .nil (pass1 fun _ _ _ z => z) (pa_cons (pv 1) (pa_cons (pv 2) (pa_cons (pe_lst (pa_cons (pe_un un_neg pe_int) pa_nil)) pa_nil)))))) (pss_one (ps_if (pt_cmpR op_eq (pv 0) pe_int (nomark _)) (pss_one (ps_expr (pe_call B_why (hr.mono (by decide)) rfl T.m_why T.k_why T.b_why .nil (pass1 fun _ _ _ z => z) (pa_cons (pv 1) (pa_cons (pv 2) (pa_cons (pe_un un_neg pe_int) pa_nil)))))) (pss_one (ps_if (pt_cmpR op_eq (pv 0) pe_int (nomark _)) (pss_one (ps_expr (pe_call B_second_tree (hr.mono (by decide)) rfl T.m_second_tree T.k_second_tree T.b_second_tree .nil (pass1 fun _ _ _ z => z) (pa_cons (pv 1) (pa_cons (pv 2) pa_nil))))) (pss_one (ps_if (pt_cmpR op_eq (pv 0) pe_int (nomark _)) (pss_one (ps_expr (pe_call B_steps_to (hr.mono (by decide)) rfl T.m_steps_to T.k_steps_to T.b_steps_to .nil (pass1 fun _ _ _ z => z) (pa_cons (pv 1) (pa_cons (pv 2) (pa_cons (pe_lst (pa_cons (pe_un un_neg pe_int) pa_nil)) (pa_cons (pe_lst (pa_cons (pe_un un_neg pe_int) pa_nil)) pa_nil))))))) (pss_one (ps_if (pt_cmpR op_eq (pv 0) pe_int (nomark _)) (pss_one (ps_expr (pe_call B_groups_below (hr.mono (by decide)) rfl T.m_groups_below T.k_groups_below T.b_groups_below .nil (pass1 fun _ _ _ z => z) (pa_cons (pv 1) (pa_cons (pv 2) (pa_cons pe_int pa_nil)))))) (pss_one (ps_expr (pe_call B_best_way (hr.mono (by decide)) rfl T.m_best_way T.k_best_way T.b_best_way .nil (pass1 fun _ _ _ z => z) (pa_cons (pv 1) (pa_cons (pv 2) (pa_cons (pv 3) (pa_cons (pv 4) pa_nil))))))))))))))))))))))), ?_⟩
    rw [show start ["_law_way", "_law_count", "_law_ropes", "_law_one", "_law_other"] [.int t, .int n, .ref a, .int x, .int y] = [some (.int t), some (.int n), some (.ref a), some (.int x), some (.int y)] from rfl]
    have rr : t ≠ 8 → RT.Okr n rs → Right n rs t x y := fun c o => ⟨o, fun e => absurd e c⟩
    have nr : ¬ RT.Okr n rs → ¬ Right n rs t x y := fun o z => o z.1
    walk_at "rd"
    refine ite2 (fun c => ?_) (fun c0 => ?_)
    · have c : t = 0 := by simpa using c
      walk_at "rd"
      refine ⟨Nat.zero_le _, fun le nle => ?_⟩
      have s1 := Same.upd_new (o := .lst []) nle
      by_cases o : RT.Okr n rs
      · exact .inl ⟨n, a, le, rs, [], rfl, hrep.mono s1, upd_same, o, by omega, Nat.zero_le _, by omega, fun H' s => (k1 (rr (by omega) o) H' (s1.trans s)).1⟩
      · exact .inr ⟨n, a, rs, _, rfl, hrep.mono s1, o, by omega, fun H' s => k2 (nr o) H' (s1.trans s)⟩
    have c0 : t ≠ 0 := by simpa using c0
    walk_at "rd"
    refine ite2 (fun c => ?_) (fun c1 => ?_)
    · have c : t = 1 := by simpa using c
      walk_at "rd"
      by_cases o : RT.Okr n rs
      · exact .inl ⟨n, a, rs, rfl, hrep, o, by omega, hl, hT1, fun D H' ns s _ _ _ => (k1 (rr (by omega) o) H' s).1⟩
      · exact .inr ⟨n, a, rs, rfl, hrep, o, by omega, fun H' s => k2 (nr o) H' s⟩
    have c1 : t ≠ 1 := by simpa using c1
    walk_at "rd"
    refine ite2 (fun c => ?_) (fun c2 => ?_)
    · have c : t = 2 := by simpa using c
      walk_at "rd"
      by_cases o : RT.Okr n rs
      · exact .inl ⟨n, a, rs, rfl, hrep, o, by omega, hl, hT1, fun D H' ns s _ _ _ => (k1 (rr (by omega) o) H' s).1⟩
      · exact .inr ⟨n, a, rs, rfl, hrep, o, by omega, fun H' s => k2 (nr o) H' s⟩
    have c2 : t ≠ 2 := by simpa using c2
    walk_at "rd"
    refine ite2 (fun c => ?_) (fun c3 => ?_)
    · have c : t = 3 := by simpa using c
      walk_at "rd"
      refine ⟨show 1 ≤ sizeLine by decide, fun le nle => ?_⟩
      have s1 := Same.upd_new (o := .lst [.int (-1)]) nle
      by_cases o : RT.Okr n rs
      · refine .inl ⟨n, a, le, rs, [-1], rfl, hrep.mono s1, upd_same, o, by omega, by omega, by decide, fun H' s => ?_⟩
        have kk := k1 (rr (by omega) o) H' (s1.trans s)
        exact ite2 (fun _ => kk.1) (fun _ => kk.2.2)
      · exact .inr ⟨n, a, rs, _, rfl, hrep.mono s1, o, by omega, fun H' s => k2 (nr o) H' (s1.trans s)⟩
    have c3 : t ≠ 3 := by simpa using c3
    walk_at "rd"
    refine ite2 (fun c => ?_) (fun c4 => ?_)
    · have c : t = 4 := by simpa using c
      walk_at "rd"
      by_cases o : RT.Okr n rs
      · refine .inl ⟨n, a, rs, -1, rfl, hrep, o, hn, hl, hT1, fun _ H' s => (k1 (rr (by omega) o) H' s).2.1, fun z => absurd z (by omega)⟩
      · exact .inr ⟨n, a, rs, _, rfl, hrep, o, by omega, fun H' s => k2 (nr o) H' s⟩
    have c4 : t ≠ 4 := by simpa using c4
    walk_at "rd"
    refine ite2 (fun c => ?_) (fun c5 => ?_)
    · have c : t = 5 := by simpa using c
      walk_at "rd"
      by_cases o : RT.Okr n rs
      · exact .inl ⟨n, a, rs, rfl, hrep, o, by omega, hl, hT1, hT2, fun v H' ns s _ _ _ => (k1 (rr (by omega) o) H' s).1⟩
      · exact .inr ⟨n, a, rs, rfl, hrep, o, by omega, fun H' s => k2 (nr o) H' s⟩
    have c5 : t ≠ 5 := by simpa using c5
    walk_at "rd"
    refine ite2 (fun c => ?_) (fun c6 => ?_)
    · have c : t = 6 := by simpa using c
      walk_at "rd"
      refine ⟨show 1 ≤ sizeLine by decide, fun le nle => ?_⟩
      have s1 := Same.upd_new (o := .lst [.int (-1)]) nle
      have g1 : upd H le (.lst [.int (-1)]) le = some (.lst (([-1] : List Int).map V.int)) := upd_same
      generalize upd H le (.lst [.int (-1)]) = H1 at s1 g1 ⊢
      walk_at "rd"
      refine ⟨show 1 ≤ sizeLine by decide, fun lf nlf => ?_⟩
      have s2 := Same.upd_new (o := .lst [.int (-1)]) nlf
      have g2 : upd H1 lf (.lst [.int (-1)]) lf = some (.lst (([-1] : List Int).map V.int)) := upd_same
      generalize upd H1 lf (.lst [.int (-1)]) = H2 at s2 g2 ⊢
      by_cases o : RT.Okr n rs
      · have kk := fun H' s => k1 (rr (by omega) o) H' ((s1.trans s2).trans s)
        exact .inl ⟨n, a, le, lf, rs, [-1], [-1], rfl, hrep.mono (s1.trans s2), s2 _ _ g1, g2, o, by omega, by omega, by decide, by decide, fun _ H' s => (kk H' s).2.2, fun _ _ D H' st s _ _ _ => (kk H' s).1⟩
      · exact .inr ⟨n, a, rs, _, _, rfl, hrep.mono (s1.trans s2), o, by omega, fun H' s => k2 (nr o) H' ((s1.trans s2).trans s)⟩
    have c6 : t ≠ 6 := by simpa using c6
    walk_at "rd"
    refine ite2 (fun c => ?_) (fun c7 => ?_)
    · have c : t = 7 := by simpa using c
      walk_at "rd"
      by_cases o : RT.Okr n rs
      · exact .inl ⟨n, a, rs, 0, rfl, hrep, o, hn, hl, fun D H' s _ _ => (k1 (rr (by omega) o) H' s).1⟩
      · exact .inr ⟨n, a, rs, _, rfl, hrep, o, by omega, fun H' s => k2 (nr o) H' s⟩
    have c7 : t ≠ 7 := by simpa using c7
    have c : t = 8 := by omega
    walk_at "rd"
    by_cases o : RT.Okr n rs ∧ (0 ≤ x ∧ x < (n : Int)) ∧ (0 ≤ y ∧ y < (n : Int))
    · exact .inl ⟨n, a, rs, x, y, rfl, hrep, o.1, hn, hl, o.2.1, o.2.2, hT1, fun p H' s _ => (k1 ⟨o.1, fun _ => o.2⟩ H' s).1⟩
    · exact .inr ⟨n, a, rs, x, y, rfl, hrep, o, by omega, fun H' s => k2 (fun z => o ⟨z.1, z.2 c⟩) H' s⟩

end
end My
namespace My
open PySem L2
section
variable {P : Program} {w : World} {K : PySem.W.Frag} {mg : Str → Option Value} {base : Heap} {A : Ad}
def sp__law_refuses (T1 T2 : Addr) : Sp := fun vs H Q _ => ∃ (n : Nat) (a : Addr) (rs : List RT.Rope) (t x y : Int), vs = [.int t, .int n, .ref a, .int x, .int y] ∧ Rep H (ropesD rs) (.ref a) ∧ n < 64 ∧ rs.length < 64 ∧ 0 ≤ t ∧ t ≤ 8 ∧ H T1 = some (.ctab q_from_cheapest) ∧ H T2 = some (.ctab q_second_tree) ∧
  ∀ (b : Bool) H', Same H H' → (b = true ↔ ¬ Right n rs t x y) → Q (.bl b) H'
theorem ok__law_refuses (T : Txt K mg A) (B : Bm mg base) : FnOk P w K mg base CX0 7 A.a__law_refuses A.d__law_refuses ["_law_way", "_law_count", "_law_ropes", "_law_one", "_law_other"] (sp__law_refuses A.p_from_cheapest A.p_second_tree) := by
  have G__law_asked : FnOk P w K mg base (CX1 P w) _ _ _ _ _ := ok__law_asked T B
  refine T.f__law_refuses.ok sc__law_refuses (fun vs H Q E h => ?_) (fun cdv A' outer s H vs Q E hr h => ?_)
  · obtain ⟨n, a, rs, t, x, y, rfl, _⟩ := h
    rfl
  · obtain ⟨n, a, rs, t, x, y, rfl, hrep, hn, hl, t0, t8, hT1, hT2, k⟩ := h
    refine ⟨_, (pss_cons (ps_tryE (i := 5) G__law_asked (hr.mono (by decide)) rfl T.m__law_asked T.k__law_asked T.b__law_asked .nil (pa_cons (pv 0) (pa_cons (pv 1) (pa_cons (pv 2) (pa_cons (pv 3) (pa_cons (pv 4) pa_nil))))) rfl T.m_RopeError sc__law_refuses.nd rfl rfl (fun _ => (pss_cons (ps_if (pt_val (pe_callB callx_exc rfl T.z_isinstance bo_isinstance (pa_cons (pv 5) (pa_cons (pe_glob (v := .ref A.a_NoTree) rfl T.m_NoTree rfl) pa_nil)))) (pss_one (ps_ret pe_bl)) pss_nil)
      (pss_one (ps_ret (pe_and (pe_callB callx_exc rfl T.z_isinstance bo_isinstance (pa_cons (pv 5) (pa_cons (pe_glob (v := .ref A.a_NoPlace) rfl T.m_NoPlace rfl) pa_nil))) (pe_one (pe_callB callx_exc rfl T.z_isinstance bo_isinstance (pa_cons (pv 5) (pa_cons (pe_bltn (v := .ty "ValueError") rfl T.z_ValueError bo_ValueError rfl) pa_nil))))))))))
      (pss_one (ps_ret pe_bl))), ?_⟩
    rw [show start ["_law_way", "_law_count", "_law_ropes", "_law_one", "_law_other", "e"] [.int t, .int n, .ref a, .int x, .int y] = [some (.int t), some (.int n), some (.ref a), some (.int x), some (.int y), none] from rfl]
    walk_at "rd"
    refine ⟨n, a, rs, t, x, y, rfl, hrep, hn, hl, t0, t8, hT1, hT2, fun R H1 s1 => ⟨?_, ?_, ?_⟩, fun R H1 s1 => ?_⟩
    · walk_at "rd"
      exact k _ _ s1 ⟨fun z => Bool.noConfusion z, fun z => absurd R z⟩
    · refine ⟨_, rfl, T.y_NoRope_RopeError, fun ea hea => ?_⟩
      walk_at "rd"
      refine ⟨ea, A.a_NoRope, _, _, _, rfl, .inl ⟨_, rfl, rfl⟩, T.i_NoRope_NoTree, fun _ => T.n_NoRope, upd_same, ?_⟩
      walk_at "rd"
      refine iteF ?_
      walk_at "rd"
      refine ⟨ea, A.a_NoRope, _, _, _, rfl, .inl ⟨_, rfl, rfl⟩, T.i_NoRope_NoPlace, fun _ => T.n_NoRope, upd_same, ?_⟩
      walk_at "rd"
      exact k _ _ (s1.trans (Same.upd_new hea)) ⟨fun z => Bool.noConfusion z, fun z => absurd R z⟩
    · refine ⟨_, rfl, T.y_NoTree_RopeError, fun ea hea => ?_⟩
      walk_at "rd"
      refine ⟨ea, A.a_NoTree, _, _, _, rfl, .inl ⟨_, rfl, rfl⟩, T.i_NoTree_NoTree, (fun z => nomatch z), upd_same, ?_⟩
      walk_at "rd"
      exact k _ _ (s1.trans (Same.upd_new hea)) ⟨fun z => Bool.noConfusion z, fun z => absurd R z⟩
    · refine ⟨_, rfl, T.y_NoPlace_RopeError, fun ea hea => ?_⟩
      walk_at "rd"
      refine ⟨ea, A.a_NoPlace, _, _, _, rfl, .inl ⟨_, rfl, rfl⟩, T.i_NoPlace_NoTree, fun _ => T.n_NoPlace, upd_same, ?_⟩
      walk_at "rd"
      refine iteF ?_
      walk_at "rd"
      refine ⟨ea, A.a_NoPlace, _, _, _, rfl, .inl ⟨_, rfl, rfl⟩, T.i_NoPlace_NoPlace, (fun z => nomatch z), upd_same, ?_⟩
      walk_at "rd"
      refine ⟨ea, A.a_NoPlace, _, _, _, rfl, .inr ⟨_, rfl, rfl⟩, T.i_NoPlace_ValueError, (fun z => nomatch z), upd_same, ?_⟩
      exact k _ _ (s1.trans (Same.upd_new hea)) ⟨fun _ => R, fun _ => rfl⟩

end
end My
namespace My
open PySem L2
section
variable {P : Program} {w : World} {K : PySem.W.Frag} {mg : Str → Option Value} {base : Heap} {A : Ad}
theorem cut_short (ns : List Int) (lo : Option Int) (k : Nat) : (cutV (ns.map V.int) lo (some (k : Int))).length ≤ k := by
  unfold cutV
  rw [List.length_take, HT.sIx_nat]
  omega
theorem reps_take {H : Hp} : ∀ (k : Nat) {ds : List PyData} {xs : List V}, Reps H ds xs → Reps H (ds.take k) (xs.take k)
  | 0, _, _, _ => reps_nil.mpr rfl
  | k + 1, [], _, h => by rw [reps_nil.mp h]; exact reps_nil.mpr rfl
  | k + 1, d :: ds, _, h => by
    obtain ⟨x, r, rfl, h1, h2⟩ := reps_cons.mp h
    exact reps_cc.mpr ⟨h1, reps_take k h2⟩
theorem reps_drop {H : Hp} : ∀ (k : Nat) {ds : List PyData} {xs : List V}, Reps H ds xs → Reps H (ds.drop k) (xs.drop k)
  | 0, _, _, h => h
  | k + 1, [], _, h => by rw [reps_nil.mp h]; exact reps_nil.mpr rfl
  | k + 1, d :: ds, _, h => by
    obtain ⟨x, r, rfl, h1, h2⟩ := reps_cons.mp h
    exact reps_drop k h2
theorem reps_ins {H : Hp} {rs : List RT.Rope} {xs : List V} {r : RT.Rope} {p : Addr} (k : Nat) (h : Reps H (rs.map ropeD) xs) (hp : H p = some (.tup [.int r.1, .int r.2.1, .int r.2.2])) : Reps H ((rs.take k ++ r :: rs.drop k).map ropeD) (insV xs k (.ref p)) := by
  unfold insV
  rw [List.map_append, List.map_cons, List.map_take, List.map_drop]
  exact (reps_take k h).append (reps_cc.mpr ⟨rep_rope.mpr ⟨p, rfl, hp⟩, reps_drop k h⟩)
def sp_law (T1 T2 : Addr) (K : PySem.W.Frag) : Sp := fun vs H Q _ => ∃ (a : Addr) (ns : List Int), vs = [.ref a] ∧ SqL K H a (ns.map V.int) ∧ ns.length ≤ 63 ∧ H T1 = some (.ctab q_from_cheapest) ∧ H T2 = some (.ctab q_second_tree) ∧ ∀ H', Same H H' → Q (.bl true) H'
theorem ok_law (T : Txt K mg A) (B : Bm mg base) : FnOk P w K mg base CX0 8 A.a_law A.d_law ["_law_script"] (sp_law A.p_from_cheapest A.p_second_tree K) := by
  have G__law_at : FnOk P w K mg base CX0 _ _ _ _ _ := ok__law_at T
  have G__law_upto : FnOk P w K mg base CX0 _ _ _ _ _ := ok__law_upto T
  have G__law_ropes_by : FnOk P w K mg base CX0 _ _ _ _ _ := ok__law_ropes_by T
  have G__law_same_ropes : FnOk P w K mg base CX0 _ _ _ _ _ := ok__law_same_ropes T
  have G__law_refuses : FnOk P w K mg base CX0 _ _ _ _ _ := ok__law_refuses T B
  refine T.f_law.ok sc_law (fun vs H Q E h => ?_) (fun cdv A' outer s H vs Q E hr h => ?_)
  · obtain ⟨a, ns, rfl, _⟩ := h
    rfl
  · obtain ⟨a, ns, rfl, hS, hl, hT1, hT2, k⟩ := h
    have hu64 := hr.units
    have big := big1000
    refine ⟨_, (pss_cons (ps_set (i := 0) sc_law.nd rfl (Or.inl rfl) (pe_slice sl_list (pv 0) po_none (po_some pe_int)))
      (pss_cons (ps_set (i := 1) sc_law.nd rfl (Or.inl rfl) (pe_op op_add pe_int (pe_op op_mod (pe_call G__law_at (hr.mono (by decide)) rfl T.m__law_at T.k__law_at T.b__law_at .nil pass0 (pa_cons (pv 0) (pa_cons pe_int pa_nil))) (pe_call G__law_upto (hr.mono (by decide)) rfl T.m__law_upto T.k__law_upto T.b__law_upto .nil pass0 (pa_cons (pv 0) (pa_cons pe_int (pa_cons pe_int pa_nil)))))))
      (pss_cons (ps_set (i := 2) sc_law.nd rfl (Or.inl rfl) (pe_call G__law_ropes_by (hr.mono (by decide)) rfl T.m__law_ropes_by T.k__law_ropes_by T.b__law_ropes_by .nil pass0 (pa_cons (pe_slice sl_list (pv 0) (po_some pe_int) (po_some (pe_call G__law_upto (hr.mono (by decide)) rfl T.m__law_upto T.k__law_upto T.b__law_upto .nil pass0 (pa_cons (pv 0) (pa_cons pe_int (pa_cons pe_int pa_nil)))))) (pa_cons (pv 1) (pa_cons pe_int pa_nil)))))
      (pss_cons (ps_set (i := 3) sc_law.nd rfl (Or.inl rfl) (pe_op op_mod (pe_call G__law_at (hr.mono (by decide)) rfl T.m__law_at T.k__law_at T.b__law_at .nil pass0 (pa_cons (pv 0) (pa_cons pe_int pa_nil))) pe_int))
      (pss_cons (ps_cut (ps_set (i := 4) sc_law.nd rfl (Or.inl rfl) (pe_ix ix_list (pe_lst (pa_cons (pe_un un_neg pe_int) (pa_cons (pv 1) (pa_cons (pe_op op_pow pe_int pe_int) (pa_cons (pe_un un_neg pe_int) (pa_cons (pe_op op_sub pe_int (pv 1)) (pa_cons (pe_un un_neg (pe_op op_pow pe_int pe_int)) pa_nil))))))) (pe_op op_mod (pe_call G__law_at (hr.mono (by decide)) rfl T.m__law_at T.k__law_at T.b__law_at .nil pass0 (pa_cons (pv 0) (pa_cons pe_int pa_nil))) pe_int) (fun _ _ => rfl))))
      (pss_cons (ps_set (i := 5) sc_law.nd rfl (Or.inl rfl) (pe_op op_mod (pe_call G__law_at (hr.mono (by decide)) rfl T.m__law_at T.k__law_at T.b__law_at .nil pass0 (pa_cons (pv 0) (pa_cons pe_int pa_nil))) (pv 1)))
      (pss_cons (ps_set (i := 6) sc_law.nd rfl (Or.inl rfl) (pe_op op_mod (pe_call G__law_at (hr.mono (by decide)) rfl T.m__law_at T.k__law_at T.b__law_at .nil pass0 (pa_cons (pv 0) (pa_cons pe_int pa_nil))) (pv 1)))
      (pss_cons (ps_cut (ps_if (PW.pt (pw_or (pt_cmpR op_eq (pv 3) pe_int (nomark _)) (pw_or1 (pt_cmpR op_eq (pv 3) pe_int (nomark _))))) (pss_cons (ps_set (i := 7) sc_law.nd rfl (Or.inl rfl) (pe_ix ix_list (pe_lst (pa_cons (pe_tup (pa_cons (pv 4) (pa_cons (pv 5) (pa_cons pe_int pa_nil)))) (pa_cons (pe_tup (pa_cons (pv 5) (pa_cons (pv 4) (pa_cons pe_int pa_nil)))) pa_nil))) (pe_op op_sub (pv 3) pe_int) (fun _ _ => rfl)))
      (pss_one (ps_expr (pe_bm PySem.F.plainAttrs_list PySem.F.slot_list_insert PySem.F.type_list_insert mt_insert (pv 2) (pa_cons (pe_op op_mod (pe_call G__law_at (hr.mono (by decide)) rfl T.m__law_at T.k__law_at T.b__law_at .nil pass0 (pa_cons (pv 0) (pa_cons pe_int pa_nil))) (pe_op op_add (pe_callB call_len_seq rfl T.z_len bo_len (pa_cons (pv 2) pa_nil)) pe_int)) (pa_cons (pv 7) pa_nil)))))) pss_nil))
      (pss_cons (ps_cut (ps_if (pt_cmpR op_eq (pv 3) pe_int (nomark _)) (pss_one (ps_set (i := 5) sc_law.nd rfl (Or.inl rfl) (pv 4))) pss_nil))
      (pss_cons (ps_cut (ps_if (pt_cmpR op_eq (pv 3) pe_int (nomark _)) (pss_one (ps_set (i := 6) sc_law.nd rfl (Or.inl rfl) (pv 4))) pss_nil))
      (pss_cons (ps_set (i := 8) sc_law.nd rfl (Or.inl rfl) (pe_callTy call_list_of rfl T.z_list bo_list (pa_cons (pv 2) pa_nil)))
      (pss_cons (ps_for PassesOwn.never rfl (pi_range1 rfl T.z_range (pa_cons pe_int pa_nil)) (pg_name (i := 9) sc_law.nd rfl (Or.inl rfl))
      (pss_cons (ps_cut (ps_set (i := 10) sc_law.nd rfl (Or.inl rfl) (pe_or (pe_cmpR op_eq (pv 3) pe_int (nomark _)) (pe_or (pe_cmpR op_eq (pv 3) pe_int (nomark _)) (pe_one (pe_and (pe_cmpR op_eq (pv 9) pe_int (nomark _)) (pe_one (pe_or (pe_cmpR op_eq (pv 3) pe_int (nomark _)) (pe_one (pe_cmpR op_eq (pv 3) pe_int (nomark _)))))))))))
      (pss_one (ps_if (pt_cmpR op_ne (pe_call G__law_refuses (hr.mono (by decide)) rfl T.m__law_refuses T.k__law_refuses T.b__law_refuses .nil pass0 (pa_cons (pv 9) (pa_cons (pv 1) (pa_cons (pv 8) (pa_cons (pv 5) (pa_cons (pv 6) pa_nil)))))) (pv 10) (nomark _)) (pss_one (ps_ret pe_bl)) pss_nil))))
      (pss_one (ps_ret (pe_call G__law_same_ropes (hr.mono (by decide)) rfl T.m__law_same_ropes T.k__law_same_ropes T.b__law_same_ropes .nil pass0 (pa_cons (pv 8) (pa_cons (pv 2) pa_nil))))))))))))))))), ?_⟩
    rw [show start ["_law_script", "_law_count", "_law_ropes", "_law_way", "_law_strange", "_law_one", "_law_other", "_law_rope", "_law_handed", "_law_turn", "_law_due"] [.ref a] = [some (.ref a), none, none, none, none, none, none, none, none, none, none] from rfl]
    walk_at "rd"
    refine ⟨a, _, rfl, hS, fun p0 n0 => ?_⟩
    obtain ⟨ms, em, lm, _⟩ := cut_ints ns none (some 1000)
    rw [em]
    have s0 : Same H (upd H p0 (.lst (ms.map V.int))) := Same.upd_new n0
    have h0 : upd H p0 (.lst (ms.map V.int)) p0 = some (.lst (ms.map V.int)) := upd_same
    generalize upd H p0 (.lst (ms.map V.int)) = H0 at s0 h0 ⊢
    walk_at "rd"
    refine ⟨p0, ms, 0, rfl, h0, by omega, ?_⟩
    walk_at "rd"
    refine ⟨p0, _, 6, 60, rfl, h0, by rw [List.length_map]; omega, ?_⟩
    walk_at "rd"
    refine ⟨by decide, ?_⟩
    obtain ⟨n, en, hn1, hn⟩ : ∃ n : Nat, 1 + ms.getD (0 : Int).toNat 0 % 6 = (n : Int) ∧ 1 ≤ n ∧ n ≤ 6 := ⟨(1 + ms.getD (0 : Int).toNat 0 % 6).toNat, by omega, by omega, by omega⟩
    rw [en]
    refine ⟨p0, _, 25, 1000, rfl, h0, by rw [List.length_map]; omega, ?_⟩
    refine ⟨_, rfl, p0, _, rfl, SqL.of h0, fun p1 n1 => ?_⟩
    obtain ⟨cs, ec, _, _⟩ := cut_ints ms (some 5) (some 25)
    have lc := cut_short ms (some 5) 25
    rw [show ((25 : Nat) : Int) = 25 from rfl, ec, List.length_map] at lc
    rw [ec]
    have s1 : Same H0 (upd H0 p1 (.lst (cs.map V.int))) := Same.upd_new n1
    have h1 : upd H0 p1 (.lst (cs.map V.int)) p1 = some (.lst (cs.map V.int)) := upd_same
    generalize upd H0 p1 (.lst (cs.map V.int)) = H1 at s1 h1 ⊢
    have s1' := s0.trans s1
    have h01 := s1 _ _ h0
    have hT1 := s1' _ _ hT1
    have hT2 := s1' _ _ hT2
    have k := fun H' s => k H' (s1'.trans s)
    clear s0 s1 s1' h0 n0 n1 hS
    walk_at "rd"
    refine ⟨n, p1, cs, _, rfl, h1, by omega, fun pr rs H2 s2 npr hv hlr hrep => ?_⟩
    have h02 := s2 _ _ h01
    obtain ⟨pr', xr, e, hpr, hxr⟩ := rep_lst.mp hrep
    cases e
    have lxr : xr.length = rs.length := by have := hxr.length; rw [List.length_map] at this; exact this.symm
    walk_at "rd"
    refine ⟨p0, ms, 1, rfl, h02, by omega, ?_⟩
    walk_at "rd"
    refine ⟨by decide, ?_⟩
    have hw : 0 ≤ ms.getD (1 : Int).toNat 0 % 6 ∧ ms.getD (1 : Int).toNat 0 % 6 < 6 := by omega
    generalize ms.getD (1 : Int).toNat 0 % 6 = way at hw ⊢
    refine ⟨fun σ' H' => ∃ st : Int, σ' = [some (.ref p0), some (.int n), some (.ref pr), some (.int way), some (.int st), none, none, none, none, none, none] ∧ Same H2 H' ∧ ¬ (0 ≤ st ∧ st < (n : Int)), ?_, ?_⟩
    · walk_at "rd"
      refine ⟨⟨by decide, by decide, by decide⟩, ⟨by decide, by decide, by decide⟩, show 6 ≤ sizeLine by decide, fun lp nlp => ?_⟩
      have s3 := Same.upd_new (o := .lst ([.int (-1), .int n, .int (10 ^ (20 : Int).toNat), .int (-2), .int (0 - (n : Int)), .int (-10 ^ (20 : Int).toNat)])) nlp
      refine ⟨p0, ms, 2, rfl, s3 _ _ h02, by omega, ?_⟩
      walk_at "rd"
      refine ⟨by decide, ?_⟩
      obtain ⟨z, mz, ez⟩ := pick_at (ns := [-1, (n : Int), 10 ^ (20 : Int).toNat, -2, 0 - (n : Int), -10 ^ (20 : Int).toNat]) (i := ms.getD (2 : Int).toNat 0 % 6) (by omega) (by simp; omega)
      refine rd_list upd_same ez ?_
      refine ⟨z, rfl, s3, ?_⟩
      have bigz : (100 : Int) < 10 ^ (20 : Int).toNat := by decide
      simp only [List.mem_cons, List.mem_nil_iff, or_false] at mz
      rcases mz with rfl | rfl | rfl | rfl | rfl | rfl <;> omega
    rintro σ' H3 ⟨st, rfl, s3, hst⟩
    have t3 := s2.trans s3
    have hpr3 := s3 _ _ hpr
    have hxr3 := hxr.mono s3
    walk_at "rd"
    refine ⟨p0, ms, 3, rfl, t3 _ _ h01, by omega, ?_⟩
    walk_at "rd"
    refine ⟨by omega, ?_⟩
    have ho : 0 ≤ ms.getD (3 : Int).toNat 0 % (n : Int) ∧ ms.getD (3 : Int).toNat 0 % (n : Int) < n := ⟨Int.emod_nonneg _ (by omega), Int.emod_lt_of_pos _ (by omega)⟩
    generalize ms.getD (3 : Int).toNat 0 % (n : Int) = one at ho ⊢
    refine ⟨p0, ms, 4, rfl, t3 _ _ h01, by omega, ?_⟩
    walk_at "rd"
    refine ⟨by omega, ?_⟩
    have ht : 0 ≤ ms.getD (4 : Int).toNat 0 % (n : Int) ∧ ms.getD (4 : Int).toNat 0 % (n : Int) < n := ⟨Int.emod_nonneg _ (by omega), Int.emod_lt_of_pos _ (by omega)⟩
    generalize ms.getD (4 : Int).toNat 0 % (n : Int) = other at ht ⊢
    refine ⟨fun σ' H' => ∃ (v : Option V) (rs' : List RT.Rope) (xr' : List V), σ' = [some (.ref p0), some (.int n), some (.ref pr), some (.int way), some (.int st), some (.int one), some (.int other), v, none, none, none] ∧ Same H1 H' ∧ H' pr = some (.lst xr') ∧ Reps H' (rs'.map ropeD) xr' ∧ rs'.length ≤ 26 ∧ ((way = 1 ∨ way = 2) → ¬ RT.Okr n rs') ∧ (¬ (way = 1 ∨ way = 2) → RT.Okr n rs'), ?_, ?_⟩
    · walk_at "rd"
      refine iteOr (fun c => ?_) (fun c => ?_)
      · have w12 : way = 1 ∨ way = 2 := by simpa using c
        walk_at "rd"
        refine ⟨show 3 ≤ sizeLine by decide, fun q1 nq1 => ?_⟩
        have sq1 := Same.upd_new (o := .tup [.int st, .int one, .int 3]) nq1
        have gq1 : upd H3 q1 (.tup [.int st, .int one, .int 3]) q1 = some (.tup [.int st, .int one, .int 3]) := upd_same
        generalize upd H3 q1 (.tup [.int st, .int one, .int 3]) = Ha at sq1 gq1 ⊢
        refine ⟨show 3 ≤ sizeLine by decide, fun q2 nq2 => ?_⟩
        have sq2 := Same.upd_new (o := .tup [.int one, .int st, .int 3]) nq2
        have gq2 : upd Ha q2 (.tup [.int one, .int st, .int 3]) q2 = some (.tup [.int one, .int st, .int 3]) := upd_same
        generalize upd Ha q2 (.tup [.int one, .int st, .int 3]) = Hb at sq2 gq2 ⊢
        refine ⟨show 2 ≤ sizeLine by decide, fun lq nlq => ?_⟩
        have sq3 := Same.upd_new (o := .lst [.ref q1, .ref q2]) nlq
        have gq3 : upd Hb lq (.lst [.ref q1, .ref q2]) lq = some (.lst [.ref q1, .ref q2]) := upd_same
        generalize upd Hb lq (.lst [.ref q1, .ref q2]) = Hc at sq3 gq3 ⊢
        obtain ⟨q, r, eq, hq, hrr⟩ : ∃ (q : Addr) (r : RT.Rope), atI [V.ref q1, V.ref q2] (way - 1) = some (.ref q) ∧ Hc q = some (.tup [.int r.1, .int r.2.1, .int r.2.2]) ∧ ¬ ((0 ≤ r.1 ∧ r.1 < (n : Int)) ∧ 0 ≤ r.2.1 ∧ r.2.1 < (n : Int)) := by
          rcases w12 with e | e
          · exact ⟨q1, (st, one, 3), by rw [e]; exact atI_int (by decide) rfl, (sq2.trans sq3) _ _ gq1, fun z => hst z.1⟩
          · exact ⟨q2, (one, st, 3), by rw [e]; exact atI_int (by decide) rfl, sq3 _ _ gq2, fun z => hst z.2⟩
        refine rd_list gq3 eq ?_
        have t4 := ((sq1.trans sq2).trans sq3)
        have tc := t3.trans t4
        have hprc := t4 _ _ hpr3
        have hxrc := hxr3.mono t4
        walk_at "rd"
        refine ⟨.inl ⟨rfl, _, SqL.of hprc⟩, p0, ms, 4, rfl, tc _ _ h01, by omega, ?_⟩
        refine ⟨pr, _, rfl, .inl (SqL.of hprc), ?_⟩
        walk_at "rd"
        refine ⟨by omega, ?_⟩
        have hk : 0 ≤ ms.getD (4 : Int).toNat 0 % ((xr.length : Int) + 1) ∧ ms.getD (4 : Int).toNat 0 % ((xr.length : Int) + 1) < (xr.length : Int) + 1 := ⟨Int.emod_nonneg _ (by omega), Int.emod_lt_of_pos _ (by omega)⟩
        generalize ms.getD (4 : Int).toNat 0 % ((xr.length : Int) + 1) = kk at hk ⊢
        refine ⟨pr, xr, kk, _, rfl, rfl, hprc, hk.1, by omega, by omega, ?_⟩
        refine ⟨_, rs.take kk.toNat ++ r :: rs.drop kk.toNat, insV xr kk.toNat (.ref q), rfl, tc.upd_late npr, upd_same, ?_, ?_, fun _ z => hrr (z r (by simp)), fun z => absurd w12 z⟩
        · exact reps_ins kk.toNat (ropes_upd hprc hxrc) (by rw [upd_ne (ne_of hq hprc (by intro z; cases z))]; exact hq)
        · rw [List.length_append, List.length_cons, List.length_take, List.length_drop]
          omega
      · have nw : ¬ (way = 1 ∨ way = 2) := by simpa using c
        exact ⟨none, rs, xr, rfl, t3, hpr3, hxr3, by omega, fun z => absurd z nw, fun _ => hv⟩
    rintro σ' H4 ⟨v7, rs', xr', rfl, s4, hpr4, hxr4, hl4, hb4, hg4⟩
    have lxr4 : xr'.length = rs'.length := by have := hxr4.length; rw [List.length_map] at this; exact this.symm
    walk_at "rd"
    refine ⟨fun σ' H' => ∃ x : Int, σ' = [some (.ref p0), some (.int n), some (.ref pr), some (.int way), some (.int st), some (.int x), some (.int other), v7, none, none, none] ∧ H4 = H' ∧ (way = 3 → ¬ (0 ≤ x ∧ x < (n : Int))) ∧ (way ≠ 3 → 0 ≤ x ∧ x < (n : Int)), ?_, ?_⟩
    · walk_at "rd"
      refine ite2 (fun c => ?_) (fun c => ?_)
      · exact ⟨st, rfl, trivial, fun _ => hst, fun z => absurd (by simpa using c) z⟩
      · exact ⟨one, rfl, trivial, fun z => absurd (by simpa using z) c, fun _ => ho⟩
    rintro σ' H' ⟨x, rfl, rfl, hx1, hx2⟩
    walk_at "rd"
    refine ⟨fun σ' H' => ∃ y : Int, σ' = [some (.ref p0), some (.int n), some (.ref pr), some (.int way), some (.int st), some (.int x), some (.int y), v7, none, none, none] ∧ H4 = H' ∧ (way = 4 → ¬ (0 ≤ y ∧ y < (n : Int))) ∧ (way ≠ 4 → 0 ≤ y ∧ y < (n : Int)), ?_, ?_⟩
    · walk_at "rd"
      refine ite2 (fun c => ?_) (fun c => ?_)
      · exact ⟨st, rfl, trivial, fun _ => hst, fun z => absurd (by simpa using c) z⟩
      · exact ⟨other, rfl, trivial, fun z => absurd (by simpa using z) c, fun _ => ht⟩
    rintro σ' H' ⟨y, rfl, rfl, hy1, hy2⟩
    walk_at "rd"
    refine ⟨pr, _, rfl, .inl (SqL.of hpr4), fun ph nh => ?_⟩
    have s5 : Same H4 (upd H4 ph (.lst xr')) := Same.upd_new nh
    have hph : upd H4 ph (.lst xr') ph = some (.lst xr') := upd_same
    generalize upd H4 ph (.lst xr') = H5 at s5 hph ⊢
    have t5 := s4.trans s5
    have repH : Rep H5 (ropesD rs') (.ref ph) := rep_lst.mpr ⟨ph, xr', rfl, hph, hxr4.mono s5⟩
    have repR : Rep H5 (ropesD rs') (.ref pr) := rep_lst.mpr ⟨pr, xr', rfl, s5 _ _ hpr4, hxr4.mono s5⟩
    walk_at "rd"
    refine ⟨_, rfl, by decide, by decide, for_range (lo := 0) (n := 9) (fun i σ H6 => Same H5 H6 ∧ ∃ v u, σ = [some (.ref p0), some (.int n), some (.ref pr), some (.int way), some (.int st), some (.int x), some (.int y), v7, some (.ref ph), v, u]) ⟨Same.refl H5, none, none, rfl⟩ ?_ ?_⟩
    · rintro i σ H6 hi ⟨s6, v, u, rfl⟩
      walk_at "rd"
      have ti : 0 ≤ (0 + (i : Int)) ∧ (0 + (i : Int)) ≤ 8 := by omega
      generalize (0 + (i : Int)) = t at ti ⊢
      refine ⟨fun σ' H' => ∃ b : Bool, σ' = [some (.ref p0), some (.int n), some (.ref pr), some (.int way), some (.int st), some (.int x), some (.int y), v7, some (.ref ph), some (.int t), some (.bl b)] ∧ H6 = H' ∧ (b = true ↔ (way = 1 ∨ way = 2) ∨ (t = 8 ∧ (way = 3 ∨ way = 4))), ?_, ?_⟩
      · walk_at "rd"
        refine ite2 (fun c => ⟨true, rfl, trivial, ⟨fun _ => .inl (.inl (by simpa using c)), fun _ => rfl⟩⟩) (fun c1 => ?_)
        have c1 : way ≠ 1 := by simpa using c1
        refine ite2 (fun c => ⟨true, rfl, trivial, ⟨fun _ => .inl (.inr (by simpa using c)), fun _ => rfl⟩⟩) (fun c2 => ?_)
        have c2 : way ≠ 2 := by simpa using c2
        refine ite2 (fun c8 => ?_) (fun c8 => ?_)
        · have c8 : t = 8 := by simpa using c8
          refine ite2 (fun c => ⟨true, rfl, trivial, ⟨fun _ => .inr ⟨c8, .inl (by simpa using c)⟩, fun _ => rfl⟩⟩) (fun c3 => ?_)
          have c3 : way ≠ 3 := by simpa using c3
          refine ⟨_, rfl, trivial, ?_⟩
          rw [decide_eq_true_eq]
          omega
        · have c8 : t ≠ 8 := by simpa using c8
          refine ⟨false, rfl, trivial, ?_⟩
          constructor
          · intro z; cases z
          · intro z; omega
      rintro σ' H' ⟨b, rfl, rfl, hb⟩
      walk_at "rd"
      refine ⟨n, ph, rs', t, x, y, rfl, repH.mono s6, by omega, by omega, ti.1, ti.2, (t5.trans s6) _ _ hT1, (t5.trans s6) _ _ hT2, fun b2 H7 s7 hb2 => ?_⟩
      have eb : b2 = b := by
        have key : (b2 = true ↔ b = true) := by
          rw [hb2, hb]
          unfold Right
          by_cases w12 : way = 1 ∨ way = 2
          · exact ⟨fun _ => .inl w12, fun _ z => hb4 w12 z.1⟩
          · have hok := hg4 w12
            constructor
            · intro z
              refine .inr (Classical.byContradiction fun nz => z ⟨hok, fun e => ⟨?_, ?_⟩⟩)
              · exact hx2 fun e3 => nz ⟨e, .inl e3⟩
              · exact hy2 fun e4 => nz ⟨e, .inr e4⟩
            · rintro (z | ⟨e, z | z⟩) ⟨_, q⟩
              · exact w12 z
              · exact hx1 z (q e).1
              · exact hy1 z (q e).2
        cases b2 <;> cases b <;> simp_all
      subst eb
      walk_at "rd"
      exact ite2 (fun c => absurd c (by simp)) (fun _ => ⟨s6.trans s7, _, _, rfl⟩)
    · rintro σ H6 ⟨s6, v, u, rfl⟩
      walk_at "rd"
      exact ⟨ph, pr, rs', rfl, repH.mono s6, repR.mono s6, by omega, fun H7 s7 => k H7 ((t5.trans s6).trans s7)⟩

end
end My
namespace My
open PySem L2
theorem all_mk {l : PySem.W.OpenLaw} {w : World} {K : PySem.W.Frag} {h : Heap} {mg : Str → Option Value} {fa : Addr} (X : K.In h) (G : h.Ns mainGlobals mg) (hfa : mg "law" = some (.ref fa))
    {f0 : Addr} {od0 an0 : Option Addr} {sl0 : Array (Option Value)} {oc0 kV0 dc0 pm0 cd0 ct0 : Value}
    {f1 : Addr} {od1 an1 : Option Addr} {sl1 : Array (Option Value)} {oc1 kV1 dc1 pm1 cd1 ct1 : Value}
    {f2 : Addr} {od2 an2 : Option Addr} {sl2 : Array (Option Value)} {oc2 kV2 dc2 pm2 cd2 ct2 : Value}
    {f3 : Addr} {od3 an3 : Option Addr} {sl3 : Array (Option Value)} {oc3 kV3 dc3 pm3 cd3 ct3 : Value}
    {f4 : Addr} {od4 an4 : Option Addr} {sl4 : Array (Option Value)} {oc4 kV4 dc4 pm4 cd4 ct4 : Value}
    {f5 : Addr} {od5 an5 : Option Addr} {sl5 : Array (Option Value)} {oc5 kV5 dc5 pm5 ct5 : Value} {c_5 : Addr} (p_5 : Addr)
    {f6 : Addr} {od6 an6 : Option Addr} {sl6 : Array (Option Value)} {oc6 kV6 dc6 pm6 cd6 ct6 : Value}
    {f7 : Addr} {od7 an7 : Option Addr} {sl7 : Array (Option Value)} {oc7 kV7 dc7 pm7 cd7 ct7 : Value}
    {f8 : Addr} {od8 an8 : Option Addr} {sl8 : Array (Option Value)} {oc8 kV8 dc8 pm8 cd8 ct8 : Value}
    {f9 : Addr} {od9 an9 : Option Addr} {sl9 : Array (Option Value)} {oc9 kV9 dc9 pm9 cd9 ct9 : Value}
    {f10 : Addr} {od10 an10 : Option Addr} {sl10 : Array (Option Value)} {oc10 kV10 dc10 pm10 cd10 ct10 : Value}
    {f11 : Addr} {od11 an11 : Option Addr} {sl11 : Array (Option Value)} {oc11 kV11 dc11 pm11 cd11 ct11 : Value}
    {f12 : Addr} {od12 an12 : Option Addr} {sl12 : Array (Option Value)} {oc12 kV12 dc12 pm12 cd12 ct12 : Value}
    {f13 : Addr} {od13 an13 : Option Addr} {sl13 : Array (Option Value)} {oc13 kV13 dc13 pm13 ct13 : Value} {c_13 : Addr} (p_13 : Addr)
    {f14 : Addr} {od14 an14 : Option Addr} {sl14 : Array (Option Value)} {oc14 kV14 dc14 pm14 cd14 ct14 : Value}
    {f15 : Addr} {od15 an15 : Option Addr} {sl15 : Array (Option Value)} {oc15 kV15 dc15 pm15 cd15 ct15 : Value}
    {f16 : Addr} {od16 an16 : Option Addr} {sl16 : Array (Option Value)} {oc16 kV16 dc16 pm16 cd16 ct16 : Value}
    {f17 : Addr} {od17 an17 : Option Addr} {sl17 : Array (Option Value)} {oc17 kV17 dc17 pm17 cd17 ct17 : Value}
    {f18 : Addr} {od18 an18 : Option Addr} {sl18 : Array (Option Value)} {oc18 kV18 dc18 pm18 cd18 ct18 : Value}
    {f19 : Addr} {od19 an19 : Option Addr} {sl19 : Array (Option Value)} {oc19 kV19 dc19 pm19 cd19 ct19 : Value}
    {f20 : Addr} {od20 an20 : Option Addr} {sl20 : Array (Option Value)} {oc20 kV20 dc20 pm20 cd20 ct20 : Value}
    {f21 : Addr} {od21 an21 : Option Addr} {sl21 : Array (Option Value)} {oc21 kV21 dc21 pm21 cd21 ct21 : Value}
    {f22 : Addr} {od22 an22 : Option Addr} {sl22 : Array (Option Value)} {oc22 kV22 dc22 pm22 cd22 ct22 : Value}
    {f23 : Addr} {od23 an23 : Option Addr} {sl23 : Array (Option Value)} {oc23 kV23 dc23 pm23 cd23 ct23 : Value}
    {f24 : Addr} {od24 an24 : Option Addr} {sl24 : Array (Option Value)} {oc24 kV24 dc24 pm24 cd24 ct24 : Value}
    {f25 : Addr} {od25 an25 : Option Addr} {sl25 : Array (Option Value)} {oc25 kV25 dc25 pm25 cd25 ct25 : Value}
    {f26 : Addr} {od26 an26 : Option Addr} {sl26 : Array (Option Value)} {oc26 kV26 dc26 pm26 cd26 ct26 : Value}
    {f27 : Addr} {od27 an27 : Option Addr} {sl27 : Array (Option Value)} {oc27 kV27 dc27 pm27 cd27 ct27 : Value}
    (a0 : PySem.W.nsIn K mainGlobals "check_places" = some (some (.ref f0)))
    (l0 : K.lookup f0 = some ⟨oc0, od0, .func (PySem.W.fnOf "check_places" "check_places" (defArgs s_check_places) (defBody s_check_places) (defScope s_check_places) .none kV0 dc0 pm0 an0 cd0 ct0), sl0⟩)
    (c0 : PySem.W.codeIn K cd0 "check_places" = true) (k0 : PySem.W.keepIn K (.ref f0) = true)
    (a1 : PySem.W.nsIn K mainGlobals "check_ropes" = some (some (.ref f1)))
    (l1 : K.lookup f1 = some ⟨oc1, od1, .func (PySem.W.fnOf "check_ropes" "check_ropes" (defArgs s_check_ropes) (defBody s_check_ropes) (defScope s_check_ropes) .none kV1 dc1 pm1 an1 cd1 ct1), sl1⟩)
    (c1 : PySem.W.codeIn K cd1 "check_ropes" = true) (k1 : PySem.W.keepIn K (.ref f1) = true)
    (a2 : PySem.W.nsIn K mainGlobals "is_rope_number" = some (some (.ref f2)))
    (l2 : K.lookup f2 = some ⟨oc2, od2, .func (PySem.W.fnOf "is_rope_number" "is_rope_number" (defArgs s_is_rope_number) (defBody s_is_rope_number) (defScope s_is_rope_number) .none kV2 dc2 pm2 an2 cd2 ct2), sl2⟩)
    (c2 : PySem.W.codeIn K cd2 "is_rope_number" = true) (k2 : PySem.W.keepIn K (.ref f2) = true)
    (a3 : PySem.W.nsIn K mainGlobals "is_tree" = some (some (.ref f3)))
    (l3 : K.lookup f3 = some ⟨oc3, od3, .func (PySem.W.fnOf "is_tree" "is_tree" (defArgs s_is_tree) (defBody s_is_tree) (defScope s_is_tree) .none kV3 dc3 pm3 an3 cd3 ct3), sl3⟩)
    (c3 : PySem.W.codeIn K cd3 "is_tree" = true) (k3 : PySem.W.keepIn K (.ref f3) = true)
    (a4 : PySem.W.nsIn K mainGlobals "cost_of" = some (some (.ref f4)))
    (l4 : K.lookup f4 = some ⟨oc4, od4, .func (PySem.W.fnOf "cost_of" "cost_of" (defArgs s_cost_of) (defBody s_cost_of) (defScope s_cost_of) .none kV4 dc4 pm4 an4 cd4 ct4), sl4⟩)
    (c4 : PySem.W.codeIn K cd4 "cost_of" = true) (k4 : PySem.W.keepIn K (.ref f4) = true)
    (a5 : PySem.W.nsIn K mainGlobals "from_cheapest" = some (some (.ref f5)))
    (l5 : K.lookup f5 = some ⟨oc5, od5, .func (PySem.W.fnOf "from_cheapest" "from_cheapest" (defArgs s_from_cheapest) (defBody s_from_cheapest) (defScope s_from_cheapest) .none kV5 dc5 pm5 an5 (.ref c_5) ct5), sl5⟩)
    (c5 : PySem.W.codeIn K (.ref c_5) "from_cheapest" = true) (k5 : PySem.W.keepIn K (.ref f5) = true)
    (t5 : PySem.W.codeHdIn K c_5 p_5 = true) (n5 : K.lookup p_5 = none)
    (a6 : PySem.W.nsIn K mainGlobals "take_ringless" = some (some (.ref f6)))
    (l6 : K.lookup f6 = some ⟨oc6, od6, .func (PySem.W.fnOf "take_ringless" "take_ringless" (defArgs s_take_ringless) (defBody s_take_ringless) (defScope s_take_ringless) .none kV6 dc6 pm6 an6 cd6 ct6), sl6⟩)
    (c6 : PySem.W.codeIn K cd6 "take_ringless" = true) (k6 : PySem.W.keepIn K (.ref f6) = true)
    (a7 : PySem.W.nsIn K mainGlobals "ways_from" = some (some (.ref f7)))
    (l7 : K.lookup f7 = some ⟨oc7, od7, .func (PySem.W.fnOf "ways_from" "ways_from" (defArgs s_ways_from) (defBody s_ways_from) (defScope s_ways_from) .none kV7 dc7 pm7 an7 cd7 ct7), sl7⟩)
    (c7 : PySem.W.codeIn K cd7 "ways_from" = true) (k7 : PySem.W.keepIn K (.ref f7) = true)
    (a8 : PySem.W.nsIn K mainGlobals "far_end" = some (some (.ref f8)))
    (l8 : K.lookup f8 = some ⟨oc8, od8, .func (PySem.W.fnOf "far_end" "far_end" (defArgs s_far_end) (defBody s_far_end) (defScope s_far_end) .none kV8 dc8 pm8 an8 cd8 ct8), sl8⟩)
    (c8 : PySem.W.codeIn K cd8 "far_end" = true) (k8 : PySem.W.keepIn K (.ref f8) = true)
    (a9 : PySem.W.nsIn K mainGlobals "least_tree" = some (some (.ref f9)))
    (l9 : K.lookup f9 = some ⟨oc9, od9, .func (PySem.W.fnOf "least_tree" "least_tree" (defArgs s_least_tree) (defBody s_least_tree) (defScope s_least_tree) .none kV9 dc9 pm9 an9 cd9 ct9), sl9⟩)
    (c9 : PySem.W.codeIn K cd9 "least_tree" = true) (k9 : PySem.W.keepIn K (.ref f9) = true)
    (a10 : PySem.W.nsIn K mainGlobals "dearest_tree" = some (some (.ref f10)))
    (l10 : K.lookup f10 = some ⟨oc10, od10, .func (PySem.W.fnOf "dearest_tree" "dearest_tree" (defArgs s_dearest_tree) (defBody s_dearest_tree) (defScope s_dearest_tree) .none kV10 dc10 pm10 an10 cd10 ct10), sl10⟩)
    (c10 : PySem.W.codeIn K cd10 "dearest_tree" = true) (k10 : PySem.W.keepIn K (.ref f10) = true)
    (a11 : PySem.W.nsIn K mainGlobals "total" = some (some (.ref f11)))
    (l11 : K.lookup f11 = some ⟨oc11, od11, .func (PySem.W.fnOf "total" "total" (defArgs s_total) (defBody s_total) (defScope s_total) .none kV11 dc11 pm11 an11 cd11 ct11), sl11⟩)
    (c11 : PySem.W.codeIn K cd11 "total" = true) (k11 : PySem.W.keepIn K (.ref f11) = true)
    (a12 : PySem.W.nsIn K mainGlobals "why" = some (some (.ref f12)))
    (l12 : K.lookup f12 = some ⟨oc12, od12, .func (PySem.W.fnOf "why" "why" (defArgs s_why) (defBody s_why) (defScope s_why) .none kV12 dc12 pm12 an12 cd12 ct12), sl12⟩)
    (c12 : PySem.W.codeIn K cd12 "why" = true) (k12 : PySem.W.keepIn K (.ref f12) = true)
    (a13 : PySem.W.nsIn K mainGlobals "second_tree" = some (some (.ref f13)))
    (l13 : K.lookup f13 = some ⟨oc13, od13, .func (PySem.W.fnOf "second_tree" "second_tree" (defArgs s_second_tree) (defBody s_second_tree) (defScope s_second_tree) .none kV13 dc13 pm13 an13 (.ref c_13) ct13), sl13⟩)
    (c13 : PySem.W.codeIn K (.ref c_13) "second_tree" = true) (k13 : PySem.W.keepIn K (.ref f13) = true)
    (t13 : PySem.W.codeHdIn K c_13 p_13 = true) (n13 : K.lookup p_13 = none)
    (a14 : PySem.W.nsIn K mainGlobals "least_without" = some (some (.ref f14)))
    (l14 : K.lookup f14 = some ⟨oc14, od14, .func (PySem.W.fnOf "least_without" "least_without" (defArgs s_least_without) (defBody s_least_without) (defScope s_least_without) .none kV14 dc14 pm14 an14 cd14 ct14), sl14⟩)
    (c14 : PySem.W.codeIn K cd14 "least_without" = true) (k14 : PySem.W.keepIn K (.ref f14) = true)
    (a15 : PySem.W.nsIn K mainGlobals "steps_to" = some (some (.ref f15)))
    (l15 : K.lookup f15 = some ⟨oc15, od15, .func (PySem.W.fnOf "steps_to" "steps_to" (defArgs s_steps_to) (defBody s_steps_to) (defScope s_steps_to) .none kV15 dc15 pm15 an15 cd15 ct15), sl15⟩)
    (c15 : PySem.W.codeIn K cd15 "steps_to" = true) (k15 : PySem.W.keepIn K (.ref f15) = true)
    (a16 : PySem.W.nsIn K mainGlobals "rope_to_leave" = some (some (.ref f16)))
    (l16 : K.lookup f16 = some ⟨oc16, od16, .func (PySem.W.fnOf "rope_to_leave" "rope_to_leave" (defArgs s_rope_to_leave) (defBody s_rope_to_leave) (defScope s_rope_to_leave) .none kV16 dc16 pm16 an16 cd16 ct16), sl16⟩)
    (c16 : PySem.W.codeIn K cd16 "rope_to_leave" = true) (k16 : PySem.W.keepIn K (.ref f16) = true)
    (a17 : PySem.W.nsIn K mainGlobals "best_way" = some (some (.ref f17)))
    (l17 : K.lookup f17 = some ⟨oc17, od17, .func (PySem.W.fnOf "best_way" "best_way" (defArgs s_best_way) (defBody s_best_way) (defScope s_best_way) .none kV17 dc17 pm17 an17 cd17 ct17), sl17⟩)
    (c17 : PySem.W.codeIn K cd17 "best_way" = true) (k17 : PySem.W.keepIn K (.ref f17) = true)
    (a18 : PySem.W.nsIn K mainGlobals "groups_below" = some (some (.ref f18)))
    (l18 : K.lookup f18 = some ⟨oc18, od18, .func (PySem.W.fnOf "groups_below" "groups_below" (defArgs s_groups_below) (defBody s_groups_below) (defScope s_groups_below) .none kV18 dc18 pm18 an18 cd18 ct18), sl18⟩)
    (c18 : PySem.W.codeIn K cd18 "groups_below" = true) (k18 : PySem.W.keepIn K (.ref f18) = true)
    (a19 : PySem.W.nsIn K mainGlobals "_law_upto" = some (some (.ref f19)))
    (l19 : K.lookup f19 = some ⟨oc19, od19, .func (PySem.W.fnOf "_law_upto" "_law_upto" (defArgs s__law_upto) (defBody s__law_upto) (defScope s__law_upto) .none kV19 dc19 pm19 an19 cd19 ct19), sl19⟩)
    (c19 : PySem.W.codeIn K cd19 "_law_upto" = true) (k19 : PySem.W.keepIn K (.ref f19) = true)
    (a20 : PySem.W.nsIn K mainGlobals "_law_whole" = some (some (.ref f20)))
    (l20 : K.lookup f20 = some ⟨oc20, od20, .func (PySem.W.fnOf "_law_whole" "_law_whole" (defArgs s__law_whole) (defBody s__law_whole) (defScope s__law_whole) .none kV20 dc20 pm20 an20 cd20 ct20), sl20⟩)
    (c20 : PySem.W.codeIn K cd20 "_law_whole" = true) (k20 : PySem.W.keepIn K (.ref f20) = true)
    (a21 : PySem.W.nsIn K mainGlobals "_law_at" = some (some (.ref f21)))
    (l21 : K.lookup f21 = some ⟨oc21, od21, .func (PySem.W.fnOf "_law_at" "_law_at" (defArgs s__law_at) (defBody s__law_at) (defScope s__law_at) .none kV21 dc21 pm21 an21 cd21 ct21), sl21⟩)
    (c21 : PySem.W.codeIn K cd21 "_law_at" = true) (k21 : PySem.W.keepIn K (.ref f21) = true)
    (a22 : PySem.W.nsIn K mainGlobals "_law_ropes_by" = some (some (.ref f22)))
    (l22 : K.lookup f22 = some ⟨oc22, od22, .func (PySem.W.fnOf "_law_ropes_by" "_law_ropes_by" (defArgs s__law_ropes_by) (defBody s__law_ropes_by) (defScope s__law_ropes_by) .none kV22 dc22 pm22 an22 cd22 ct22), sl22⟩)
    (c22 : PySem.W.codeIn K cd22 "_law_ropes_by" = true) (k22 : PySem.W.keepIn K (.ref f22) = true)
    (a23 : PySem.W.nsIn K mainGlobals "_law_whole_row" = some (some (.ref f23)))
    (l23 : K.lookup f23 = some ⟨oc23, od23, .func (PySem.W.fnOf "_law_whole_row" "_law_whole_row" (defArgs s__law_whole_row) (defBody s__law_whole_row) (defScope s__law_whole_row) .none kV23 dc23 pm23 an23 cd23 ct23), sl23⟩)
    (c23 : PySem.W.codeIn K cd23 "_law_whole_row" = true) (k23 : PySem.W.keepIn K (.ref f23) = true)
    (a24 : PySem.W.nsIn K mainGlobals "_law_same_ropes" = some (some (.ref f24)))
    (l24 : K.lookup f24 = some ⟨oc24, od24, .func (PySem.W.fnOf "_law_same_ropes" "_law_same_ropes" (defArgs s__law_same_ropes) (defBody s__law_same_ropes) (defScope s__law_same_ropes) .none kV24 dc24 pm24 an24 cd24 ct24), sl24⟩)
    (c24 : PySem.W.codeIn K cd24 "_law_same_ropes" = true) (k24 : PySem.W.keepIn K (.ref f24) = true)
    (a25 : PySem.W.nsIn K mainGlobals "_law_asked" = some (some (.ref f25)))
    (l25 : K.lookup f25 = some ⟨oc25, od25, .func (PySem.W.fnOf "_law_asked" "_law_asked" (defArgs s__law_asked) (defBody s__law_asked) (defScope s__law_asked) .none kV25 dc25 pm25 an25 cd25 ct25), sl25⟩)
    (c25 : PySem.W.codeIn K cd25 "_law_asked" = true) (k25 : PySem.W.keepIn K (.ref f25) = true)
    (a26 : PySem.W.nsIn K mainGlobals "_law_refuses" = some (some (.ref f26)))
    (l26 : K.lookup f26 = some ⟨oc26, od26, .func (PySem.W.fnOf "_law_refuses" "_law_refuses" (defArgs s__law_refuses) (defBody s__law_refuses) (defScope s__law_refuses) .none kV26 dc26 pm26 an26 cd26 ct26), sl26⟩)
    (c26 : PySem.W.codeIn K cd26 "_law_refuses" = true) (k26 : PySem.W.keepIn K (.ref f26) = true)
    (a27 : PySem.W.nsIn K mainGlobals "law" = some (some (.ref f27)))
    (l27 : K.lookup f27 = some ⟨oc27, od27, .func (PySem.W.fnOf "law" "law" (defArgs s_law) (defBody s_law) (defScope s_law) .none kV27 dc27 pm27 an27 cd27 ct27), sl27⟩)
    (c27 : PySem.W.codeIn K cd27 "law" = true) (k27 : PySem.W.keepIn K (.ref f27) = true)
    {k_RopeError : Addr} (g_RopeError : PySem.W.nsIn K mainGlobals "RopeError" = some (some (.ref k_RopeError)))
    {k_NoPlace : Addr} (g_NoPlace : PySem.W.nsIn K mainGlobals "NoPlace" = some (some (.ref k_NoPlace)))
    {k_NoRope : Addr} (g_NoRope : PySem.W.nsIn K mainGlobals "NoRope" = some (some (.ref k_NoRope)))
    {k_NoTree : Addr} (g_NoTree : PySem.W.nsIn K mainGlobals "NoTree" = some (some (.ref k_NoTree)))
    (x_NoPlace : PySem.W.excIn K k_NoPlace [.type "ValueError", .type "Exception", .type "BaseException", .type "object"] "ValueError.__new__" = true)
    (x_NoRope : PySem.W.excIn K k_NoRope [.type "ValueError", .type "Exception", .type "BaseException", .type "object"] "ValueError.__new__" = true)
    (x_NoTree : PySem.W.excIn K k_NoTree [.type "ValueError", .type "Exception", .type "BaseException", .type "object"] "ValueError.__new__" = true)
    (y_NoPlace_RopeError : PySem.W.exmOne K (.ref k_NoPlace) (.ref k_RopeError) = some true)
    (y_NoRope_RopeError : PySem.W.exmOne K (.ref k_NoRope) (.ref k_RopeError) = some true)
    (y_NoTree_RopeError : PySem.W.exmOne K (.ref k_NoTree) (.ref k_RopeError) = some true)
    (i_NoTree_NoTree : PySem.W.kitOne K (.ref k_NoTree) (.ref k_NoTree) = some true)
    (i_NoRope_NoTree : PySem.W.kitOne K (.ref k_NoRope) (.ref k_NoTree) = some false)
    (i_NoPlace_NoTree : PySem.W.kitOne K (.ref k_NoPlace) (.ref k_NoTree) = some false)
    (i_NoRope_NoPlace : PySem.W.kitOne K (.ref k_NoRope) (.ref k_NoPlace) = some false)
    (i_NoPlace_NoPlace : PySem.W.kitOne K (.ref k_NoPlace) (.ref k_NoPlace) = some true)
    (i_NoPlace_ValueError : PySem.W.kitOne K (.ref k_NoPlace) (.type "ValueError") = some true)
    (no_ga_NoRope : PySem.W.findIn K (.ref k_NoRope) "__getattribute__" = some (some (.builtin "BaseException.__getattribute__")))
    (no_hk_NoRope : PySem.W.findIn K (.ref k_NoRope) "__getattr__" = some none)
    (no_cl_NoRope : PySem.W.findIn K (.ref k_NoRope) "__class__" = some (some (.builtin "object.__class__")))
    (no_gt_NoRope : PySem.W.specialIn K (.builtin "object.__class__") "__get__" = some (some (.builtin "getset_descriptor.__get__")))
    (no_tk_NoRope : PySem.W.takesIn K (.builtin "object.__class__") = some true)
    (no_mo_NoRope : PySem.W.mroIn K k_NoRope (.type "object") = some true)
    (no_mb_NoRope : PySem.W.mroIn K k_NoRope (.type "BaseException") = some true)
    (no_cd_NoRope : (PySem.W.clsIn K k_NoRope).isSome = true)
    (no_ga_NoPlace : PySem.W.findIn K (.ref k_NoPlace) "__getattribute__" = some (some (.builtin "BaseException.__getattribute__")))
    (no_hk_NoPlace : PySem.W.findIn K (.ref k_NoPlace) "__getattr__" = some none)
    (no_cl_NoPlace : PySem.W.findIn K (.ref k_NoPlace) "__class__" = some (some (.builtin "object.__class__")))
    (no_gt_NoPlace : PySem.W.specialIn K (.builtin "object.__class__") "__get__" = some (some (.builtin "getset_descriptor.__get__")))
    (no_tk_NoPlace : PySem.W.takesIn K (.builtin "object.__class__") = some true)
    (no_mo_NoPlace : PySem.W.mroIn K k_NoPlace (.type "object") = some true)
    (no_mb_NoPlace : PySem.W.mroIn K k_NoPlace (.type "BaseException") = some true)
    (no_cd_NoPlace : (PySem.W.clsIn K k_NoPlace).isSome = true)
    (z_len : PySem.W.nsIn K mainGlobals "len" = some none)
    (z_list : PySem.W.nsIn K mainGlobals "list" = some none)
    (z_range : PySem.W.nsIn K mainGlobals "range" = some none)
    (z_isinstance : PySem.W.nsIn K mainGlobals "isinstance" = some none)
    (z_int : PySem.W.nsIn K mainGlobals "int" = some none)
    (z_bool : PySem.W.nsIn K mainGlobals "bool" = some none)
    (z_tuple : PySem.W.nsIn K mainGlobals "tuple" = some none)
    (z_max : PySem.W.nsIn K mainGlobals "max" = some none)
    (z_min : PySem.W.nsIn K mainGlobals "min" = some none)
    (z_all : PySem.W.nsIn K mainGlobals "all" = some none)
    (z_sorted : PySem.W.nsIn K mainGlobals "sorted" = some none)
    (z_sum : PySem.W.nsIn K mainGlobals "sum" = some none)
    (z_str : PySem.W.nsIn K mainGlobals "str" = some none)
    (z_ValueError : PySem.W.nsIn K mainGlobals "ValueError" = some none)
    : ∃ fd : FuncData, (∀ (s : Shared) (v : Value), BindsTo s fd ⟨[v], []⟩ [("_law_script", v)]) ∧ (∀ T q, (fun b => if b = p_5 then some q_from_cheapest else if b = p_13 then some q_second_tree else none : Addr → Option Str) T = some q → K.lookup T = none ∧ ∃ c, PySem.W.codeHdIn K c T = true) ∧ ∀ base : Heap, K.In base → base.Ns mainGlobals mg → Bm mg base → FnOk l.prog w K mg base CX0 8 fa fd ["_law_script"] (sp_law p_5 p_13 K) := by
  have e := hfa.symm.trans (PySem.W.mg_of X G a27)
  cases e
  have F0 := fun_mk (st := s_check_places) l0 c0 k0
  have b0 := F0.binds (ps := ["count", "places"]) fun _ _ _ _ _ _ us hl => match us, hl with | [_, _], _ => rfl
  have F1 := fun_mk (st := s_check_ropes) l1 c1 k1
  have b1 := F1.binds (ps := ["count", "ropes"]) fun _ _ _ _ _ _ us hl => match us, hl with | [_, _], _ => rfl
  have F2 := fun_mk (st := s_is_rope_number) l2 c2 k2
  have b2 := F2.binds (ps := ["ropes", "number"]) fun _ _ _ _ _ _ us hl => match us, hl with | [_, _], _ => rfl
  have F3 := fun_mk (st := s_is_tree) l3 c3 k3
  have b3 := F3.binds (ps := ["count", "ropes", "numbers"]) fun _ _ _ _ _ _ us hl => match us, hl with | [_, _, _], _ => rfl
  have F4 := fun_mk (st := s_cost_of) l4 c4 k4
  have b4 := F4.binds (ps := ["ropes", "numbers"]) fun _ _ _ _ _ _ us hl => match us, hl with | [_, _], _ => rfl
  have F5 := fun_mk (st := s_from_cheapest) l5 c5 k5
  have b5 := F5.binds (ps := ["ropes"]) fun _ _ _ _ _ _ us hl => match us, hl with | [_], _ => rfl
  have F6 := fun_mk (st := s_take_ringless) l6 c6 k6
  have b6 := F6.binds (ps := ["count", "ropes", "order"]) fun _ _ _ _ _ _ us hl => match us, hl with | [_, _, _], _ => rfl
  have F7 := fun_mk (st := s_ways_from) l7 c7 k7
  have b7 := F7.binds (ps := ["ropes", "numbers", "start"]) fun _ _ _ _ _ _ us hl => match us, hl with | [_, _, _], _ => rfl
  have F8 := fun_mk (st := s_far_end) l8 c8 k8
  have b8 := F8.binds (ps := ["rope", "place"]) fun _ _ _ _ _ _ us hl => match us, hl with | [_, _], _ => rfl
  have F9 := fun_mk (st := s_least_tree) l9 c9 k9
  have b9 := F9.binds (ps := ["count", "ropes"]) fun _ _ _ _ _ _ us hl => match us, hl with | [_, _], _ => rfl
  have F10 := fun_mk (st := s_dearest_tree) l10 c10 k10
  have b10 := F10.binds (ps := ["count", "ropes"]) fun _ _ _ _ _ _ us hl => match us, hl with | [_, _], _ => rfl
  have F11 := fun_mk (st := s_total) l11 c11 k11
  have b11 := F11.binds (ps := ["count", "ropes", "numbers"]) fun _ _ _ _ _ _ us hl => match us, hl with | [_, _, _], _ => rfl
  have F12 := fun_mk (st := s_why) l12 c12 k12
  have b12 := F12.binds (ps := ["count", "ropes", "number"]) fun _ _ _ _ _ _ us hl => match us, hl with | [_, _, _], _ => rfl
  have F13 := fun_mk (st := s_second_tree) l13 c13 k13
  have b13 := F13.binds (ps := ["count", "ropes"]) fun _ _ _ _ _ _ us hl => match us, hl with | [_, _], _ => rfl
  have F14 := fun_mk (st := s_least_without) l14 c14 k14
  have b14 := F14.binds (ps := ["count", "ropes", "out"]) fun _ _ _ _ _ _ us hl => match us, hl with | [_, _, _], _ => rfl
  have F15 := fun_mk (st := s_steps_to) l15 c15 k15
  have b15 := F15.binds (ps := ["count", "ropes", "one", "other"]) fun _ _ _ _ _ _ us hl => match us, hl with | [_, _, _, _], _ => rfl
  have F16 := fun_mk (st := s_rope_to_leave) l16 c16 k16
  have b16 := F16.binds (ps := ["ropes", "tree", "other", "number"]) fun _ _ _ _ _ _ us hl => match us, hl with | [_, _, _, _], _ => rfl
  have F17 := fun_mk (st := s_best_way) l17 c17 k17
  have b17 := F17.binds (ps := ["count", "ropes", "one", "other"]) fun _ _ _ _ _ _ us hl => match us, hl with | [_, _, _, _], _ => rfl
  have F18 := fun_mk (st := s_groups_below) l18 c18 k18
  have b18 := F18.binds (ps := ["count", "ropes", "bound"]) fun _ _ _ _ _ _ us hl => match us, hl with | [_, _, _], _ => rfl
  have F19 := fun_mk (st := s__law_upto) l19 c19 k19
  have b19 := F19.binds (ps := ["_law_script", "_law_small", "_law_great"]) fun _ _ _ _ _ _ us hl => match us, hl with | [_, _, _], _ => rfl
  have F20 := fun_mk (st := s__law_whole) l20 c20 k20
  have b20 := F20.binds (ps := ["_law_found"]) fun _ _ _ _ _ _ us hl => match us, hl with | [_], _ => rfl
  have F21 := fun_mk (st := s__law_at) l21 c21 k21
  have b21 := F21.binds (ps := ["_law_script", "_law_k"]) fun _ _ _ _ _ _ us hl => match us, hl with | [_, _], _ => rfl
  have F22 := fun_mk (st := s__law_ropes_by) l22 c22 k22
  have b22 := F22.binds (ps := ["_law_cells", "_law_count", "_law_seed"]) fun _ _ _ _ _ _ us hl => match us, hl with | [_, _, _], _ => rfl
  have F23 := fun_mk (st := s__law_whole_row) l23 c23 k23
  have b23 := F23.binds (ps := ["_law_found"]) fun _ _ _ _ _ _ us hl => match us, hl with | [_], _ => rfl
  have F24 := fun_mk (st := s__law_same_ropes) l24 c24 k24
  have b24 := F24.binds (ps := ["_law_found", "_law_ropes"]) fun _ _ _ _ _ _ us hl => match us, hl with | [_, _], _ => rfl
  have F25 := fun_mk (st := s__law_asked) l25 c25 k25
  have b25 := F25.binds (ps := ["_law_way", "_law_count", "_law_ropes", "_law_one", "_law_other"]) fun _ _ _ _ _ _ us hl => match us, hl with | [_, _, _, _, _], _ => rfl
  have F26 := fun_mk (st := s__law_refuses) l26 c26 k26
  have b26 := F26.binds (ps := ["_law_way", "_law_count", "_law_ropes", "_law_one", "_law_other"]) fun _ _ _ _ _ _ us hl => match us, hl with | [_, _, _, _, _], _ => rfl
  have F27 := fun_mk (st := s_law) l27 c27 k27
  have b27 := F27.binds (ps := ["_law_script"]) fun _ _ _ _ _ _ us hl => match us, hl with | [_], _ => rfl
  have T : Txt K mg ⟨f0, _, f1, _, f2, _, f3, _, f4, _, f5, _, c_5, p_5, f6, _, f7, _, f8, _, f9, _, f10, _, f11, _, f12, _, f13, _, c_13, p_13, f14, _, f15, _, f16, _, f17, _, f18, _, f19, _, f20, _, f21, _, f22, _, f23, _, f24, _, f25, _, f26, _, fa, _, k_RopeError, k_NoPlace, k_NoRope, k_NoTree⟩ := ⟨F0, PySem.W.mg_of X G a0, k0, b0, F1, PySem.W.mg_of X G a1, k1, b1, F2, PySem.W.mg_of X G a2, k2, b2, F3, PySem.W.mg_of X G a3, k3, b3, F4, PySem.W.mg_of X G a4, k4, b4, F5, PySem.W.mg_of X G a5, k5, b5, rfl, t5, F6, PySem.W.mg_of X G a6, k6, b6, F7, PySem.W.mg_of X G a7, k7, b7, F8, PySem.W.mg_of X G a8, k8, b8, F9, PySem.W.mg_of X G a9, k9, b9, F10, PySem.W.mg_of X G a10, k10, b10, F11, PySem.W.mg_of X G a11, k11, b11, F12, PySem.W.mg_of X G a12, k12, b12, F13, PySem.W.mg_of X G a13, k13, b13, rfl, t13, F14, PySem.W.mg_of X G a14, k14, b14, F15, PySem.W.mg_of X G a15, k15, b15, F16, PySem.W.mg_of X G a16, k16, b16, F17, PySem.W.mg_of X G a17, k17, b17, F18, PySem.W.mg_of X G a18, k18, b18, F19, PySem.W.mg_of X G a19, k19, b19, F20, PySem.W.mg_of X G a20, k20, b20, F21, PySem.W.mg_of X G a21, k21, b21, F22, PySem.W.mg_of X G a22, k22, b22, F23, PySem.W.mg_of X G a23, k23, b23, F24, PySem.W.mg_of X G a24, k24, b24, F25, PySem.W.mg_of X G a25, k25, b25, F26, PySem.W.mg_of X G a26, k26, b26, F27, PySem.W.mg_of X G a27, k27, b27, PySem.W.mg_of X G g_RopeError, PySem.W.mg_of X G g_NoPlace, PySem.W.mg_of X G g_NoRope, PySem.W.mg_of X G g_NoTree, ⟨_, _, _, _, PySem.F.excBase_ValueError, x_NoPlace⟩, ⟨_, _, _, _, PySem.F.excBase_ValueError, x_NoRope⟩, ⟨_, _, _, _, PySem.F.excBase_ValueError, x_NoTree⟩, y_NoPlace_RopeError, y_NoRope_RopeError, y_NoTree_RopeError, i_NoTree_NoTree, i_NoRope_NoTree, i_NoPlace_NoTree, i_NoRope_NoPlace, i_NoPlace_NoPlace, i_NoPlace_ValueError, ⟨no_ga_NoRope, no_hk_NoRope, no_cl_NoRope, no_gt_NoRope, no_tk_NoRope, no_mo_NoRope, no_mb_NoRope, no_cd_NoRope⟩, ⟨no_ga_NoPlace, no_hk_NoPlace, no_cl_NoPlace, no_gt_NoPlace, no_tk_NoPlace, no_mo_NoPlace, no_mb_NoPlace, no_cd_NoPlace⟩, PySem.W.mg_none_of X G z_len, PySem.W.mg_none_of X G z_list, PySem.W.mg_none_of X G z_range, PySem.W.mg_none_of X G z_isinstance, PySem.W.mg_none_of X G z_int, PySem.W.mg_none_of X G z_bool, PySem.W.mg_none_of X G z_tuple, PySem.W.mg_none_of X G z_max, PySem.W.mg_none_of X G z_min, PySem.W.mg_none_of X G z_all, PySem.W.mg_none_of X G z_sorted, PySem.W.mg_none_of X G z_sum, PySem.W.mg_none_of X G z_str, PySem.W.mg_none_of X G z_ValueError⟩
  refine ⟨PySem.W.fnOf "law" "law" (defArgs s_law) (defBody s_law) (defScope s_law) .none kV27 dc27 pm27 an27 cd27 ct27, fun s v => .of_eq rfl, fun T' q e => ?_, fun base _ _ B => ok_law T B⟩
  dsimp only at e
  by_cases h5 : T' = p_5
  · subst h5; exact ⟨n5, _, t5⟩
  rw [if_neg h5] at e
  by_cases h13 : T' = p_13
  · subst h13; exact ⟨n13, _, t13⟩
  rw [if_neg h13] at e
  cases e
theorem walk {l : PySem.W.OpenLaw} {q : Program} {loose : List Str} {XP : (Str → Option Value) → Heap → Prop} {YP : World → Heap → Prop} {d : DefRec} {K : Params → PySem.W.Frag} (p_5 : Addr) (p_13 : Addr) (hn : l.most = some 63) (hdf : d.params.defaults = [])
    (hY : ∀ (w : World) (h : Heap), YP w h → (K w.params).In h) (hT5 : ∀ (w : World) (h : Heap), YP w h → h.get? p_5 = some (PySem.W.tabObj #[])) (hT13 : ∀ (w : World) (h : Heap), YP w h → h.get? p_13 = some (PySem.W.tabObj #[])) (ne0 : p_5 ≠ p_13)
    (F : ∀ (w : World) (mg : Str → Option Value) (fa : Addr) (h : Heap), (K w.params).In h → h.Ns mainGlobals mg → mg d.name = some (.ref fa) →
      ∃ fd : FuncData, (∀ (s : Shared) (u : Value), BindsTo s fd ⟨[u], []⟩ [("_law_script", u)]) ∧ (∀ T q, (fun b => if b = p_5 then some q_from_cheapest else if b = p_13 then some q_second_tree else none : Addr → Option Str) T = some q → (K w.params).lookup T = none ∧ ∃ c, PySem.W.codeHdIn (K w.params) c T = true) ∧
        ∀ base : Heap, (K w.params).In base → base.Ns mainGlobals mg → Bm mg base → FnOk l.prog w (K w.params) mg base CX0 8 fa fd ["_law_script"] (sp_law p_5 p_13 (K w.params))) :
    PySem.W.WalkO q loose XP YP l.row.toRowW d [] (fun f vs => PySem.call f vs) := by
  have tbs : ∀ {P : Addr → Str → Prop}, P p_5 q_from_cheapest → P p_13 q_second_tree → ∀ T q, (fun b => if b = p_5 then some q_from_cheapest else if b = p_13 then some q_second_tree else none : Addr → Option Str) T = some q → P T q := by
    intro P g5 g13 T' q e
    dsimp only at e
    by_cases h5 : T' = p_5
    · rw [if_pos h5] at e; cases e; rw [h5]; exact g5
    rw [if_neg h5] at e
    by_cases h13 : T' = p_13
    · rw [if_pos h13] at e; cases e; rw [h13]; exact g13
    rw [if_neg h13] at e
    cases e
  refine L2.walk_ofT (n := 63) (k := 8) (x := "_law_script") (sp := fun w => sp_law p_5 p_13 (K w.params)) (fun b => if b = p_5 then some q_from_cheapest else if b = p_13 then some q_second_tree else none : Addr → Option Str) hn (by decide) hdf ⟨rfl, by decide, by decide⟩ hY (fun w h Y => tbs (hT5 w h Y) (hT13 w h Y)) F fun w H a ns hl hO hS => ⟨a, ns, rfl, hS, hl, hO _ _ (by simp [ne0.symm, ne0]), hO _ _ (by simp [ne0.symm, ne0]), fun H' sm => ⟨rfl, fun T q e => sm _ _ (hO T q e)⟩⟩
end My
open PySem PySem.W PyProof.Rows
set_option maxRecDepth 100000 in
set_option maxHeartbeats 0 in
theorem PySem.Challenge.cw_ropetree_k11_no_place_holds : PySem.Challenge.rw_ropetree_k11_no_place.Holds := by
  w_on; o_law; k_head; (case hw => w_witness2)
  k_fill
  refine My.walk (l := PySem.Challenge.rw_ropetree_k11_no_place) 94 144 rfl rfl (fun w h Y => PySem.W.km_in_of Y) (fun w h Y => PySem.W.km_tabs_of Y _ (by simp)) (fun w h Y => PySem.W.km_tabs_of Y _ (by simp)) (by decide) ?F
  case F =>
    intro w mg fa h KX G hmg
    refine' My.all_mk KX G hmg 94 144 ?a0 ?l0 ?c0 ?k0 ?a1 ?l1 ?c1 ?k1 ?a2 ?l2 ?c2 ?k2 ?a3 ?l3 ?c3 ?k3 ?a4 ?l4 ?c4 ?k4 ?a5 ?l5 ?c5 ?k5 ?t5 ?n5 ?a6 ?l6 ?c6 ?k6 ?a7 ?l7 ?c7 ?k7 ?a8 ?l8 ?c8 ?k8 ?a9 ?l9 ?c9 ?k9 ?a10 ?l10 ?c10 ?k10 ?a11 ?l11 ?c11 ?k11 ?a12 ?l12 ?c12 ?k12 ?a13 ?l13 ?c13 ?k13 ?t13 ?n13 ?a14 ?l14 ?c14 ?k14 ?a15 ?l15 ?c15 ?k15 ?a16 ?l16 ?c16 ?k16 ?a17 ?l17 ?c17 ?k17 ?a18 ?l18 ?c18 ?k18 ?a19 ?l19 ?c19 ?k19 ?a20 ?l20 ?c20 ?k20 ?a21 ?l21 ?c21 ?k21 ?a22 ?l22 ?c22 ?k22 ?a23 ?l23 ?c23 ?k23 ?a24 ?l24 ?c24 ?k24 ?a25 ?l25 ?c25 ?k25 ?a26 ?l26 ?c26 ?k26 ?a27 ?l27 ?c27 ?k27 ?g_RopeError ?g_NoPlace ?g_NoRope ?g_NoTree ?x_NoPlace ?x_NoRope ?x_NoTree ?y_NoPlace_RopeError ?y_NoRope_RopeError ?y_NoTree_RopeError ?i_NoTree_NoTree ?i_NoRope_NoTree ?i_NoPlace_NoTree ?i_NoRope_NoPlace ?i_NoPlace_NoPlace ?i_NoPlace_ValueError ?no_ga_NoRope ?no_hk_NoRope ?no_cl_NoRope ?no_gt_NoRope ?no_tk_NoRope ?no_mo_NoRope ?no_mb_NoRope ?no_cd_NoRope ?no_ga_NoPlace ?no_hk_NoPlace ?no_cl_NoPlace ?no_gt_NoPlace ?no_tk_NoPlace ?no_mo_NoPlace ?no_mb_NoPlace ?no_cd_NoPlace ?z_len ?z_list ?z_range ?z_isinstance ?z_int ?z_bool ?z_tuple ?z_max ?z_min ?z_all ?z_sorted ?z_sum ?z_str ?z_ValueError
    (case a0 => k_is)
    (case l0 => k_is)
    (case c0 => k_is)
    (case k0 => k_is)
    (case a1 => k_is)
    (case l1 => k_is)
    (case c1 => k_is)
    (case k1 => k_is)
    (case a2 => k_is)
    (case l2 => k_is)
    (case c2 => k_is)
    (case k2 => k_is)
    (case a3 => k_is)
    (case l3 => k_is)
    (case c3 => k_is)
    (case k3 => k_is)
    (case a4 => k_is)
    (case l4 => k_is)
    (case c4 => k_is)
    (case k4 => k_is)
    (case a5 => k_is)
    (case l5 => k_is)
    (case c5 => k_is)
    (case k5 => k_is)
    (case t5 => first | k_is | k_exc | kit_is | kernel_rfl)
    (case n5 => first | k_is | k_exc | kit_is | kernel_rfl)
    (case a6 => k_is)
    (case l6 => k_is)
    (case c6 => k_is)
    (case k6 => k_is)
    (case a7 => k_is)
    (case l7 => k_is)
    (case c7 => k_is)
    (case k7 => k_is)
    (case a8 => k_is)
    (case l8 => k_is)
    (case c8 => k_is)
    (case k8 => k_is)
    (case a9 => k_is)
    (case l9 => k_is)
    (case c9 => k_is)
    (case k9 => k_is)
    (case a10 => k_is)
    (case l10 => k_is)
    (case c10 => k_is)
    (case k10 => k_is)
    (case a11 => k_is)
    (case l11 => k_is)
    (case c11 => k_is)
    (case k11 => k_is)
    (case a12 => k_is)
    (case l12 => k_is)
    (case c12 => k_is)
    (case k12 => k_is)
    (case a13 => k_is)
    (case l13 => k_is)
    (case c13 => k_is)
    (case k13 => k_is)
    (case t13 => first | k_is | k_exc | kit_is | kernel_rfl)
    (case n13 => first | k_is | k_exc | kit_is | kernel_rfl)
    (case a14 => k_is)
    (case l14 => k_is)
    (case c14 => k_is)
    (case k14 => k_is)
    (case a15 => k_is)
    (case l15 => k_is)
    (case c15 => k_is)
    (case k15 => k_is)
    (case a16 => k_is)
    (case l16 => k_is)
    (case c16 => k_is)
    (case k16 => k_is)
    (case a17 => k_is)
    (case l17 => k_is)
    (case c17 => k_is)
    (case k17 => k_is)
    (case a18 => k_is)
    (case l18 => k_is)
    (case c18 => k_is)
    (case k18 => k_is)
    (case a19 => k_is)
    (case l19 => k_is)
    (case c19 => k_is)
    (case k19 => k_is)
    (case a20 => k_is)
    (case l20 => k_is)
    (case c20 => k_is)
    (case k20 => k_is)
    (case a21 => k_is)
    (case l21 => k_is)
    (case c21 => k_is)
    (case k21 => k_is)
    (case a22 => k_is)
    (case l22 => k_is)
    (case c22 => k_is)
    (case k22 => k_is)
    (case a23 => k_is)
    (case l23 => k_is)
    (case c23 => k_is)
    (case k23 => k_is)
    (case a24 => k_is)
    (case l24 => k_is)
    (case c24 => k_is)
    (case k24 => k_is)
    (case a25 => k_is)
    (case l25 => k_is)
    (case c25 => k_is)
    (case k25 => k_is)
    (case a26 => k_is)
    (case l26 => k_is)
    (case c26 => k_is)
    (case k26 => k_is)
    (case a27 => k_is)
    (case l27 => k_is)
    (case c27 => k_is)
    (case k27 => k_is)
    (case g_RopeError => k_is)
    (case g_NoPlace => k_is)
    (case g_NoRope => k_is)
    (case g_NoTree => k_is)
    (case x_NoPlace => first | k_is | k_exc | kit_is | kernel_rfl)
    (case x_NoRope => first | k_is | k_exc | kit_is | kernel_rfl)
    (case x_NoTree => first | k_is | k_exc | kit_is | kernel_rfl)
    (case y_NoPlace_RopeError => first | k_is | k_exc | kit_is | kernel_rfl)
    (case y_NoRope_RopeError => first | k_is | k_exc | kit_is | kernel_rfl)
    (case y_NoTree_RopeError => first | k_is | k_exc | kit_is | kernel_rfl)
    (case i_NoTree_NoTree => first | k_is | k_exc | kit_is | kernel_rfl)
    (case i_NoRope_NoTree => first | k_is | k_exc | kit_is | kernel_rfl)
    (case i_NoPlace_NoTree => first | k_is | k_exc | kit_is | kernel_rfl)
    (case i_NoRope_NoPlace => first | k_is | k_exc | kit_is | kernel_rfl)
    (case i_NoPlace_NoPlace => first | k_is | k_exc | kit_is | kernel_rfl)
    (case i_NoPlace_ValueError => first | k_is | k_exc | kit_is | kernel_rfl)
    (case no_ga_NoRope => first | k_is | k_exc | kit_is | kernel_rfl)
    (case no_hk_NoRope => first | k_is | k_exc | kit_is | kernel_rfl)
    (case no_cl_NoRope => first | k_is | k_exc | kit_is | kernel_rfl)
    (case no_gt_NoRope => first | k_is | k_exc | kit_is | kernel_rfl)
    (case no_tk_NoRope => first | k_is | k_exc | kit_is | kernel_rfl)
    (case no_mo_NoRope => first | k_is | k_exc | kit_is | kernel_rfl)
    (case no_mb_NoRope => first | k_is | k_exc | kit_is | kernel_rfl)
    (case no_cd_NoRope => first | k_is | k_exc | kit_is | kernel_rfl)
    (case no_ga_NoPlace => first | k_is | k_exc | kit_is | kernel_rfl)
    (case no_hk_NoPlace => first | k_is | k_exc | kit_is | kernel_rfl)
    (case no_cl_NoPlace => first | k_is | k_exc | kit_is | kernel_rfl)
    (case no_gt_NoPlace => first | k_is | k_exc | kit_is | kernel_rfl)
    (case no_tk_NoPlace => first | k_is | k_exc | kit_is | kernel_rfl)
    (case no_mo_NoPlace => first | k_is | k_exc | kit_is | kernel_rfl)
    (case no_mb_NoPlace => first | k_is | k_exc | kit_is | kernel_rfl)
    (case no_cd_NoPlace => first | k_is | k_exc | kit_is | kernel_rfl)
    (case z_len => k_is)
    (case z_list => k_is)
    (case z_range => k_is)
    (case z_isinstance => k_is)
    (case z_int => k_is)
    (case z_bool => k_is)
    (case z_tuple => k_is)
    (case z_max => k_is)
    (case z_min => k_is)
    (case z_all => k_is)
    (case z_sorted => k_is)
    (case z_sum => k_is)
    (case z_str => k_is)
    (case z_ValueError => k_is)


