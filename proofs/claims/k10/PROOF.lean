import PyProof.Rows.All
import Wide.All
import OpenK.AllK
import Wide.FinOn
import Lean
import PyProof.EqAt
import PyProof.EqKinds
import PyProof.TupleCall
import PySem.Challenge.RW_ropetree_k10_whole_a_day
set_option Elab.async false
set_option linter.all false
set_option maxRecDepth 100000
set_option maxHeartbeats 4000000
set_option maxRecDepth 100000
namespace L2
open PySem PySem.Spec PyProof.Rows
noncomputable abbrev Key := Sum Int Str
noncomputable def keyIs : Key → Value → Bool
  | .inl k, v => Value.isInt k v
  | .inr x, v => Value.isStrOf x v
noncomputable def keyH (w : World) : Key → Int
  | .inl k => hashInt k
  | .inr x => hashStr w x
theorem keyIs_shape : ∀ {k : Key} {v : Value}, keyIs k v = true → (∃ i t, k = Sum.inl i ∧ v = Value.int i t) ∨ (∃ x t, k = Sum.inr x ∧ v = Value.str x t)
  | .inl i, v, h => by
    obtain ⟨t, e⟩ := Value.isInt_shape (k := i) (v := v) h
    exact .inl ⟨i, t, rfl, e⟩
  | .inr x, v, h => by
    obtain ⟨t, e⟩ := Value.isStrOf_shape (x := x) (v := v) h
    exact .inr ⟨x, t, rfl, e⟩
theorem key_ll (a b : Int) : decide ((Sum.inl a : Key) = Sum.inl b) = (a == b) := by
  by_cases e : a = b
  · subst e; simp
  · have h : ¬ (Sum.inl a : Key) = Sum.inl b := fun q => e (Sum.inl.inj q)
    rw [decide_eq_false h]
    exact (beq_eq_false_iff_ne.mpr e).symm
theorem key_rr (a b : Str) : decide ((Sum.inr a : Key) = Sum.inr b) = decide (a = b) := by
  by_cases e : a = b
  · subst e; simp
  · have h : ¬ (Sum.inr a : Key) = Sum.inr b := fun q => e (Sum.inr.inj q)
    rw [decide_eq_false h, decide_eq_false e]
theorem key_lr (a : Int) (b : Str) : decide ((Sum.inl a : Key) = Sum.inr b) = false := decide_eq_false (fun q => nomatch q)
theorem key_rl (a : Str) (b : Int) : decide ((Sum.inr a : Key) = Sum.inl b) = false := decide_eq_false (fun q => nomatch q)
noncomputable def mixKind (prog : Program) (w : World) : PySem.KeyKind prog w Key where
  is := keyIs
  hash := keyH w
  inj := fun v a b ha hb => by
    rcases keyIs_shape ha with ⟨i, t, rfl, rfl⟩ | ⟨x, t, rfl, rfl⟩
    · rcases keyIs_shape hb with ⟨j, u, rfl, e⟩ | ⟨y, u, rfl, e⟩
      · injection e with e1 _; rw [e1]
      · exact nomatch e
    · rcases keyIs_shape hb with ⟨j, u, rfl, e⟩ | ⟨y, u, rfl, e⟩
      · exact nomatch e
      · injection e with e1 _; rw [e1]
  byValue := fun k v h => by
    rcases keyIs_shape h with ⟨i, t, rfl, rfl⟩ | ⟨x, t, rfl, rfl⟩ <;> rfl
  pyHash := fun hv h => by
    rcases keyIs_shape hv with ⟨i, t, rfl, rfl⟩ | ⟨x, t, rfl, rfl⟩
    · exact wpAny_pyHash_int h
    · exact wpAny_pyHash_str h
  eqBool := fun hu hv h => by
    rcases keyIs_shape hu with ⟨i, t, rfl, rfl⟩ | ⟨x, t, rfl, rfl⟩
    · rcases keyIs_shape hv with ⟨j, u, rfl, rfl⟩ | ⟨y, u, rfl, rfl⟩
      · rw [key_ll] at h; exact wpAny_eqBool_int h
      · rw [key_lr] at h; exact SeqAt.EqAt.int_str i t y u _ _ _ _ h
    · rcases keyIs_shape hv with ⟨j, u, rfl, rfl⟩ | ⟨y, u, rfl, rfl⟩
      · rw [key_rl] at h; exact SeqAt.EqAt.str_int x t j u _ _ _ _ h
      · rw [key_rr] at h; exact wpAny_eqBool_str h
  «strs» := fun k x t v h => by
    rcases keyIs_shape h with ⟨i, u, rfl, e⟩ | ⟨y, u, rfl, e⟩
    · exact nomatch e
    · injection e with e1 _
      subst e1
      cases v <;> rfl
end L2
namespace L2
open PySem PySem.Spec PyProof.Rows
inductive V where
  | non | bl (b : Bool) | int (i : Int) | str (x : Str) | byt (b : Array UInt8) | flt (b : UInt64) | ref (a : Addr) | ty (n : String)
  deriving DecidableEq
noncomputable def RelV : V → Value → Prop
  | .non, u => u = Value.none
  | .bl b, u => u = Value.bool b
  | .int i, u => ∃ t, u = Value.int i t
  | .str x, u => ∃ t, u = Value.str x t
  | .byt b, u => ∃ t, u = Value.bytes b t
  | .flt b, u => ∃ t, u = Value.float b t
  | .ref a, u => u = Value.ref a
  | .ty n, u => u = Value.type n
noncomputable abbrev Vals : List V → List Value → Prop := Paired RelV
theorem Vals.length {xs : List V} {us : List Value} (r : Vals xs us) : xs.length = us.length := Paired.length r
theorem Vals.get : ∀ {xs : List V} {us : List Value} {i : Nat} {x : V}, Vals xs us → xs[i]? = some x → ∃ u, us[i]? = some u ∧ RelV x u
  | _, _, _, _, .nil, e => by simp at e
  | _, _, 0, _, .cons r _, e => by simp at e; subst e; exact ⟨_, rfl, r⟩
  | _, _, i + 1, x, .cons _ t, e => by
    obtain ⟨u, h1, h2⟩ := Vals.get (i := i) (x := x) t (by simpa using e)
    exact ⟨u, by simpa using h1, h2⟩
theorem Vals.set {x : V} {u : Value} (r : RelV x u) : ∀ {xs : List V} {us : List Value} (i : Nat), Vals xs us → Vals (xs.set i x) (us.set i u)
  | _, _, _, .nil => .nil
  | _, _, 0, .cons _ t => .cons r t
  | _, _, i + 1, .cons q t => .cons q (Vals.set r i t)
theorem Vals.append : ∀ {xs ys : List V} {us ws : List Value}, Vals xs us → Vals ys ws → Vals (xs ++ ys) (us ++ ws)
  | _, _, _, _, .nil, s => s
  | _, _, _, _, .cons r t, s => .cons r (Vals.append t s)
theorem Vals.take : ∀ {xs : List V} {us : List Value} (n : Nat), Vals xs us → Vals (xs.take n) (us.take n)
  | _, _, 0, _ => .nil
  | _, _, _ + 1, .nil => .nil
  | _, _, n + 1, .cons r t => .cons r (Vals.take n t)
theorem Vals.drop : ∀ {xs : List V} {us : List Value} (n : Nat), Vals xs us → Vals (xs.drop n) (us.drop n)
  | _, _, 0, r => r
  | _, _, _ + 1, .nil => .nil
  | _, _, n + 1, .cons _ t => Vals.drop n t
noncomputable def RelO : Option V → Option Value → Prop
  | some v, some u => RelV v u
  | none, none => True
  | _, _ => False
noncomputable def KV {κ : Type} : List (κ × V) → List (κ × Value) → Prop := Paired fun (p : κ × V) (q : κ × Value) => p.1 = q.1 ∧ RelV p.2 q.2
noncomputable def kV : Key → V
  | .inl i => .int i
  | .inr x => .str x
inductive HO where
  | lst (xs : List V)
  | tup (xs : List V)
  | dK (kvs : List (Key × V)) | dT (kvs : List (List Key × V))
  | set (S : Int → Bool) (n : Nat)
  | ins (C dx : Addr) (fs : List (Str × V))
  | own (x : Addr)
  | xd (fs : List (Str × V))
  | met (f x : Addr)
  | rng (lo hi : Int)
  | frz (o : Obj) (u : HO)
  | tbl (ps : Array Value)
  | cod (q : Str) | ctab (q : Str)
  | ext (φ : Heap → Prop)
noncomputable abbrev Hp := Addr → Option HO
noncomputable def upd (H : Hp) (a : Addr) (o : HO) : Hp := fun b => if b = a then some o else H b
theorem upd_same {H : Hp} {a : Addr} {o : HO} : upd H a o a = some o := by unfold upd; rw [if_pos rfl]
theorem upd_ne {H : Hp} {a b : Addr} {o : HO} (h : b ≠ a) : upd H a o b = H b := by unfold upd; rw [if_neg h]
theorem upd_upd {H : Hp} {a : Addr} {o u : HO} : upd (upd H a o) a u = upd H a u := by
  funext b; unfold upd; split <;> rfl
theorem ne_of {H : Hp} {a b : Addr} {o u : HO} (h : H a = some o) (h' : H b = some u) (d : o ≠ u) : a ≠ b := by
  intro e; subst e; rw [h] at h'; exact d (Option.some.inj h')
theorem ne_of_none {H : Hp} {a b : Addr} {o : HO} (h : H a = some o) (h' : H b = none) : a ≠ b := by
  intro e; subst e; rw [h] at h'; cases h'
section
variable (P : Program) (w : World)
noncomputable def ObjOk (H : Hp) (h : Heap) (a : Addr) : HO → Prop
  | .lst xs => xs.length ≤ sizeLine ∧ ∃ (its : List Value) (n : Nat), Vals xs its ∧ h.get? a = some { cls := .type "list", data := .seq its.toArray n }
  | .tup xs => xs.length ≤ sizeLine ∧ ∃ its : List Value, Vals xs its ∧ IsTup h a its.toArray
  | .dK kvs => kvs.length ≤ sizeLine ∧ (a == sysModules) = false ∧ ∃ vs, KV kvs vs ∧ h.DictOf (mixKind P w) a vs
  | .dT kvs => kvs.length ≤ sizeLine ∧ (a == sysModules) = false ∧ ∃ xs : List (List Key × Addr × Value),
      Paired (fun (p : List Key × V) (q : List Key × Addr × Value) => p.1 = q.1 ∧ H q.2.1 = some (.tup (p.1.map kV)) ∧ RelV p.2 q.2.2) kvs xs ∧
      ∃ o es ep, h.get? a = some o ∧ o.ExactDict ∧ o.data = .dict es ep ∧ es.toList = xs.map (entryOfKey (tupleKind (mixKind P w))) ∧ (xs.map (·.1)).Nodup
  | .set S n => h.SetOf (intKind P w) a S n
  | .ins C dx fs => H dx = some (.own a) ∧ fs.length ≤ 1000 ∧ dx ≠ a ∧ h.get? a = some (PySem.W.instObj C dx) ∧
      ∃ mA, h.Ns1 dx mA ∧ (∀ f, RelO (fs.lookup f) (mA f)) ∧ PySem.Within mA (fs.map (·.1))
  | .own _ => ∃ o, h.get? a = some o
  | .xd fs => ∃ mA, h.Ns1 a mA ∧ ∀ f, RelO (fs.lookup f) (mA f)
  | .rng lo hi => ∃ t u v, h.get? a = some { cls := .type "range", data := .fields #[.int lo t, .int hi u, .int 1 v] }
  | .frz o u => h.get? a = some o ∧ ObjOk H h a u
  | .tbl ps => h.get? a = some { cls := .none, data := .fields ps }
  | .cod q => h.CodeRec (.ref a) q
  | .ctab q => ∃ ps, h.get? a = some (PySem.W.tabObj ps) ∧ TriplesOk ps.toList ∧ ∀ pos v, codeAmong pos ps.toList = some v → ∃ c', v = .ref c' ∧ H c' = some (.cod q)
  | .met f x => h.get? a = some (PySem.W.methodObj (.ref f) (.ref x))
  | .ext φ => φ h ∧ (∃ o, h.get? a = some o) ∧ ∀ h1 h2 : Heap, φ h1 → (∀ o, h1.get? a = some o → h2.get? a = some o) → φ h2
noncomputable def HOk (H : Hp) (h : Heap) : Prop := ∀ a o, H a = some o → ObjOk P w H h a o
end
section
variable {P : Program} {w : World} {H H' : Hp} {h h' : Heap} {a : Addr} {o : HO}
theorem ObjOk.lt (x : ObjOk P w H h a o) : a < h.objs.size := by
  cases o with
  | lst xs => obtain ⟨_, _, _, _, e⟩ := x; exact Heap.lt_size e
  | tup xs => obtain ⟨_, _, _, p⟩ := x; exact p.lt
  | dK kvs => obtain ⟨_, _, _, _, o, _, _, e, _⟩ := x; exact Heap.lt_size e
  | dT kvs => obtain ⟨_, _, _, _, o, _, _, e, _⟩ := x; exact Heap.lt_size e
  | set S n => obtain ⟨o, _, _, _, e, _⟩ := x; exact Heap.lt_size e
  | ins C dx fs => obtain ⟨_, _, _, e, _⟩ := x; exact Heap.lt_size e
  | own y => obtain ⟨_, e⟩ := x; exact Heap.lt_size e
  | xd fs => obtain ⟨_, ⟨_, _, _, e, _⟩, _⟩ := x; exact Heap.lt_size e
  | rng lo hi => obtain ⟨_, _, _, e⟩ := x; exact Heap.lt_size e
  | frz ob u => obtain ⟨e, _⟩ := x; exact Heap.lt_size e
  | tbl ps => exact Heap.lt_size (show h.get? a = some _ from x)
  | cod q => obtain ⟨_, _, _, _, e, g, _⟩ := x; cases e; exact Heap.lt_size g
  | ctab q => obtain ⟨_, e, _⟩ := x; exact Heap.lt_size e
  | met f y => exact Heap.lt_size (show h.get? a = some _ from x)
  | ext φ => obtain ⟨_, ⟨_, e⟩, _⟩ := x; exact Heap.lt_size e
theorem Paired.mapP {α β : Type} {F G : α → β → Prop} : ∀ {l₁ : List α} {l₂ : List β}, Paired F l₁ l₂ → (∀ a b, F a b → G a b) → Paired G l₁ l₂
  | _, _, .nil, _ => .nil
  | _, _, .cons r t, f => .cons (f _ _ r) (Paired.mapP t f)
theorem ObjOk.stay (x : ObjOk P w H h a o) (k : ∀ b u, (b = a ∨ H b = some (.own a)) → h.get? b = some u → h'.get? b = some u)
    (ho : ∀ b, H b = some (.own a) → H' b = some (.own a)) (ht : ∀ b xs, H b = some (.tup xs) → H' b = some (.tup xs)) (hc : ∀ b q, H b = some (.cod q) → H' b = some (.cod q)) : ObjOk P w H' h' a o := by
  induction o with
  | lst xs => obtain ⟨z, its, n, r, e⟩ := x; exact ⟨z, its, n, r, k _ _ (.inl rfl) e⟩
  | tup xs => obtain ⟨z, its, r, ob, e, c⟩ := x; exact ⟨z, its, r, ob, k _ _ (.inl rfl) e, c⟩
  | dK kvs => obtain ⟨z, y, vs, r, ob, es, ep, e, c⟩ := x; exact ⟨z, y, vs, r, ob, es, ep, k _ _ (.inl rfl) e, c⟩
  | dT kvs =>
    obtain ⟨z, y, xs, r, ob, es, ep, e, c⟩ := x
    exact ⟨z, y, xs, Paired.mapP r fun p q z => ⟨z.1, ht _ _ z.2.1, z.2.2⟩, ob, es, ep, k _ _ (.inl rfl) e, c⟩
  | set S n => obtain ⟨ob, es, ep, t, e, c⟩ := x; exact ⟨ob, es, ep, t, k _ _ (.inl rfl) e, c⟩
  | ins C dx fs =>
    obtain ⟨d, z, ne, e, mA, ⟨od, es, ep, e2, c⟩, r⟩ := x
    exact ⟨ho _ d, z, ne, k _ _ (.inl rfl) e, mA, ⟨od, es, ep, k _ _ (.inr d) e2, c⟩, r⟩
  | own y => obtain ⟨ob, e⟩ := x; exact ⟨ob, k _ _ (.inl rfl) e⟩
  | xd fs => obtain ⟨mA, ⟨od, es, ep, e, c⟩, r⟩ := x; exact ⟨mA, ⟨od, es, ep, k _ _ (.inl rfl) e, c⟩, r⟩
  | rng lo hi => obtain ⟨t, u, v, e⟩ := x; exact ⟨t, u, v, k _ _ (.inl rfl) e⟩
  | frz ob u ih => obtain ⟨e, q⟩ := x; exact ⟨k _ _ (.inl rfl) e, ih q⟩
  | cod q => obtain ⟨c, ob, vs, t, e, g, r⟩ := x; cases e; exact ⟨_, ob, vs, t, rfl, k _ _ (.inl rfl) g, r⟩
  | ctab q => obtain ⟨ps, e, t, r⟩ := x; exact ⟨ps, k _ _ (.inl rfl) e, t, fun pos v z => let ⟨c', e1, e2⟩ := r pos v z; ⟨c', e1, hc _ _ e2⟩⟩
  | tbl ps =>
    have e : h.get? a = some { cls := .none, data := .fields ps } := x
    show h'.get? a = some { cls := .none, data := .fields ps }
    exact k a _ (.inl rfl) e
  | met f y =>
    have e : h.get? a = some (PySem.W.methodObj (.ref f) (.ref y)) := x
    show h'.get? a = some (PySem.W.methodObj (.ref f) (.ref y))
    exact k a _ (.inl rfl) e
  | ext φ => obtain ⟨p, ⟨o, e⟩, st⟩ := x; exact ⟨st _ _ p fun o q => k _ _ (.inl rfl) q, ⟨o, k _ _ (.inl rfl) e⟩, st⟩
theorem HOk.lt (x : HOk P w H h) (e : H a = some o) : a < h.objs.size := (x a o e).lt
theorem HOk.fresh (x : HOk P w H h) (e : h.objs.size ≤ a) : H a = none := by
  cases q : H a with
  | none => rfl
  | some u => exact absurd (Nat.lt_of_lt_of_le (x.lt q) e) (Nat.lt_irrefl _)
theorem HOk.kept (x : HOk P w H h) (k : ∀ b u, h.get? b = some u → h'.get? b = some u) : HOk P w H h' := fun a o e =>
  (x a o e).stay (fun b u _ q => k b u q) (fun _ q => q) (fun _ _ q => q) fun _ _ q => q
theorem HOk.laid (x : HOk P w H h) (k : ∀ b u, h.get? b = some u → h'.get? b = some u) (hp : h.objs.size ≤ a) (new : ObjOk P w (upd H a o) h' a o) : HOk P w (upd H a o) h' := fun b u e => by
  have hn := x.fresh hp
  by_cases hb : b = a
  · subst hb; rw [upd_same] at e; cases e; exact new
  · rw [upd_ne hb] at e
    exact (x b u e).stay (fun c v _ q => k c v q) (fun c q => by rw [upd_ne (ne_of_none q hn)]; exact q) (fun c xs q => by rw [upd_ne (ne_of_none q hn)]; exact q) fun c xs q => by rw [upd_ne (ne_of_none q hn)]; exact q
end
noncomputable def Rd (H : Hp) (a : Addr) (u : HO) : Prop := H a = some u ∨ ∃ o, H a = some (.frz o u)
theorem Rd.ok {P : Program} {w : World} {H : Hp} {h : Heap} {a : Addr} {u : HO} (r : Rd H a u) (x : HOk P w H h) : ObjOk P w H h a u := by
  rcases r with r | ⟨o, r⟩
  · exact x a u r
  · obtain ⟨_, q⟩ := x a _ r
    exact q
noncomputable def Mut : Option HO → Prop
  | some (.lst _) => True
  | some (.dK _) => True
  | some (.dT _) => True
  | some (.set _ _) => True
  | some (.ins _ _ _) => True
  | some (.ext _) => True
  | _ => False
section
variable {P : Program} {w : World} {H : Hp} {h h' : Heap} {x e : Addr} {o' : HO}
theorem HOk.write (ok : HOk P w H h) (mu : Mut (H x)) (he : e = x ∨ H e = some (.own x)) (k : ∀ b u, b ≠ e → h.get? b = some u → h'.get? b = some u) (heo : ∃ u, h'.get? e = some u)
    (new : ObjOk P w (upd H x o') h' x o') : HOk P w (upd H x o') h' := fun b u q => by
  have nown : ∀ c y, H c = some (.own y) → c ≠ x := fun c y r z => by subst z; rw [r] at mu; exact mu
  have ntup : ∀ c xs, H c = some (.tup xs) → c ≠ x := fun c xs r z => by subst z; rw [r] at mu; exact mu
  have ncod : ∀ c q, H c = some (.cod q) → c ≠ x := fun c q r z => by subst z; rw [r] at mu; exact mu
  by_cases hb : b = x
  · subst hb; rw [upd_same] at q; cases q; exact new
  · rw [upd_ne hb] at q
    by_cases hbe : b = e
    · have q' : H b = some (.own x) := by
        rcases he with z | z
        · exact absurd (hbe.trans z) hb
        · rw [hbe]; exact z
      rw [q] at q'; cases q'
      obtain ⟨v, hv⟩ := heo
      exact ⟨v, by rw [hbe]; exact hv⟩
    · refine (ok b u q).stay (fun c v hc r => k c v ?_ r) (fun c r => by rw [upd_ne (nown c b r)]; exact r) (fun c xs r => by rw [upd_ne (ntup c xs r)]; exact r) fun c xs r => by rw [upd_ne (ncod c xs r)]; exact r
      rcases hc with rfl | hc
      · exact hbe
      · rintro rfl
        rcases he with z | z
        · exact nown c b hc z
        · rw [hc] at z; cases z; exact hb rfl
end
structure Un (fs ex : List Addr) (H H' : Hp) (h h' : Heap) : Prop where
  keep : ∀ b o, h.get? b = some o → H b = none → b ∉ fs → b ∉ ex → h'.get? b = some o
  slot : ∀ b o, h.get? b = some o → H b = none → b ∈ fs → b ∉ ex → ∃ sl, h'.get? b = some { o with slots := sl }
  free : ∀ b o, h.get? b = some o → H b = none → b ∉ ex → H' b = none
  there : ∀ b o, h.get? b = some o → b ∉ ex → ∃ o', h'.get? b = some o'
  tups : ∀ b xs, H b = some (.tup xs) → H' b = some (.tup xs)
  frzs : ∀ b o u, H b = some (.frz o u) → H' b = some (.frz o u)
  tbls : ∀ b ps, H b = some (.tbl ps) → ∃ more, H' b = some (.tbl (ps ++ more))
section
variable {fs fs' ex ex' : List Addr} {H H1 H2 : Hp} {h h1 h2 h' : Heap} {a x e : Addr} {o : HO}
theorem Un.any (u : Un fs ex H H1 h h1) {b : Addr} {ob : Obj} (q : h.get? b = some ob) (n : H b = none) (hx : b ∉ ex) : ∃ sl, h1.get? b = some { ob with slots := sl } := by
  by_cases hb : b ∈ fs
  · exact u.slot b ob q n hb hx
  · exact ⟨ob.slots, u.keep b ob q n hb hx⟩
theorem Un.kept (k : ∀ b u, h.get? b = some u → h'.get? b = some u) : Un fs ex H H h h' :=
  ⟨fun b ob q _ _ _ => k b ob q, fun b ob q _ _ _ => ⟨ob.slots, k b ob q⟩, fun _ _ _ n _ => n, fun b ob q _ => ⟨ob, k b ob q⟩, fun _ _ q => q, fun _ _ _ q => q, fun _ ps q => ⟨#[], by rw [q]; simp⟩⟩
theorem Un.refl : Un fs ex H H h h := Un.kept fun _ _ q => q
theorem Un.laid (k : ∀ b u, h.get? b = some u → h'.get? b = some u) (hp : h.objs.size ≤ a) (hn : H a = none) : Un fs ex H (upd H a o) h h' where
  keep := fun b u q _ _ _ => k b u q
  slot := fun b u q _ _ _ => ⟨u.slots, k b u q⟩
  free := fun b u q n _ => by rw [upd_ne (Nat.ne_of_lt (Nat.lt_of_lt_of_le (Heap.lt_size q) hp))]; exact n
  there := fun b u q _ => ⟨u, k b u q⟩
  tups := fun b xs q => by rw [upd_ne (ne_of_none q hn)]; exact q
  frzs := fun b u xs q => by rw [upd_ne (ne_of_none q hn)]; exact q
  tbls := fun b ps q => ⟨#[], by rw [upd_ne (ne_of_none q hn), q]; simp⟩
theorem Un.write (mu : Mut (H x)) (he : e = x ∨ H e = some (.own x)) (k : ∀ b u, b ≠ e → h.get? b = some u → h'.get? b = some u) (heo : ∃ u, h'.get? e = some u) : Un fs ex H (upd H x o) h h' := by
  have hx : ∀ b, H b = none → b ≠ x := fun b n z => by subst z; rw [n] at mu; exact mu
  have hb : ∀ b, H b = none → b ≠ e := fun b n z => by
    subst z
    rcases he with r | r
    · exact hx b n r
    · rw [n] at r; cases r
  have hm : ∀ b u, H b = some u → ¬ Mut (some u) → b ≠ x := fun b u q nm z => by subst z; rw [q] at mu; exact nm mu
  refine ⟨fun b u q n _ _ => k b u (hb b n) q, fun b u q n _ _ => ⟨u.slots, k b u (hb b n) q⟩, fun b u q n _ => by rw [upd_ne (hx b n)]; exact n, fun b u q _ => ?_,
    fun b xs q => by rw [upd_ne (hm b _ q fun z => z)]; exact q, fun b u xs q => by rw [upd_ne (hm b _ q fun z => z)]; exact q, fun b ps q => ⟨#[], by rw [upd_ne (hm b _ q fun z => z), q]; simp⟩⟩
  by_cases hbe : b = e
  · subst hbe; exact heo
  · exact ⟨u, k b u hbe q⟩
end
noncomputable def trk (h : Heap) (H : Hp) : List Addr := (List.range h.objs.size).filter fun a => (H a).isSome
noncomputable def hidT (h : Heap) (H : Hp) : Heap := PySem.W.hideAll h (trk h H)
theorem hidT_size (h : Heap) (H : Hp) : (hidT h H).objs.size = h.objs.size := PySem.W.hideAll_size _ _
theorem hidT_get {h : Heap} {H : Hp} {b : Addr} {o : Obj} (e : h.get? b = some o) (n : H b = none) : (hidT h H).get? b = some o :=
  PySem.W.hideAll_get _ e fun hm => by
    have q : (H b).isSome = true := (List.mem_filter.mp hm).2
    rw [n] at q; simp at q
theorem of_hidT {h : Heap} {H : Hp} {b : Addr} {o : Obj} (e : (hidT h H).get? b = some o) : h.get? b = some o ∧ H b = none := by
  have e' : h.get? b = some o := PySem.W.of_hideAll (trk h H) e
  refine ⟨e', ?_⟩
  cases q : H b with
  | none => rfl
  | some x =>
    have hm : b ∈ trk h H := List.mem_filter.mpr ⟨List.mem_range.mpr (Heap.lt_size e'), by simp [q]⟩
    have z : (hidT h H).get? b = none := PySem.W.hideAll_none (trk h H) hm
    rw [z] at e; cases e
noncomputable def allNews (g h : Heap) (L : Addr) : List (Addr × Obj) := (List.range h.objs.size).filterMap fun a => if a = L ∨ (g.get? a).isSome = true then none else (h.get? a).map fun o => (a, o)
noncomputable def rest (g h : Heap) (L d : Addr) : List (Addr × Obj) := (allNews g h L).filter fun p => decide (p.1 ≠ d)
end L2
namespace L2
open PySem PySem.Spec PyProof.Rows
structure Mod (K : PySem.W.Frag) (mg : Str → Option Value) (base : Heap) : Prop where
  kin : K.In base
  glob : base.Ns mainGlobals mg
  blt : ∃ mb, base.Ns builtinsNs mb ∧ ∀ x : Str, x ≠ "__name__" → mb x = bootBuiltins x
  nolimit : base.NoLimit
structure Cx where
  prog : Program
  w : World
  K : PySem.W.Frag
  mg : Str → Option Value
  base : Heap
  A : Around
  N : List Str
  s₀ : Shared
  H₀ : Hp
  env : Env
  outer : List Env
  stack : List Env
  ex : List Addr
  fn : Str → Bool
  calm : Bool
  pn : List (Addr × Obj)
  xe : Value → Shared → Prop
noncomputable def frs (l : List Env) : List Addr := l.filterMap (·.frame)
noncomputable abbrev Cx.fs (X : Cx) : List Addr := frs X.outer
noncomputable def Vis (sc : Scope) (x : Str) : Prop := sc.names.lookup x = some .local ∨ sc.names.lookup x = some .cell ∨ sc.names.lookup x = some .free
noncomputable def Loc (sc : Scope) (x : Str) : Prop := sc.names.lookup x = some .local ∨ sc.names.lookup x = some .cell
noncomputable def Look (env : Env) (h : Heap) (m : Str → Option Value) (x : Str) (u : Value) : Prop :=
  (env.kindOf x = some .local ∧ m x = some u) ∨ ((env.kindOf x = some .cell ∨ env.kindOf x = some .free) ∧ ∃ c, env.cells.lookup x = some c ∧ h.IsCell c (some u))
structure Cx.Ok (X : Cx) : Prop where
  mod : Mod X.K X.mg X.base
  kind : X.env.scope.kind = .function
  glob : X.env.globals = mainGlobals
  blt : X.env.builtins = builtinsNs
  above : X.s₀.heap.objs.size ≤ X.env.locals
  inj : ∀ x y c, X.env.cells.lookup x = some c → X.env.cells.lookup y = some c → x = y
  has : ∀ x, (X.env.kindOf x = some .cell ∨ X.env.kindOf x = some .free) → ∃ c, X.env.cells.lookup x = some c
  cab : ∀ x c, X.fn x = true → X.env.cells.lookup x = some c → X.s₀.heap.objs.size ≤ c
  hd : X.calm = true → X.A.handled = none
  frames : X.A.frames = some X.stack
  stk : X.stack = X.outer ∨ (X.stack = X.env :: X.outer ∧ X.env.frame = some X.env.locals)
  exf : ∀ b ∈ X.ex, b ≠ X.env.locals ∧ ∀ x c, X.env.cells.lookup x = some c → c ≠ b
  bs : ∀ b o, X.base.get? b = some o → X.s₀.heap.get? b = some o ∧ X.H₀ b = none
  bsz : X.base.objs.size ≤ X.s₀.heap.objs.size
  noex : ∀ b o, X.base.get? b = some o → b ∉ X.ex
  exfs : ∀ b ∈ X.ex, b ∉ X.fs
  funs : X.s₀.heap.FunFrames X.base X.outer
  frf : ∀ b ∈ X.fs, X.H₀ b = none
structure Inv (X : Cx) (pins : List (Addr × Obj)) (σ : List (Option V)) (H : Hp) (s : Shared) : Prop where
  ok : X.Ok
  os : s.os = X.s₀.os
  bare : AllBare s.gens
  base : Un X.fs X.ex X.H₀ H X.s₀.heap s.heap
  loc : ∃ m, s.heap.Ns X.env.locals m ∧ ∀ (i : Nat) (x : Str) (v : V), X.N[i]? = some x → σ[i]? = some (some v) → Vis X.env.scope x → ∃ u, RelV v u ∧ Look X.env s.heap m x u
  cell : ∀ x c, X.env.cells.lookup x = some c → ∃ v, s.heap.IsCell c v
  free : H X.env.locals = none
  freeC : ∀ x c, X.env.cells.lookup x = some c → H c = none
  pin : ∀ p ∈ X.pn ++ pins, s.heap.get? p.1 = some p.2 ∧ H p.1 = none ∧ p.1 ≠ X.env.locals ∧ p.1 ∉ X.fs ∧ ∀ v, p.2.data ≠ .cell v
  hok : HOk X.prog X.w H s.heap
  len : σ.length = X.N.length
section
variable {X : Cx} {pins : List (Addr × Obj)} {σ : List (Option V)} {H H' : Hp} {s : Shared} {h' : Heap}
theorem Cx.Ok.nofr (ok : X.Ok) {b : Addr} {o : Obj} (e : X.base.get? b = some o) : b ∉ X.fs := fun hb => by
  have := (ok.funs.mem hb).1
  rw [e] at this; cases this
theorem Inv.bs (I : Inv X pins σ H s) : ∀ b o, X.base.get? b = some o → s.heap.get? b = some o ∧ H b = none := fun b o e =>
  ⟨I.base.keep b o (I.ok.bs b o e).1 (I.ok.bs b o e).2 (I.ok.nofr e) (I.ok.noex b o e), I.base.free b o (I.ok.bs b o e).1 (I.ok.bs b o e).2 (I.ok.noex b o e)⟩
theorem Inv.bk (I : Inv X pins σ H s) : ∀ b o, X.base.get? b = some o → s.heap.get? b = some o := fun b o e => (I.bs b o e).1
theorem Inv.mod (I : Inv X pins σ H s) : Mod X.K X.mg X.base := I.ok.mod
theorem Inv.kIn (I : Inv X pins σ H s) : X.K.In s.heap := I.ok.mod.kin.keeps I.bk
theorem Inv.nolimit (I : Inv X pins σ H s) : s.heap.NoLimit := I.ok.mod.nolimit.keeps I.bk
theorem Inv.lt (I : Inv X pins σ H s) : X.env.locals < s.heap.objs.size := let ⟨_, hn, _⟩ := I.loc; hn.lt
theorem Inv.sz (I : Inv X pins σ H s) : X.s₀.heap.objs.size ≤ s.heap.objs.size := Nat.le_trans I.ok.above (Nat.le_of_lt I.lt)
theorem Inv.nofs (I : Inv X pins σ H s) {a : Addr} (h : s.heap.objs.size ≤ a) : a ∉ X.fs := fun hb => by
  obtain ⟨_, o, ho, _⟩ := I.ok.funs.mem hb
  exact absurd (Nat.lt_of_lt_of_le (Heap.lt_size ho) (Nat.le_trans I.sz h)) (Nat.lt_irrefl _)
theorem Inv.cne (I : Inv X pins σ H s) : ∀ x c, X.env.cells.lookup x = some c → c ≠ X.env.locals := fun x c e z => by
  obtain ⟨v, o, ho, hd⟩ := I.cell x c e
  obtain ⟨m, ⟨o', es, ep, ho', hd', _⟩, _⟩ := I.loc
  rw [z, ho'] at ho; cases ho; rw [hd'] at hd; cases hd
theorem Inv.funs (I : Inv X pins σ H s) : s.heap.FunFrames X.base X.outer := by
  have all : ∀ (l : List Env), (∀ b ∈ frs l, b ∈ X.fs) → X.s₀.heap.FunFrames X.base l → s.heap.FunFrames X.base l := by
    intro l
    induction l with
    | nil => intro _ _; trivial
    | cons env r ih =>
      intro hs hl
      obtain ⟨hk, ⟨L, o, hf, hn, ho, hd⟩, hr⟩ := hl
      have hL : L ∈ X.fs := hs L (by unfold frs; rw [List.filterMap_cons, hf]; exact List.mem_cons_self)
      obtain ⟨sl, e⟩ := I.base.slot L o ho (I.ok.frf L hL) hL fun z => I.ok.exfs L z hL
      exact ⟨hk, ⟨L, _, hf, hn, e, hd⟩, ih (fun b hb => hs b (by unfold frs; rw [List.filterMap_cons, hf]; exact List.mem_cons_of_mem _ hb)) hr⟩
  exact all X.outer (fun _ hb => hb) I.ok.funs
theorem Inv.stack (I : Inv X pins σ H s) : s.heap.FunFrames X.base X.stack := by
  rcases I.ok.stk with e | ⟨e, hf⟩
  · rw [e]; exact I.funs
  · rw [e]
    obtain ⟨m, hn, _⟩ := I.loc
    refine .cons (by rw [I.ok.kind]; decide) hf hn ?_ I.funs
    exact Heap.get?_none_of_le (Nat.le_trans I.ok.bsz I.ok.above)
theorem Inv.stkSub (I : Inv X pins σ H s) : ∀ b ∈ frs X.stack, b ∈ X.env.locals :: X.fs := fun b hb => by
  rcases I.ok.stk with e | ⟨e, hf⟩
  · rw [e] at hb; exact List.mem_cons_of_mem _ hb
  · rw [e] at hb
    unfold frs at hb
    rw [List.filterMap_cons, hf] at hb
    exact hb
theorem Inv.stkFree (I : Inv X pins σ H s) : ∀ b ∈ frs X.stack, H b = none := fun b hb => by
  rcases List.mem_cons.mp (I.stkSub b hb) with e | hb
  · rw [e]; exact I.free
  · obtain ⟨_, o, ho, _⟩ := I.ok.funs.mem hb
    exact I.base.free b o ho (I.ok.frf b hb) fun z => I.ok.exfs b z hb
theorem Inv.step {g' : Array GenState} {t' : Nat} {d' : Drawn} {ch : List Addr} (I : Inv X pins σ H s)
    (hch : ∀ b ∈ ch, (b ∈ X.ex ∨ X.s₀.heap.objs.size ≤ b) ∧ b ≠ X.env.locals ∧ (∀ x c, X.env.cells.lookup x = some c → c ≠ b) ∧ ∀ p ∈ X.pn ++ pins, p.1 ≠ b)
    (keep : ∀ b o, b ≠ X.env.locals → b ∉ X.fs → b ∉ ch → s.heap.get? b = some o → H b = none → h'.get? b = some o)
    (slot : ∀ b o, b ≠ X.env.locals → b ∈ X.fs → b ∉ ch → s.heap.get? b = some o → H b = none → ∃ sl, h'.get? b = some { o with slots := sl }) (free : ∀ b o, b ∉ ch → s.heap.get? b = some o → H b = none → H' b = none)
    (there : ∀ b o, b ∉ ch → s.heap.get? b = some o → ∃ o', h'.get? b = some o')
    (tups : ∀ b xs, H b = some (.tup xs) → H' b = some (.tup xs)) (frzs : ∀ b o u, H b = some (.frz o u) → H' b = some (.frz o u)) (tbls : ∀ b ps, H b = some (.tbl ps) → ∃ more, H' b = some (.tbl (ps ++ more)))
    (ns : ∀ m, s.heap.Ns X.env.locals m → h'.Ns X.env.locals m) (hok : HOk X.prog X.w H' h') (hg : AllBare g') :
    Inv X pins σ H' { s with heap := h', gens := g', drawn := d', toks := t' } := by
  have neL : ∀ b o, X.s₀.heap.get? b = some o → b ≠ X.env.locals := fun b o e => Nat.ne_of_lt (Nat.lt_of_lt_of_le (Heap.lt_size e) I.ok.above)
  have neC : ∀ b o, X.s₀.heap.get? b = some o → b ∉ X.ex → b ∉ ch := fun b o e hx hb => by
    rcases (hch b hb).1 with z | z
    · exact hx z
    · exact absurd (Nat.lt_of_lt_of_le (Heap.lt_size e) z) (Nat.lt_irrefl _)
  have cellK : ∀ x c, X.env.cells.lookup x = some c → ∀ v, s.heap.IsCell c v → h'.IsCell c v := fun x c e v ⟨o, ho, hd⟩ => by
    have nch : c ∉ ch := fun z => (hch c z).2.2.1 x c e rfl
    by_cases hc : c ∈ X.fs
    · obtain ⟨sl, q⟩ := slot c o (I.cne x c e) hc nch ho (I.freeC x c e)
      exact ⟨_, q, hd⟩
    · exact ⟨o, keep c o (I.cne x c e) hc nch ho (I.freeC x c e), hd⟩
  refine ⟨I.ok, I.os, hg, ⟨fun b o e n hb hx => ?_, fun b o e n hb hx => ?_, fun b o e n hx => ?_, fun b o e hx => ?_, fun b xs e => tups b xs (I.base.tups b xs e), fun b o xs e => frzs b o xs (I.base.frzs b o xs e), fun b ps e => ?_⟩, ?_, fun x c e => ?_, ?_, fun x c e => ?_, fun p hp => ?_, hok, I.len⟩
  · exact keep b o (neL b o e) hb (neC b o e hx) (I.base.keep b o e n hb hx) (I.base.free b o e n hx)
  · obtain ⟨sl, e1⟩ := I.base.slot b o e n hb hx
    obtain ⟨sl', e2⟩ := slot b _ (neL b o e) hb (neC b o e hx) e1 (I.base.free b o e n hx)
    exact ⟨sl', e2⟩
  · obtain ⟨o', e1⟩ := I.base.there b o e hx
    exact free b o' (neC b o e hx) e1 (I.base.free b o e n hx)
  · obtain ⟨o', e1⟩ := I.base.there b o e hx
    exact there b o' (neC b o e hx) e1
  · obtain ⟨m1, e1⟩ := I.base.tbls b ps e
    obtain ⟨m2, e2⟩ := tbls b _ e1
    exact ⟨m1 ++ m2, by rw [e2, Array.append_assoc]⟩
  · obtain ⟨m, hn, hl⟩ := I.loc
    refine ⟨m, ns m hn, fun i x v e1 e2 e3 => ?_⟩
    obtain ⟨u, r, l⟩ := hl i x v e1 e2 e3
    refine ⟨u, r, ?_⟩
    rcases l with l | ⟨k, c, e, z⟩
    · exact .inl l
    · exact .inr ⟨k, c, e, cellK x c e _ z⟩
  · obtain ⟨v, z⟩ := I.cell x c e
    exact ⟨v, cellK x c e v z⟩
  · obtain ⟨m, ⟨o, _, _, ho, _⟩, _⟩ := I.loc
    exact free _ o (fun z => (hch _ z).2.1 rfl) ho I.free
  · obtain ⟨v, o, ho, hd⟩ := I.cell x c e
    exact free c o (fun z => (hch c z).2.2.1 x c e rfl) ho (I.freeC x c e)
  · obtain ⟨e, n, ne, nf, d⟩ := I.pin p hp
    have nch : p.1 ∉ ch := fun z => (hch p.1 z).2.2.2 p hp rfl
    exact ⟨keep p.1 p.2 ne nf nch e n, free p.1 p.2 nch e n, ne, nf, d⟩
theorem Inv.un {t' : Nat} (I : Inv X pins σ H s) (u : Un X.fs [] H H' s.heap h') (hok : HOk X.prog X.w H' h') : Inv X pins σ H' { s with heap := h', toks := t' } := by
  obtain ⟨m, ⟨o, es, ep, ho, r⟩, _⟩ := id I.loc
  obtain ⟨sl, hL⟩ := u.any ho I.free (by simp)
  exact I.step (g' := s.gens) (d' := s.drawn) (ch := []) (fun _ z => nomatch z) (fun b o _ hb _ e n => u.keep b o e n hb (by simp)) (fun b o _ hb _ e n => u.slot b o e n hb (by simp)) (fun b o _ e n => u.free b o e n (by simp)) (fun b o _ e => u.there b o e (by simp)) u.tups u.frzs u.tbls (fun m' hm => by
    obtain ⟨o', es', ep', ho', r'⟩ := hm
    rw [ho] at ho'; cases ho'
    exact ⟨_, es', ep', hL, r'⟩) hok I.bare
theorem Inv.call {g' : Array GenState} {t' : Nat} {d' : Drawn} {ch : List Addr} (I : Inv X pins σ H s) (u : Un (frs X.stack) ch H H' s.heap h') (hok : HOk X.prog X.w H' h') (hg : AllBare g')
    (hch : ∀ b ∈ ch, (b ∈ X.ex ∨ X.s₀.heap.objs.size ≤ b) ∧ b ≠ X.env.locals ∧ (∀ x c, X.env.cells.lookup x = some c → c ≠ b) ∧ ∀ p ∈ X.pn ++ pins, p.1 ≠ b) :
    Inv X pins σ H' { s with heap := h', gens := g', drawn := d', toks := t' } := by
  obtain ⟨m, ⟨o, es, ep, ho, r⟩, _⟩ := id I.loc
  obtain ⟨sl, hL⟩ := u.any ho I.free fun z => (hch _ z).2.1 rfl
  exact I.step (ch := ch) hch (fun b o hL hb hc e n => u.keep b o e n (fun z => (List.mem_cons.mp (I.stkSub b z)).elim hL hb) hc) (fun b o _ _ hc e n => u.any e n hc) (fun b o hc e n => u.free b o e n hc) (fun b o hc e => u.there b o e hc) u.tups u.frzs u.tbls (fun m' hm => by
    obtain ⟨o', es', ep', ho', r'⟩ := hm
    rw [ho] at ho'; cases ho'
    exact ⟨_, es', ep', hL, r'⟩) hok hg
theorem Inv.turned {t' : Nat} {it : Addr} (I : Inv X pins σ H s) (k : ∀ b o, b ≠ it → s.heap.get? b = some o → h'.get? b = some o) (hn : H it = none) (hL : it ≠ X.env.locals)
    (h1 : it ∈ X.ex ∨ X.s₀.heap.objs.size ≤ it) (h2 : ∀ x c, X.env.cells.lookup x = some c → c ≠ it) (h3 : ∀ p ∈ X.pn ++ pins, p.1 ≠ it) : Inv X pins σ H { s with heap := h', toks := t' } := by
  have nit : ∀ b u, H b = some u → b ≠ it := fun b u e z => by rw [z, hn] at e; cases e
  refine I.step (g' := s.gens) (d' := s.drawn) (ch := [it]) (fun b hb => ?_) (fun b o _ _ hc e _ => k b o (fun z => hc (by simp [z])) e) (fun b o _ _ hc e _ => ⟨o.slots, k b o (fun z => hc (by simp [z])) e⟩) (fun _ _ _ _ n => n)
    (fun b o hc e => ⟨o, k b o (fun z => hc (by simp [z])) e⟩) (fun _ _ e => e) (fun _ _ _ e => e) (fun b ps e => ⟨#[], by rw [e]; simp⟩) (fun m hm => ?_) (fun b u e => ?_) I.bare
  · have e : b = it := by simpa using hb
    subst e
    exact ⟨h1, hL, h2, h3⟩
  · obtain ⟨o, es, ep, ho, r⟩ := hm
    exact ⟨o, es, ep, k _ o (Ne.symm hL) ho, r⟩
  · refine (I.hok b u e).stay (fun c v hc q => k c v ?_ q) (fun _ q => q) (fun _ _ q => q) fun _ _ q => q
    rcases hc with z | z
    · rw [z]; exact nit b u e
    · exact nit c _ z
theorem Inv.tok (I : Inv X pins σ H s) (t : Nat) : Inv X pins σ H { s with toks := t } := I.un (h' := s.heap) (t' := t) Un.refl I.hok
theorem Inv.kept {t' : Nat} (I : Inv X pins σ H s) (k : ∀ b u, s.heap.get? b = some u → h'.get? b = some u) : Inv X pins σ H { s with heap := h', toks := t' } := I.un (Un.kept k) (I.hok.kept k)
theorem Inv.laid {a : Addr} {o : HO} {t' : Nat} (I : Inv X pins σ H s) (k : ∀ b u, s.heap.get? b = some u → h'.get? b = some u) (hp : s.heap.objs.size ≤ a) (new : ObjOk X.prog X.w (upd H a o) h' a o) :
    Inv X pins σ (upd H a o) { s with heap := h', toks := t' } := I.un (Un.laid k hp (I.hok.fresh hp)) (I.hok.laid k hp new)
theorem Inv.write {x e : Addr} {o : HO} {t' : Nat} (I : Inv X pins σ H s) (mu : Mut (H x)) (he : e = x ∨ H e = some (.own x)) (k : ∀ b u, b ≠ e → s.heap.get? b = some u → h'.get? b = some u) (heo : ∃ u, h'.get? e = some u)
    (new : ObjOk X.prog X.w (upd H x o) h' x o) : Inv X pins σ (upd H x o) { s with heap := h', toks := t' } := I.un (Un.write mu he k heo) (I.hok.write mu he k heo new)
theorem Inv.pins_of {pins' : List (Addr × Obj)} (I : Inv X pins σ H s) (h : ∀ p ∈ pins', s.heap.get? p.1 = some p.2 ∧ H p.1 = none ∧ p.1 ≠ X.env.locals ∧ p.1 ∉ X.fs ∧ ∀ v, p.2.data ≠ .cell v) : Inv X pins' σ H s :=
  ⟨I.ok, I.os, I.bare, I.base, I.loc, I.cell, I.free, I.freeC, fun p hp => (List.mem_append.mp hp).elim (fun z => I.pin p (List.mem_append_left _ z)) (h p), I.hok, I.len⟩
theorem nodup_ix {N : List Str} (hN : N.Nodup) {i j : Nat} {x : Str} (a : N[i]? = some x) (b : N[j]? = some x) : i = j := by
  obtain ⟨h1, e1⟩ := List.getElem?_eq_some_iff.mp a
  obtain ⟨h2, e2⟩ := List.getElem?_eq_some_iff.mp b
  exact (List.getElem_inj hN).mp (e1.trans e2.symm)
theorem store_ok2 {M : Model} {A : Around} {E : Value → Shared → Prop} {i : Nat} {x : Str} {v : V} {u : Value} {Q : Unit → Shared → Prop} (I : Inv X pins σ H s) (hN : X.N.Nodup) (hi : X.N[i]? = some x) (hx : Loc X.env.scope x) (r : RelV v u)
    (h : ∀ s', Inv X pins (σ.set i (some v)) H s' → (∃ a, Heap.SameBut a s.heap s'.heap ∧ (a = X.env.locals ∨ X.env.cells.lookup x = some a)) → Q () s') (hf : X.fn x = true ∨ X.env.scope.names.lookup x = some .local := by first | exact .inl rfl | exact .inr rfl | assumption) : wpAny M A (storeName X.env x u) Q E s := by
  obtain ⟨m, hn, hl⟩ := id I.loc
  have hcls : (X.env.scope.kind == .class || (X.env.scope.kind == .module && X.env.locals != X.env.globals)) = false := by rw [I.ok.kind]; rfl
  have hiσ : i < σ.length := by rw [I.len]; exact (List.getElem?_eq_some_iff.mp hi).1
  have cne := I.cne
  have tracked : ∀ {a : Addr} {h' : Heap}, (∃ o, s.heap.get? a = some o ∧ H a = none) → Heap.SameBut a s.heap h' → HOk X.prog X.w H h' := fun {a h'} ha hs b ob e => by
    obtain ⟨_, _, hfree⟩ := ha
    refine (I.hok b ob e).stay (fun c w' hc q => (hs.2 c ?_).trans q) (fun _ q => q) (fun _ _ q => q) fun _ _ q => q
    rintro rfl
    rcases hc with rfl | hc
    · rw [hfree] at e; cases e
    · rw [hfree] at hc; cases hc
  rcases hx with hk | hk
  · refine wpAny_storeName_local hk hn (fun h' hn' hs => ?_) hcls
    obtain ⟨oL, _, _, hoL, _⟩ := id hn
    refine h _ ⟨I.ok, I.os, I.bare, ⟨fun b o e n hb hx => ?_, fun b o e n hb hx => ?_, I.base.free, fun b o e hx => ?_, I.base.tups, I.base.frzs, I.base.tbls⟩, ⟨_, hn', fun j y v' e1 e2 e3 => ?_⟩, fun y c e => ?_, I.free, I.freeC, fun p hp => ?_, tracked ⟨oL, hoL, I.free⟩ hs, by simpa using I.len⟩ ⟨_, hs, .inl rfl⟩
    · exact (hs.2 b (Nat.ne_of_lt (Nat.lt_of_lt_of_le (Heap.lt_size e) I.ok.above))).trans (I.base.keep b o e n hb hx)
    · obtain ⟨sl, e1⟩ := I.base.slot b o e n hb hx
      exact ⟨sl, (hs.2 b (Nat.ne_of_lt (Nat.lt_of_lt_of_le (Heap.lt_size e) I.ok.above))).trans e1⟩
    · obtain ⟨o', e1⟩ := I.base.there b o e hx
      exact ⟨o', (hs.2 b (Nat.ne_of_lt (Nat.lt_of_lt_of_le (Heap.lt_size e) I.ok.above))).trans e1⟩
    · by_cases hj : j = i
      · subst hj
        rw [hi] at e1; cases e1
        rw [List.getElem?_set_self hiσ] at e2
        cases e2
        exact ⟨u, r, .inl ⟨hk, by simp⟩⟩
      · rw [List.getElem?_set_ne (Ne.symm hj)] at e2
        obtain ⟨u', r', q⟩ := hl j y v' e1 e2 e3
        refine ⟨u', r', ?_⟩
        rcases q with ⟨k, e⟩ | ⟨k, c, e, z⟩
        · refine .inl ⟨k, ?_⟩
          have : y ≠ x := fun e => hj (nodup_ix hN e1 (e ▸ hi))
          simp [this, e]
        · exact .inr ⟨k, c, e, z.sameBut hs (cne y c e)⟩
    · obtain ⟨w', z⟩ := I.cell y c e
      exact ⟨w', z.sameBut hs (cne y c e)⟩
    · obtain ⟨e, n, ne, nf, d⟩ := I.pin p hp
      exact ⟨(hs.2 p.1 ne).trans e, n, ne, nf, d⟩
  · have hfn : X.fn x = true := by
      rcases hf with z | z
      · exact z
      · rw [z] at hk; cases hk
    obtain ⟨c, hc⟩ := I.ok.has x (.inl hk)
    obtain ⟨w', z⟩ := I.cell x c hc
    refine wpAny_storeName_cell I.ok.kind hk hc z (fun h' hc' hs => ?_)
    obtain ⟨oc, hoc, hocd⟩ := id z
    refine h { s with heap := h' } ⟨I.ok, I.os, I.bare, ⟨fun b o e n hb hx => ?_, fun b o e n hb hx => ?_, I.base.free, fun b o e hx => ?_, I.base.tups, I.base.frzs, I.base.tbls⟩, ⟨m, hn.sameBut hs (Ne.symm (cne x c hc)), fun j y v' e1 e2 e3 => ?_⟩, fun y c' e => ?_, I.free, I.freeC, fun p hp => ?_, tracked ⟨oc, hoc, I.freeC x c hc⟩ hs, by simpa using I.len⟩ ⟨c, hs, .inr hc⟩
    · exact (hs.2 b (Nat.ne_of_lt (Nat.lt_of_lt_of_le (Heap.lt_size e) (I.ok.cab x c hfn hc)))).trans (I.base.keep b o e n hb hx)
    · obtain ⟨sl, e1⟩ := I.base.slot b o e n hb hx
      exact ⟨sl, (hs.2 b (Nat.ne_of_lt (Nat.lt_of_lt_of_le (Heap.lt_size e) (I.ok.cab x c hfn hc)))).trans e1⟩
    · obtain ⟨o', e1⟩ := I.base.there b o e hx
      exact ⟨o', (hs.2 b (Nat.ne_of_lt (Nat.lt_of_lt_of_le (Heap.lt_size e) (I.ok.cab x c hfn hc)))).trans e1⟩
    · by_cases hj : j = i
      · subst hj
        rw [hi] at e1; cases e1
        rw [List.getElem?_set_self hiσ] at e2
        cases e2
        exact ⟨u, r, .inr ⟨.inl hk, c, hc, hc'⟩⟩
      · rw [List.getElem?_set_ne (Ne.symm hj)] at e2
        obtain ⟨u', r', q⟩ := hl j y v' e1 e2 e3
        refine ⟨u', r', ?_⟩
        rcases q with q | ⟨k, c', e, z'⟩
        · exact .inl q
        · refine .inr ⟨k, c', e, z'.sameBut hs ?_⟩
          rintro rfl
          exact hj (nodup_ix hN e1 (I.ok.inj _ _ _ e hc ▸ hi))
    · by_cases hcc : c' = c
      · subst hcc; exact ⟨_, hc'⟩
      · obtain ⟨w2, z2⟩ := I.cell y c' e
        exact ⟨w2, z2.sameBut hs hcc⟩
    · obtain ⟨e, n, ne, nf, d⟩ := I.pin p hp
      refine ⟨(hs.2 p.1 ?_).trans e, n, ne, nf, d⟩
      intro q
      rw [q, hoc] at e
      have q' : oc = p.2 := Option.some.inj e
      exact d w' (by rw [← q']; exact hocd)
theorem store_ok {M : Model} {A : Around} {E : Value → Shared → Prop} {i : Nat} {x : Str} {v : V} {u : Value} {Q : Unit → Shared → Prop} (I : Inv X pins σ H s) (hN : X.N.Nodup) (hi : X.N[i]? = some x) (hx : Loc X.env.scope x) (r : RelV v u)
    (h : ∀ s', Inv X pins (σ.set i (some v)) H s' → Q () s') (hf : X.fn x = true ∨ X.env.scope.names.lookup x = some .local := by first | exact .inl rfl | exact .inr rfl | assumption) : wpAny M A (storeName X.env x u) Q E s :=
  store_ok2 I hN hi hx r (fun s' I' _ => h s' I') hf
theorem Inv.call' {s' : Shared} {ch : List Addr} (I : Inv X pins σ H s) (ho : s'.os = s.os) (u : Un (frs X.stack) ch H H' s.heap s'.heap) (hok : HOk X.prog X.w H' s'.heap) (hg : AllBare s'.gens)
    (hch : ∀ b ∈ ch, (b ∈ X.ex ∨ X.s₀.heap.objs.size ≤ b) ∧ b ≠ X.env.locals ∧ (∀ x c, X.env.cells.lookup x = some c → c ≠ b) ∧ ∀ p ∈ X.pn ++ pins, p.1 ≠ b) : Inv X pins σ H' s' := by
  obtain ⟨h', g', d', t', o'⟩ := s'
  have e : o' = s.os := ho
  subst e
  exact I.call (g' := g') (t' := t') (d' := d') u hok hg hch
end
noncomputable abbrev XK := Value → Option Addr → Hp → Prop
noncomputable abbrev St := List (Option V)
noncomputable abbrev VK := V → Hp → Prop
noncomputable abbrev TE := St → Hp → VK → Prop
noncomputable abbrev TT := St → Hp → (Bool → Hp → Prop) → Prop
noncomputable abbrev TA := St → Hp → (List V → Hp → Prop) → Prop
structure Ends where
  nx : St → Hp → Prop
  rt : VK
  bk : St → Hp → Prop := fun _ _ => False
  ct : St → Hp → Prop := fun _ _ => False
noncomputable abbrev TS := Ends → St → Hp → Prop
noncomputable def EP (X : Cx) (pins : List (Addr × Obj)) (σ : St) (Q : VK) (u : Value) (s' : Shared) : Prop := ∃ v H', Inv X pins σ H' s' ∧ RelV v u ∧ Q v H'
noncomputable def TP (X : Cx) (pins : List (Addr × Obj)) (σ : St) (Q : Bool → Hp → Prop) (b : Bool) (s' : Shared) : Prop := ∃ H', Inv X pins σ H' s' ∧ Q b H'
noncomputable def AP (X : Cx) (pins : List (Addr × Obj)) (σ : St) (Q : List V → Hp → Prop) (us : List Value) (s' : Shared) : Prop := ∃ vs H', Inv X pins σ H' s' ∧ Vals vs us ∧ Q vs H'
noncomputable def SP (X : Cx) (pins : List (Addr × Obj)) (D : Ends) (f : Flow) (s' : Shared) : Prop :=
  match f with
  | .next => ∃ σ' H', Inv X pins σ' H' s' ∧ D.nx σ' H'
  | .brk => ∃ σ' H', Inv X pins σ' H' s' ∧ D.bk σ' H'
  | .cont => ∃ σ' H', Inv X pins σ' H' s' ∧ D.ct σ' H'
  | .ret u => ∃ v σ' H', Inv X pins σ' H' s' ∧ RelV v u ∧ D.rt v H'
noncomputable def PE (X : Cx) (e : Expr) (t : TE) : Prop :=
  ∀ (pins : List (Addr × Obj)) (s : Shared) (σ : St) (H : Hp) (Q : VK), Inv X pins σ H s → t σ H Q → wpAny (model X.prog X.w) X.A (eval e X.env) (EP X pins σ Q) X.xe s
noncomputable def PT (X : Cx) (e : Expr) (t : TT) : Prop :=
  ∀ (pins : List (Addr × Obj)) (s : Shared) (σ : St) (H : Hp) (Q : Bool → Hp → Prop), Inv X pins σ H s → t σ H Q → wpAny (model X.prog X.w) X.A (isTrue e X.env (eval e X.env)) (TP X pins σ Q) X.xe s
noncomputable def PW (X : Cx) (e : Expr) (t : TT) : Prop :=
  ∀ (whole : Sem Value) (pins : List (Addr × Obj)) (s : Shared) (σ : St) (H : Hp) (Q : Bool → Hp → Prop), Inv X pins σ H s → t σ H Q → wpAny (model X.prog X.w) X.A (isTrue e X.env whole) (TP X pins σ Q) X.xe s
theorem PW.pt {X : Cx} {e : Expr} {t : TT} (h : PW X e t) : PT X e t := h _
noncomputable def PA (X : Cx) (es : List Expr) (t : TA) : Prop :=
  ∀ (pos : Pos) (pins : List (Addr × Obj)) (s : Shared) (σ : St) (H : Hp) (Q : List V → Hp → Prop), Inv X pins σ H s → t σ H Q → wpAny (model X.prog X.w) X.A (spliced (backTo pos (starEach es X.env))) (AP X pins σ Q) X.xe s
noncomputable def PS (X : Cx) (st : Stmt) (t : TS) : Prop :=
  ∀ (pins : List (Addr × Obj)) (s : Shared) (σ : St) (H : Hp) (D : Ends), Inv X pins σ H s → t D σ H → wpAny (model X.prog X.w) X.A (exec st X.env) (SP X pins D) X.xe s
noncomputable def PSs (X : Cx) (st : List Stmt) (t : TS) : Prop :=
  ∀ (pins : List (Addr × Obj)) (s : Shared) (σ : St) (H : Hp) (D : Ends), Inv X pins σ H s → t D σ H → wpAny (model X.prog X.w) X.A (execs st X.env) (SP X pins D) X.xe s
theorem thn {α : Type} {t : Sem α} {Q Q' : α → Shared → Prop} {M : Model} {A : Around} {E : Value → Shared → Prop} {s : Shared} (h : wpAny M A t Q E s) (hQ : ∀ a s, Q a s → Q' a s) : wpAny M A t Q' E s := wpAny_mono h hQ fun _ _ x => x
end L2
namespace L2
open PySem PySem.Spec PyProof.Rows
section
variable {X : Cx}
noncomputable def tVar (i : Nat) : TE := fun σ H Q => ∃ v, σ[i]? = some (some v) ∧ Q v H
noncomputable def tC (v : V) : TE := fun _ H Q => Q v H
theorem pe_var {i : Nat} {x : Str} {pos : Pos} (hN : X.N[i]? = some x) (hv : Vis X.env.scope x) (hd : (x == ("__debug__" : Str)) = false := by decide) (hcd : (x == ("__classdict__" : Str)) = false := by decide) : PE X (.Name x pos) (tVar i) := by
  intro pins s σ H Q I h
  obtain ⟨v, e, h⟩ := h
  obtain ⟨m, hn, hl⟩ := I.loc
  obtain ⟨u, r, l⟩ := hl i x v hN e hv
  have fin : EP X pins σ Q u s := ⟨v, H, I, r, h⟩
  rcases l with ⟨hk, hm⟩ | ⟨hk, c, hc, hcell⟩
  · exact wpAny_Name (wpAny_loadName_local I.ok.kind hk hn hm fin) hd
  · rcases hk with hk | hk
    · exact wpAny_Name (wpAny_loadName_cell I.ok.kind hk hc hcell fin) hd
    · exact wpAny_Name (wpAny_loadName_free I.ok.kind hk hc hcell fin hcd) hd
theorem pe_int {i j pos} : PE X (.Constant (.int i) j pos) (tC (.int i)) := fun _ _ _ H _ I h => wpAny_Constant_int ⟨.int i, H, I.tok _, ⟨_, rfl⟩, h⟩
theorem pe_bl {b j pos} : PE X (.Constant (.bool b) j pos) (tC (.bl b)) := fun _ _ _ H _ I h => Constant_bool ⟨.bl b, H, I, rfl, h⟩
theorem pe_non {j pos} : PE X (.Constant .none j pos) (tC .non) := fun _ _ _ H _ I h => Constant_none ⟨.non, H, I, rfl, h⟩
theorem pe_str {x j pos} : PE X (.Constant (.str x) j pos) (tC (.str x)) := fun _ _ _ H _ I h => Calls.Constant_str ⟨.str x, H, I.tok _, ⟨_, rfl⟩, h⟩
noncomputable def Gl (X : Cx) (x : Str) : Prop := X.env.kindOf x = some .globalImplicit
theorem ld_glob {E : Value → Shared → Prop} {pins : List (Addr × Obj)} {s : Shared} {σ : St} {H : Hp} {x : Str} {u : Value} {pos : Pos} {Q : Value → Shared → Prop} (I : Inv X pins σ H s) (hg : Gl X x) (hm : X.mg x = some u) (h : Q u s)
    (hd : (x == ("__debug__" : Str)) = false := by decide) : wpAny (model X.prog X.w) X.A (eval (.Name x pos) X.env) Q E s :=
  Calls.Name_function_global I.ok.kind hg (Calls.loadGlobal_global (by rw [I.ok.glob]; exact I.mod.glob.keeps I.bk) hm h) hd
theorem ld_blt {E : Value → Shared → Prop} {pins : List (Addr × Obj)} {s : Shared} {σ : St} {H : Hp} {x : Str} {u : Value} {pos : Pos} {Q : Value → Shared → Prop} (I : Inv X pins σ H s) (hg : Gl X x) (hm : X.mg x = none) (hv : bootBuiltins x = some u) (h : Q u s)
    (hn : x ≠ "__name__" := by decide) (hd : (x == ("__debug__" : Str)) = false := by decide) : wpAny (model X.prog X.w) X.A (eval (.Name x pos) X.env) Q E s := by
  obtain ⟨mb, h1, h2⟩ := I.mod.blt
  exact Calls.Name_function_global I.ok.kind hg (Calls.loadGlobal_builtin (by rw [I.ok.glob]; exact I.mod.glob.keeps I.bk) hm (by rw [I.ok.blt]; exact h1.keeps I.bk) ((h2 x hn).trans hv) h) hd
theorem pe_glob {x : Str} {v : V} {u : Value} {pos : Pos} (hg : Gl X x) (hm : X.mg x = some u) (r : RelV v u) (hd : (x == ("__debug__" : Str)) = false := by decide) : PE X (.Name x pos) (tC v) :=
  fun _ _ _ H _ I h => ld_glob I hg hm ⟨v, H, I, r, h⟩ hd
theorem pe_bltn {x : Str} {v : V} {u : Value} {pos : Pos} (hg : Gl X x) (hm : X.mg x = none) (hv : bootBuiltins x = some u) (r : RelV v u) (hn : x ≠ "__name__" := by decide) (hd : (x == ("__debug__" : Str)) = false := by decide) : PE X (.Name x pos) (tC v) :=
  fun _ _ _ H _ I h => ld_blt I hg hm hv ⟨v, H, I, r, h⟩ hn hd
variable {a b : Expr} {ta tb : TE} {pos : Pos}
noncomputable def PC (X : Cx) (op : CmpOp) (a b : Expr) (t : TE) : Prop :=
  ∀ (pins : List (Addr × Obj)) (s : Shared) (σ : St) (H : Hp) (Q : VK), Inv X pins σ H s → t σ H Q →
    wpAny (model X.prog X.w) X.A (eval a X.env) (fun v s₁ => wpAny (model X.prog X.w) X.A (eval b X.env) (fun u s₂ => wpAny (model X.prog X.w) X.A (compareOp op v u) (EP X pins σ Q) X.xe s₂) X.xe s₁) X.xe s
theorem nobehind (b : Expr) {op : CmpOp} (h : op ≠ .In) (h2 : op ≠ .NotIn) : behindInMarks op b = false := by
  have e1 : (op == CmpOp.In) = false := by cases op <;> first | rfl | exact absurd rfl h
  have e2 : (op == CmpOp.NotIn) = false := by cases op <;> first | rfl | exact absurd rfl h2
  cases b <;> simp [behindInMarks, e1, e2]
noncomputable def tIsN (ta : TE) : TE := fun σ H Q => ta σ H fun x H1 => Q (.bl (decide (x = .non))) H1
noncomputable def tNotN (ta : TE) : TE := fun σ H Q => ta σ H fun x H1 => Q (.bl (!decide (x = .non))) H1
theorem RelV.none_iff {x : V} {v : Value} (r : RelV x v) : (v == Value.none) = decide (x = .non) := by
  cases x with
  | non => cases r; rfl
  | bl _ => cases r; rfl
  | int _ => obtain ⟨t, rfl⟩ := r; rfl
  | str _ => obtain ⟨t, rfl⟩ := r; rfl
  | byt _ => obtain ⟨t, rfl⟩ := r; rfl
  | flt _ => obtain ⟨t, rfl⟩ := r; rfl
  | ref _ => cases r; rfl
  | ty _ => cases r; rfl
theorem pc_isN {j pos'} (ha : PE X a ta) : PC X .Is a (.Constant .none j pos') (tIsN ta) := by
  intro pins s σ H Q I h
  refine thn (ha pins s σ H _ I h) fun v s1 ⟨x, H1, I1, r1, q1⟩ => ?_
  exact Constant_none (is_none_gen ⟨.bl _, H1, I1, by rw [r1.none_iff]; rfl, q1⟩)
theorem pc_notN {j pos'} (ha : PE X a ta) : PC X .IsNot a (.Constant .none j pos') (tNotN ta) := by
  intro pins s σ H Q I h
  refine thn (ha pins s σ H _ I h) fun v s1 ⟨x, H1, I1, r1, q1⟩ => ?_
  exact Constant_none (isnot_none_gen ⟨.bl _, H1, I1, by rw [r1.none_iff]; rfl, q1⟩)
noncomputable def tB (t : TE) : TT := fun σ H Q => t σ H fun x H1 => ∃ c, x = .bl c ∧ Q c H1
theorem pe_cmp {op : CmpOp} {t : TE} (h : PC X op a b t) (h1 : behindInMarks op b = false := by first | exact nobehind _ (by decide) (by decide) | rfl) : PE X (.Compare a [op] [b] pos) t := fun pins s σ H Q I hw => wpAny_Compare1 (h pins s σ H Q I hw) h1
theorem pt_cmp {op : CmpOp} {t : TE} (h : PC X op a b t) (h1 : behindInMarks op b = false := by first | exact nobehind _ (by decide) (by decide) | rfl) : PT X (.Compare a [op] [b] pos) (tB t) := by
  intro pins s σ H Q I hw
  refine wpAny_isTrue_Compare1 (thn (h pins s σ H _ I hw) fun v s1 h1 => thn h1 fun u s2 h2 => thn h2 fun c s3 ⟨x, H1, I1, r1, q1⟩ => ?_) h1
  obtain ⟨d, rfl, q⟩ := q1
  cases r1
  exact wpAny_truthy_bool ⟨H1, I1, q⟩
theorem pt_val {e : Expr} {t : TE} (h : PE X e t) (he : ∀ whole, isTrue e X.env whole = (do let v ← whole; standAt e.pos; holding [v] (truthy v)) := by intro _; rfl) : PT X e (tB t) := by
  intro pins s σ H Q I hw
  refine isTrue_plain (thn (h pins s σ H _ I hw) fun v s1 ⟨x, H1, I1, r1, q1⟩ => ?_) (he _)
  obtain ⟨d, rfl, q⟩ := q1
  cases r1
  exact wpAny_truthy_bool ⟨H1, I1, q⟩
variable {tA tB' : TT} {rest : List Expr}
noncomputable def tAnd (t u : TT) : TT := fun σ H Q => t σ H fun c H1 => if c = true then u σ H1 Q else Q false H1
noncomputable def tOr (t u : TT) : TT := fun σ H Q => t σ H fun c H1 => if c = true then Q true H1 else u σ H1 Q
noncomputable def tNot (t : TT) : TT := fun σ H Q => t σ H fun c H1 => Q (!c) H1
theorem pw_and1 (ha : PT X a tA) : PW X (.BoolOp .And [a] pos) tA := by
  intro wh pins s σ H Q I h
  refine isTrue_and (thn (ha pins s σ H Q I h) fun c s1 e => ?_)
  cases c with
  | true => exact isTrue_and_nil e
  | false => exact e
theorem pw_or1 (ha : PT X a tA) : PW X (.BoolOp .Or [a] pos) tA := by
  intro wh pins s σ H Q I h
  refine isTrue_or (thn (ha pins s σ H Q I h) fun c s1 e => ?_)
  cases c with
  | false => exact isTrue_or_nil e
  | true => exact e
theorem pw_and (ha : PT X a tA) (hb : PW X (.BoolOp .And (b :: rest) pos) tB') : PW X (.BoolOp .And (a :: b :: rest) pos) (tAnd tA tB') := by
  intro wh pins s σ H Q I h
  refine isTrue_and (thn (ha pins s σ H _ I h) fun c s1 ⟨H1, I1, q1⟩ => ?_)
  cases c with
  | true => exact hb wh pins s1 σ H1 Q I1 q1
  | false => exact ⟨H1, I1, q1⟩
theorem pw_or (ha : PT X a tA) (hb : PW X (.BoolOp .Or (b :: rest) pos) tB') : PW X (.BoolOp .Or (a :: b :: rest) pos) (tOr tA tB') := by
  intro wh pins s σ H Q I h
  refine isTrue_or (thn (ha pins s σ H _ I h) fun c s1 ⟨H1, I1, q1⟩ => ?_)
  cases c with
  | true => exact ⟨H1, I1, q1⟩
  | false => exact hb wh pins s1 σ H1 Q I1 q1
theorem pt_not (ha : PT X a tA) : PT X (.UnaryOp .Not a pos) (tNot tA) := by
  intro pins s σ H Q I h
  exact isTrue_not (ha pins s σ H (fun c H1 => Q (!c) H1) I h)
noncomputable def tAndV (ta tb : TE) : TE := fun σ H Q => ta σ H fun x H1 => ∃ c, x = .bl c ∧ if c = true then tb σ H1 Q else Q (.bl false) H1
noncomputable def tOrV (ta tb : TE) : TE := fun σ H Q => ta σ H fun x H1 => ∃ c, x = .bl c ∧ if c = true then Q (.bl true) H1 else tb σ H1 Q
noncomputable def tNotV (ta : TE) : TE := fun σ H Q => ta σ H fun x H1 => ∃ c, x = .bl c ∧ Q (.bl (!c)) H1
theorem pe_one {op} {t : TE} (h : PE X a t) : PE X (.BoolOp op [a] pos) t := fun pins s σ H Q I hw => BoolOp_one (h pins s σ H Q I hw)
theorem pe_and (ha : PE X a ta) (hb : PE X (.BoolOp .And (b :: rest) pos) tb) : PE X (.BoolOp .And (a :: b :: rest) pos) (tAndV ta tb) := by
  intro pins s σ H Q I h
  refine BoolOp_and (thn (ha pins s σ H _ I h) fun v s1 ⟨x, H1, I1, r1, q1⟩ => ?_)
  obtain ⟨c, rfl, q1⟩ := q1
  cases r1
  refine wpAny_truthy_bool ?_
  cases c with
  | true => exact hb pins s1 σ H1 Q I1 q1
  | false => exact ⟨.bl false, H1, I1, rfl, q1⟩
theorem pe_not (ha : PE X a ta) : PE X (.UnaryOp .Not a pos) (tNotV ta) := by
  intro pins s σ H Q I h
  refine UnaryOp_ (thn (ha pins s σ H _ I h) fun v s1 ⟨x, H1, I1, r1, q1⟩ => ?_)
  obtain ⟨c, rfl, q1⟩ := q1
  cases r1
  exact not_of (wpAny_truthy_bool ⟨.bl (!c), H1, I1, rfl, q1⟩)
noncomputable def tIf (t : TT) (ta tb : TE) : TE := fun σ H Q => t σ H fun c H1 => if c = true then ta σ H1 Q else tb σ H1 Q
theorem pe_ifExp {c : Expr} (hc : PT X c tA) (ha : PE X a ta) (hb : PE X b tb) : PE X (.IfExp c a b pos) (tIf tA ta tb) := by
  intro pins s σ H Q I h
  refine wpAny_IfExp (thn (hc pins s σ H _ I h) fun d s1 ⟨H1, I1, q1⟩ => ?_)
  cases d with
  | true => exact ha pins s1 σ H1 Q I1 q1
  | false => exact hb pins s1 σ H1 Q I1 q1
end
end L2
namespace L2
open PySem PySem.Spec PyProof.Rows
noncomputable def SqL (K : PySem.W.Frag) (H : Hp) (a : Addr) (xs : List V) : Prop :=
  Rd H a (.lst xs) ∨
    ∃ (o : Obj) (its : Array Value) (n : Nat), K.lookup a = some o ∧ o.cls = .type "list" ∧ o.dict = none ∧ o.data = .seq its n ∧ its.size ≤ sizeLine ∧ Vals xs its.toList
noncomputable def SqT (K : PySem.W.Frag) (H : Hp) (a : Addr) (xs : List V) : Prop :=
  Rd H a (.tup xs) ∨
    ∃ (o : Obj) (its : Array Value) (n : Nat), K.lookup a = some o ∧ o.cls = .type "tuple" ∧ o.data = .seq its n ∧ its.size ≤ sizeLine ∧ Vals xs its.toList
noncomputable def absV : Value → Option V
  | .none => some .non
  | .bool b => some (.bl b)
  | .int i _ => some (.int i)
  | .str x _ => some (.str x)
  | .bytes b _ => some (.byt b)
  | .float b _ => some (.flt b)
  | .ref a => some (.ref a)
  | .type n => some (.ty n)
  | _ => none
theorem RelV.abs {x : V} {u : Value} (r : RelV x u) : absV u = some x := by
  cases x with
  | non => cases r; rfl
  | bl _ => cases r; rfl
  | int _ => obtain ⟨t, rfl⟩ := r; rfl
  | str _ => obtain ⟨t, rfl⟩ := r; rfl
  | byt _ => obtain ⟨t, rfl⟩ := r; rfl
  | flt _ => obtain ⟨t, rfl⟩ := r; rfl
  | ref _ => cases r; rfl
  | ty _ => cases r; rfl
theorem RelV.inj {x y : V} {u : Value} (r : RelV x u) (q : RelV y u) : x = y := Option.some.inj (r.abs.symm.trans q.abs)
theorem Vals.inj : ∀ {xs ys : List V} {us : List Value}, Vals xs us → Vals ys us → xs = ys
  | _, _, _, .nil, .nil => rfl
  | _, _, _, .cons r t, .cons r' t' => by rw [r.inj r', Vals.inj t t']
section
variable {X : Cx} {pins : List (Addr × Obj)} {σ : St} {H : Hp} {s : Shared} {a : Addr} {xs ys : List V}
theorem SqL.of {K : PySem.W.Frag} (h : H a = some (.lst xs)) : SqL K H a xs := .inl (.inl h)
theorem SqT.of {K : PySem.W.Frag} (h : H a = some (.tup xs)) : SqT K H a xs := .inl (.inl h)
theorem Inv.list (I : Inv X pins σ H s) (h : SqL X.K H a xs) : ∃ its : List Value, Vals xs its ∧ PlainL s.heap a its.toArray ∧ xs.length ≤ sizeLine := by
  rcases h with h | ⟨o, its, n, hk, hc, hd, hs, hz, r⟩
  · obtain ⟨z, its, n, r, e⟩ := h.ok I.hok
    exact ⟨its, r, ⟨_, n, e, rfl, rfl, rfl⟩, z⟩
  · refine ⟨its.toList, r, ⟨o, n, I.kIn a o hk, hc, hd, by simpa using hs⟩, ?_⟩
    have e := r.length
    simp only [Array.length_toList] at e
    omega
theorem Inv.tuple (I : Inv X pins σ H s) (h : SqT X.K H a xs) : ∃ its : List Value, Vals xs its ∧ IsTup s.heap a its.toArray ∧ xs.length ≤ sizeLine := by
  rcases h with h | ⟨o, its, n, hk, hc, hs, hz, r⟩
  · obtain ⟨z, its, r, p⟩ := h.ok I.hok
    exact ⟨its, r, p, z⟩
  · refine ⟨its.toList, r, ⟨o, I.kIn a o hk, hc, n, by simpa using hs⟩, ?_⟩
    have e := r.length
    simp only [Array.length_toList] at e
    omega
theorem Inv.list_inj (I : Inv X pins σ H s) (h : SqL X.K H a xs) (h' : SqL X.K H a ys) : xs = ys := by
  obtain ⟨its, r, ⟨o, n, e, _, _, d⟩, _⟩ := I.list h
  obtain ⟨its', r', ⟨o', n', e', _, _, d'⟩, _⟩ := I.list h'
  rw [e] at e'; cases e'
  rw [d] at d'
  injection d' with d1 _
  have : its = its' := by simpa using congrArg Array.toList d1
  subst this
  exact r.inj r'
theorem Inv.tuple_inj (I : Inv X pins σ H s) (h : SqT X.K H a xs) (h' : SqT X.K H a ys) : xs = ys := by
  obtain ⟨its, r, ⟨o, e, _, n, d⟩, _⟩ := I.tuple h
  obtain ⟨its', r', ⟨o', e', _, n', d'⟩, _⟩ := I.tuple h'
  rw [e] at e'; cases e'
  rw [d] at d'
  injection d' with d1 _
  have : its = its' := by simpa using congrArg Array.toList d1
  subst this
  exact r.inj r'
end
noncomputable abbrev Cx.wish (X : Cx) (E : Value → Shared → Prop) : Cx := { X with xe := E }
noncomputable abbrev Cx.nox (X : Cx) : Cx := X.wish fun _ _ => False
theorem Cx.Ok.wish {X : Cx} (ok : X.Ok) (E : Value → Shared → Prop) : (X.wish E).Ok :=
  ⟨ok.mod, ok.kind, ok.glob, ok.blt, ok.above, ok.inj, ok.has, ok.cab, ok.hd, ok.frames, ok.stk, ok.exf, ok.bs, ok.bsz, ok.noex, ok.exfs, ok.funs, ok.frf⟩
theorem Cx.Ok.unwish {X : Cx} {E : Value → Shared → Prop} (ok : (X.wish E).Ok) : X.Ok :=
  ⟨ok.mod, ok.kind, ok.glob, ok.blt, ok.above, ok.inj, ok.has, ok.cab, ok.hd, ok.frames, ok.stk, ok.exf, ok.bs, ok.bsz, ok.noex, ok.exfs, ok.funs, ok.frf⟩
section
variable {X : Cx} {pins : List (Addr × Obj)} {σ : St} {H : Hp} {s : Shared} {E : Value → Shared → Prop}
theorem Inv.wish (I : Inv X pins σ H s) (E : Value → Shared → Prop) : Inv (X.wish E) pins σ H s := ⟨I.ok.wish E, I.os, I.bare, I.base, I.loc, I.cell, I.free, I.freeC, I.pin, I.hok, I.len⟩
theorem Inv.unwish (I : Inv (X.wish E) pins σ H s) : Inv X pins σ H s := ⟨I.ok.unwish, I.os, I.bare, I.base, I.loc, I.cell, I.free, I.freeC, I.pin, I.hok, I.len⟩
theorem SP.unwish {D : Ends} {f : Flow} {s' : Shared} (h : SP (X.wish E) pins D f s') : SP X pins D f s' := by
  cases f with
  | next => obtain ⟨σ', H', I, q⟩ := h; exact ⟨σ', H', I.unwish, q⟩
  | brk => obtain ⟨σ', H', I, q⟩ := h; exact ⟨σ', H', I.unwish, q⟩
  | cont => obtain ⟨σ', H', I, q⟩ := h; exact ⟨σ', H', I.unwish, q⟩
  | ret u => obtain ⟨v, σ', H', I, r, q⟩ := h; exact ⟨v, σ', H', I.unwish, r, q⟩
theorem PSs.nox {st : List Stmt} {t : TS} (h : PSs X.nox st t) : PSs X st t := fun pins s σ H D I hw =>
  wpAny_mono (h pins s σ H D (I.wish _) hw) (fun _ _ q => q.unwish) fun _ _ z => False.elim z
end
section
variable {X : Cx} {st : Stmt} {rest : List Stmt} {t u : TS} {e : Expr} {te : TE} {pos : Pos}
noncomputable def tNext : TS := fun D σ H => D.nx σ H
noncomputable def tSeq (t u : TS) : TS := fun D σ H => t { D with nx := u D } σ H
theorem pss_nil : PSs X [] tNext := fun _ _ σ H _ I h => wpAny_execs_nil ⟨σ, H, I, h⟩
theorem pss_cons (h1 : PS X st t) (h2 : PSs X rest u) : PSs X (st :: rest) (tSeq t u) := by
  intro pins s σ H D I h
  refine wpAny_execs_cons (thn (h1 pins s σ H { D with nx := u D } I h) fun f s1 q => ?_)
  cases f with
  | next =>
    obtain ⟨σ', H', I', q⟩ := q
    exact h2 pins s1 σ' H' D I' q
  | ret v => exact q
  | brk => exact q
  | cont => exact q
theorem pss_one (h1 : PS X st t) : PSs X [st] t := by
  intro pins s σ H D I h
  refine wpAny_execs_cons (thn (h1 pins s σ H D I h) fun f s1 q => ?_)
  cases f with
  | next => exact wpAny_execs_nil q
  | ret v => exact q
  | brk => exact q
  | cont => exact q
theorem Inv.quiet {pins : List (Addr × Obj)} {σ : St} {H : Hp} {s : Shared} (I : Inv X pins σ H s) : interactive X.env = false := by simp [interactive, I.ok.kind]
noncomputable def tDrop (te : TE) : TS := fun D σ H => te σ H fun _ H1 => D.nx σ H1
theorem ps_expr (he : PE X e te) (hs : swapsWith e none pos.line X.env = pure false := by rfl) : PS X (.Expr e pos) (tDrop te) := by
  intro pins s σ H D I h
  exact wpAny_Expr_any (thn (he pins s σ H _ I h) fun v s1 ⟨x, H1, I1, r1, q1⟩ => ⟨σ, H1, I1, q1⟩) I.quiet hs
noncomputable def tRet (te : TE) : TS := fun D σ H => te σ H D.rt
theorem ps_ret (he : PE X e te) : PS X (.Return (some e) pos) (tRet te) := by
  intro pins s σ H D I h
  exact wpAny_Return_some (thn (he pins s σ H _ I h) fun v s1 ⟨x, H1, I1, r1, q1⟩ => ⟨x, σ, H1, I1, r1, q1⟩)
noncomputable def tRetN : TS := fun D _ H => D.rt .non H
noncomputable def tIfS (c : TT) (t u : TS) : TS := fun D σ H => c σ H fun b H1 => if b = true then t D σ H1 else u D σ H1
theorem ps_if {c : Expr} {a b : List Stmt} {tc : TT} (hc : PT X c tc) (ha : PSs X a t) (hb : PSs X b u) : PS X (.If c a b pos) (tIfS tc t u) := by
  intro pins s σ H D I h
  refine wpAny_If (thn (hc pins s σ H _ I h) fun d s1 ⟨H1, I1, q1⟩ => ?_)
  cases d with
  | true => exact ha pins s1 σ H1 D I1 q1
  | false => exact hb pins s1 σ H1 D I1 q1
noncomputable def tNever : TS := fun _ _ _ => False
theorem ps_never : PS X st tNever := fun _ _ _ _ _ _ h => h.elim
end
noncomputable abbrev TG := V → St → Hp → (St → Hp → Prop) → Prop
noncomputable abbrev TGs := List V → St → Hp → (St → Hp → Prop) → Prop
noncomputable def PG (X : Cx) (target : Expr) (t : TG) : Prop :=
  ∀ (pins : List (Addr × Obj)) (s : Shared) (σ : St) (H : Hp) (v : V) (u : Value) (Q : St → Hp → Prop), Inv X pins σ H s → RelV v u → t v σ H Q →
    wpAny (model X.prog X.w) X.A (assign target X.env u) (fun _ s' => ∃ σ' H', Inv X pins σ' H' s' ∧ Q σ' H') X.xe s
noncomputable def PGs (X : Cx) (ts : List Expr) (t : TGs) : Prop :=
  ∀ (pins : List (Addr × Obj)) (s : Shared) (σ : St) (H : Hp) (vs : List V) (us : List Value) (Q : St → Hp → Prop), Inv X pins σ H s → Vals vs us → t vs σ H Q →
    wpAny (model X.prog X.w) X.A (assignInOrder ((assignEach ts X.env).map (·.2)) us) (fun _ s' => ∃ σ' H', Inv X pins σ' H' s' ∧ Q σ' H') X.xe s
noncomputable abbrev TSet := V → V → V → Hp → (Hp → Prop) → Prop
noncomputable def PSet (X : Cx) (t : TSet) : Prop :=
  ∀ (pins : List (Addr × Obj)) (s : Shared) (σ : St) (H : Hp) (o i v : V) (ov iv u : Value) (Q : Hp → Prop), Inv X pins σ H s → RelV o ov → RelV i iv → RelV v u → t o i v H Q →
    wpAny (model X.prog X.w) X.A (setItem ov iv u) (fun _ s' => ∃ H', Inv X pins σ H' s' ∧ Q H') X.xe s
section
variable {X : Cx} {pos : Pos}
noncomputable def gName (i : Nat) : TG := fun v σ H Q => Q (σ.set i (some v)) H
theorem pg_name {i : Nat} {x : Str} (hN : X.N.Nodup) (hi : X.N[i]? = some x) (hx : Loc X.env.scope x) (hf : X.fn x = true ∨ X.env.scope.names.lookup x = some .local := by first | exact .inl rfl | exact .inr rfl | assumption) : PG X (.Name x pos) (gName i) := by
  intro pins s σ H v u Q I r h
  exact wpAny_assign_Name (store_ok I hN hi hx r (fun s' I' => ⟨_, H, I', h⟩) hf)
noncomputable def gNil : TGs := fun vs σ H Q => vs = [] ∧ Q σ H
noncomputable def gCons (t : TG) (u : TGs) : TGs := fun vs σ H Q => ∃ v r, vs = v :: r ∧ t v σ H fun σ' H' => u r σ' H' Q
theorem pgs_nil : PGs X [] gNil := by
  intro pins s σ H vs us Q I r h
  obtain ⟨e, h⟩ := h
  subst e
  cases r
  exact assignInOrder_nil ⟨σ, H, I, h⟩
theorem pgs_cons {e : Expr} {es : List Expr} {t : TG} {u : TGs} (h1 : PG X e t) (h2 : PGs X es u)
    (hs : (assignEach (e :: es) X.env).map (·.2) = assign e X.env :: (assignEach es X.env).map (·.2) := by rfl) : PGs X (e :: es) (gCons t u) := by
  intro pins s σ H vs us Q I r h
  obtain ⟨v, vr, e1, h⟩ := h
  subst e1
  cases r with
  | cons r rr =>
    rw [hs]
    refine assignInOrder_cons (thn (h1 pins s σ H _ _ _ I r h) fun _ s1 ⟨σ1, H1, I1, q1⟩ => ?_)
    exact h2 pins s1 σ1 H1 _ _ Q I1 rr q1
noncomputable def gTup (K : PySem.W.Frag) (n : Nat) (t : TGs) : TG := fun v σ H Q => ∃ a xs, v = .ref a ∧ SqT K H a xs ∧ xs.length = n ∧ t xs σ H Q
theorem pg_tup {es : List Expr} {k : Nat} {t : TGs} {n : Nat} (hc : X.calm = true) (h : PGs X es t)
    (hn : (assignEach es X.env).length = n := by rfl) (hst : (assignEach es X.env).findIdx? (·.1) = none := by rfl) : PG X (.Tuple es k pos) (gTup X.K n t) := by
  intro pins s σ H v u Q I r hw
  obtain ⟨a, xs, e1, hq, hl, hw⟩ := hw
  subst e1
  cases r
  obtain ⟨its, rv, ht, hz⟩ := I.tuple hq
  refine assign_Tuple_tuple (I.ok.hd hc) ht (by simp [hn, ← hl, rv.length]) hst fun h' hx => ?_
  have I1 : Inv X pins σ H { s with heap := h' } := I.kept (t' := s.toks) fun b o e => hx b o (Nat.ne_of_lt (Heap.lt_size e)) e
  exact h pins _ σ H xs _ Q I1 (by simpa using rv) hw
noncomputable def gSub (to ti : TE) (t : TSet) : TG := fun v σ H Q => to σ H fun o H1 => ti σ H1 fun i H2 => t o i v H2 fun H3 => Q σ H3
theorem pg_sub {o i : Expr} {to ti : TE} {t : TSet} (ho : PE X o to) (hi : PE X i ti) (hs : PSet X t)
    (ha : ∀ v, assign (.Subscript o i pos) X.env v = (do
      let ov ← holding [v] (eval o X.env)
      let iv ← holding [v, ov] (eval i X.env)
      standAt pos
      holding [v, ov, iv] (setItem ov iv v)
      release [v, ov, iv] []) := by intro _; rfl) : PG X (.Subscript o i pos) (gSub to ti t) := by
  intro pins s σ H v u Q I r h
  rw [ha]
  refine wpAny_bind (wpAny_holding (thn (ho pins s σ H _ I h) fun ov s1 ⟨x, H1, I1, r1, q1⟩ => ?_))
  refine wpAny_bind (wpAny_holding (thn (hi pins s1 σ H1 _ I1 q1) fun iv s2 ⟨y, H2, I2, r2, q2⟩ => ?_))
  refine wpAny_bind (wpAny_standAt (wpAny_bind (wpAny_holding (thn (hs pins s2 σ H2 x y v ov iv u _ I2 r1 r2 r q2) fun _ s3 ⟨H3, I3, q3⟩ => ?_))))
  exact wpAny_release ⟨σ, H3, I3, q3⟩
noncomputable def tAsg (te : TE) (g : TG) : TS := fun D σ H => te σ H fun x H1 => g x σ H1 D.nx
theorem ps_asg {tg e : Expr} {te : TE} {g : TG} (he : PE X e te) (hg : PG X tg g) (hs : swapsWithSole [tg] e pos.line X.env = pure false := by rfl) (hw : swappedStores [tg] e X.env = pure none := by rfl)
    (h1 : (assignEach [tg] X.env).map (·.2) = [assign tg X.env] := by rfl) : PS X (.Assign [tg] e pos) (tAsg te g) := by
  intro pins s σ H D I h
  refine wpAny_Assign_stores (thn (he pins s σ H _ I h) fun v s1 ⟨x, H1, I1, r1, q1⟩ => ?_) hs hw
  rw [h1]
  exact thn (hg pins s1 σ H1 x v _ I1 r1 q1) fun _ s2 q => q
theorem ps_set {i : Nat} {x : Str} {e : Expr} {te : TE} {pos' : Pos} (hN : X.N.Nodup) (hi : X.N[i]? = some x) (hx : Loc X.env.scope x) (he : PE X e te) (hs : swapsWith e (some (.Name x pos')) pos.line X.env = pure false := by rfl) (hf : X.fn x = true ∨ X.env.scope.names.lookup x = some .local := by first | exact .inl rfl | exact .inr rfl | assumption) :
    PS X (.Assign [.Name x pos'] e pos) (tAsg te (gName i)) := by
  intro pins s σ H D I h
  refine wpAny_Assign_Name (thn (he pins s σ H _ I h) fun v s1 ⟨y, H1, I1, r1, q1⟩ => ?_) hs
  exact store_ok I1 hN hi hx r1 (fun s2 I2 => ⟨_, H1, I2, q1⟩) hf
end
section
variable {X : Cx} {pos : Pos}
noncomputable def tWhile (c : TT) (tb : TS) : TS := fun D σ H => ∃ W : Nat → St → Hp → Prop, (∃ m, W m σ H) ∧ ∀ m σ H, W m σ H →
  c σ H fun b H1 => if b = true then ∃ N : St → Hp → Prop, (∀ σ' H', N σ' H' → ∃ m', m' < m ∧ W m' σ' H') ∧ tb { D with nx := N, ct := N, bk := D.nx } σ H1 else D.nx σ H1
theorem ps_while {c : Expr} {body : List Stmt} {tc : TT} {tb : TS} (hp : PassesOwn (model X.prog X.w) X.A X.env X.xe) (hc : PT X c tc) (hb : PSs X body tb) : PS X (.While c body [] pos) (tWhile tc tb) := by
  intro pins s σ H D I h
  obtain ⟨W, ⟨m0, w0⟩, turn⟩ := h
  refine wpAny_While (codeAny_whileLoop (fun n s' => ∃ σ' H', Inv X pins σ' H' s' ∧ W n σ' H') ?_ m0 ⟨σ, H, I, w0⟩)
  rintro n s1 ⟨σ1, H1, I1, w1⟩
  refine wpAny_passesOwn hp (thn (hc pins s1 σ1 H1 _ I1 (turn n σ1 H1 w1)) fun b s2 ⟨H2, I2, q2⟩ => ?_)
  cases b with
  | true =>
    obtain ⟨N, hN, q2⟩ := q2
    rw [if_pos rfl]
    refine wpAny_passesOwn hp (thn (hb pins s2 σ1 H2 _ I2 q2) fun f s3 q3 => ?_)
    cases f with
    | next =>
      obtain ⟨σ3, H3, I3, n3⟩ := q3
      obtain ⟨m', hm, w3⟩ := hN σ3 H3 n3
      exact ⟨m', hm, σ3, H3, I3, w3⟩
    | cont =>
      obtain ⟨σ3, H3, I3, n3⟩ := q3
      obtain ⟨m', hm, w3⟩ := hN σ3 H3 n3
      exact ⟨m', hm, σ3, H3, I3, w3⟩
    | brk => exact q3
    | ret v => exact q3
  | false =>
    rw [if_neg Bool.false_ne_true]
    exact wpAny_execs_nil ⟨σ1, H2, I2, q2⟩
end
structure It where
  go : Nat → Hp → Prop
  yld : Nat → Hp → V → Hp → Prop
  stop : Nat → Hp → Prop
noncomputable def FpOk (X : Cx) (pins : List (Addr × Obj)) (H : Hp) (b : Addr) : Prop :=
  H b = none ∧ b ≠ X.env.locals ∧ b ∉ X.fs ∧ (b ∈ X.ex ∨ X.s₀.heap.objs.size ≤ b) ∧ (∀ x c, X.env.cells.lookup x = some c → c ≠ b) ∧ ∀ p ∈ X.pn ++ pins, p.1 ≠ b
theorem Inv.fpOk {X : Cx} {pins : List (Addr × Obj)} {σ : St} {H H' : Hp} {s : Shared} {b : Addr} (I : Inv X pins σ H s) (hb : s.heap.objs.size ≤ b) (hn : H' b = none) : FpOk X pins H' b := by
  refine ⟨hn, Nat.ne_of_gt (Nat.lt_of_lt_of_le I.lt hb), I.nofs hb, .inr (Nat.le_trans I.sz hb), fun x c e z => ?_, fun p hp z => ?_⟩
  · obtain ⟨v, q⟩ := I.cell x c e
    exact absurd (Nat.lt_of_lt_of_le q.lt (by rw [z]; exact hb)) (Nat.lt_irrefl _)
  · exact absurd (Nat.lt_of_lt_of_le (Heap.lt_size (I.pin p hp).1) (by rw [z]; exact hb)) (Nat.lt_irrefl _)
structure Turn (P : Program) (w : World) (K : PySem.W.Frag) (tg : Expr) (J : It) (fp : List Addr) (it : Addr) (tn : Nat → Heap → Prop) : Prop where
  mem : it ∈ fp
  obj : ∀ i h, tn i h → ∀ b ∈ fp, ∃ o, h.get? b = some o ∧ ∀ v, o.data ≠ .cell v
  keep : ∀ i h h', tn i h → (∀ b ∈ fp, ∀ o, h.get? b = some o → h'.get? b = some o) → tn i h'
  item : ∀ (X : Cx), X.prog = P → X.w = w → X.K = K → X.calm = true → ∀ (i : Nat) (pins : List (Addr × Obj)) (s : Shared) (σ : St) (H : Hp) (E : Value → Shared → Prop), Inv X pins σ H s → (∀ b ∈ fp, FpOk X pins H b) → tn i s.heap → J.go i H →
    wpAny (model P w) X.A (pyNext (.ref it)) (fun r s1 => ∃ u, r = some u ∧
      wpAny (model P w) X.A (letOwnedTupleGo tg (.ref it) u) (fun _ s2 => ∃ x H', Inv X pins σ H' s2 ∧ RelV x u ∧ J.yld i H x H' ∧ tn (i + 1) s2.heap ∧ ∀ b ∈ fp, H' b = none) E s1) E s
  done : ∀ (X : Cx), X.prog = P → X.w = w → X.K = K → X.calm = true → ∀ (i : Nat) (pins : List (Addr × Obj)) (s : Shared) (σ : St) (H : Hp) (E : Value → Shared → Prop), Inv X pins σ H s → (∀ b ∈ fp, FpOk X pins H b) → tn i s.heap → J.stop i H →
    wpAny (model P w) X.A (pyNext (.ref it)) (fun r s1 => r = none ∧ Inv X pins σ H s1) E s
  self : ∀ (A : Around) (i : Nat) (s : Shared) (Q : Value → Shared → Prop) (E : Value → Shared → Prop), tn i s.heap → Q (.ref it) s → wpAny (model P w) A (pyIter (.ref it)) Q E s
noncomputable abbrev TI := St → Hp → (It → Hp → Prop) → Prop
noncomputable def PIE (X : Cx) (pins : List (Addr × Obj)) (σ : St) (tg : Expr) (R : It → Hp → Prop) (itv : Value) (s2 : Shared) : Prop :=
  ∃ (it : Addr) (fp : List Addr) (tn : Nat → Heap → Prop) (J : It) (H' : Hp), itv = .ref it ∧ Inv X pins σ H' s2 ∧ Turn X.prog X.w X.K tg J fp it tn ∧ tn 0 s2.heap ∧ (∀ b ∈ fp, FpOk X pins H' b) ∧ R J H'
noncomputable def PI (X : Cx) (tg iter : Expr) (wi : TI) : Prop :=
  ∀ (pins : List (Addr × Obj)) (s : Shared) (σ : St) (H : Hp) (R : It → Hp → Prop), Inv X pins σ H s → wi σ H R →
    wpAny (model X.prog X.w) X.A (eval iter X.env) (fun v s1 => wpAny (model X.prog X.w) X.A (pyIter v) (PIE X pins σ tg R) X.xe s1) X.xe s
theorem go_of {M : Model} {A : Around} {E : Value → Shared → Prop} {s : Shared} {tg : Expr} {it : Addr} {u : Value} {o : Obj} {n : String} {vs : Array Value} {Q : Unit → Shared → Prop} (ho : s.heap.get? it = some o) (hc : o.cls = .type n) (hd : o.data = .fields vs)
    (hn : ["enumerate", "zip", "dict_itemiterator", "dict_reverseitemiterator", "odict_iterator", "itertools.zip_longest", "itertools.pairwise"].contains n = false) (hQ : Q () s) : wpAny M A (letOwnedTupleGo tg (.ref it) u) Q E s := by
  unfold letOwnedTupleGo
  cases tg <;> first
    | exact wpAny_pure hQ
    | (cases u <;> first
        | exact wpAny_pure hQ
        | (refine wpAny_bind (wpAny_load ho ?_)
           rw [hc, hd]
           show wpAny M A (if (["enumerate", "zip", "dict_itemiterator", "dict_reverseitemiterator", "odict_iterator", "itertools.zip_longest", "itertools.pairwise"].contains n && vs[0]? == some (rawInt _)) = true then _ else _) Q E s
           rw [if_neg (by intro h; rw [hn, Bool.false_and] at h; cases h)]
           exact wpAny_pure hQ))
noncomputable def Itl (K : PySem.W.Frag) (a : Addr) : It :=
  ⟨fun i H => ∃ xs x, SqL K H a xs ∧ xs[i]? = some x, fun i H x H' => H' = H ∧ ∀ xs, SqL K H a xs → xs[i]? = some x, fun i H => ∃ xs, SqL K H a xs ∧ xs.length ≤ i⟩
noncomputable def Itt (K : PySem.W.Frag) (a : Addr) : It :=
  ⟨fun i H => ∃ xs x, SqT K H a xs ∧ xs[i]? = some x, fun i H x H' => H' = H ∧ ∀ xs, SqT K H a xs → xs[i]? = some x, fun i H => ∃ xs, SqT K H a xs ∧ xs.length ≤ i⟩
noncomputable def Itr (lo : Int) (n : Nat) : It := ⟨fun i _ => i < n, fun i H x H' => H' = H ∧ x = .int (lo + i), fun i _ => n ≤ i⟩
theorem turn_list {P : Program} {w : World} {K : PySem.W.Frag} {tg : Expr} (a it : Addr) : Turn P w K tg (Itl K a) [it] it (fun i h => h.IsListIter it a i) where
  mem := by simp
  obj := fun i h st b hb => by
    have e : b = it := by simpa using hb
    subst e
    obtain ⟨o, e, c, d⟩ := st
    exact ⟨o, e, fun v z => by rw [d] at z; cases z⟩
  keep := fun i h h' st k => st.at fun o e => k it (by simp) o e
  item := by
    intro X hP hw hK hc i pins s σ H E I hf st hg
    subst hP hw hK
    obtain ⟨xs, x, hq, hx⟩ := hg
    obtain ⟨its, rv, p, hz⟩ := I.list hq
    obtain ⟨u, hu, ru⟩ := rv.get hx
    obtain ⟨f0, f1, f2, f3, f4, f5⟩ := hf it (by simp)
    refine wpAny_pyNext_list_item st p.isList (x := u) (by simpa using hu) fun h' st' sb => ?_
    have I1 : Inv X pins σ H { s with heap := h' } := I.turned (t' := s.toks) (fun b o hb e => (sb.2 b hb).trans e) f0 f1 f3 f4 f5
    obtain ⟨o, e, c, d⟩ := id st'
    exact ⟨u, rfl, go_of (s := { s with heap := h' }) e c d (by decide) ⟨x, H, I1, ru, ⟨rfl, fun ys hy => by rw [I.list_inj hy hq]; exact hx⟩, st', fun b hb => (hf b hb).1⟩⟩
  done := by
    intro X hP hw hK hc i pins s σ H E I hf st hg
    subst hP hw hK
    obtain ⟨xs, hq, hx⟩ := hg
    obtain ⟨its, rv, p, hz⟩ := I.list hq
    obtain ⟨f0, f1, f2, f3, f4, f5⟩ := hf it (by simp)
    have hl := rv.length
    exact wpAny_pyNext_list_end (I.ok.hd hc) st p.isList (by simp; omega) fun h' eb => ⟨rfl, I.turned (t' := s.toks) (fun b o hb e => eb b o hb e) f0 f1 f3 f4 f5⟩
  self := fun _ _ _ _ _ st h => wpAny_pyIter_listiter st h
theorem turn_tuple {P : Program} {w : World} {K : PySem.W.Frag} {tg : Expr} (a it : Addr) : Turn P w K tg (Itt K a) [it] it (fun i h => h.IsTupleIter it a i) where
  mem := by simp
  obj := fun i h st b hb => by
    have e : b = it := by simpa using hb
    subst e
    obtain ⟨o, e, c, d⟩ := st
    exact ⟨o, e, fun v z => by rw [d] at z; cases z⟩
  keep := fun i h h' st k => st.at fun o e => k it (by simp) o e
  item := by
    intro X hP hw hK hc i pins s σ H E I hf st hg
    subst hP hw hK
    obtain ⟨xs, x, hq, hx⟩ := hg
    obtain ⟨its, rv, p, hz⟩ := I.tuple hq
    obtain ⟨u, hu, ru⟩ := rv.get hx
    obtain ⟨f0, f1, f2, f3, f4, f5⟩ := hf it (by simp)
    refine wpAny_pyNext_tuple_item st (show s.heap.IsTuple a its.toArray from p) (x := u) (by simpa using hu) fun h' st' sb => ?_
    have I1 : Inv X pins σ H { s with heap := h' } := I.turned (t' := s.toks) (fun b o hb e => (sb.2 b hb).trans e) f0 f1 f3 f4 f5
    obtain ⟨o, e, c, d⟩ := id st'
    exact ⟨u, rfl, go_of (s := { s with heap := h' }) e c d (by decide) ⟨x, H, I1, ru, ⟨rfl, fun ys hy => by rw [I.tuple_inj hy hq]; exact hx⟩, st', fun b hb => (hf b hb).1⟩⟩
  done := by
    intro X hP hw hK hc i pins s σ H E I hf st hg
    subst hP hw hK
    obtain ⟨xs, hq, hx⟩ := hg
    obtain ⟨its, rv, p, hz⟩ := I.tuple hq
    obtain ⟨f0, f1, f2, f3, f4, f5⟩ := hf it (by simp)
    have hl := rv.length
    exact wpAny_pyNext_tuple_end (I.ok.hd hc) st (show s.heap.IsTuple a its.toArray from p) (by simp; omega) fun h' eb => ⟨rfl, I.turned (t' := s.toks) (fun b o hb e => eb b o hb e) f0 f1 f3 f4 f5⟩
  self := fun _ _ _ _ _ st h => wpAny_pyIter_tupleiter st h
theorem turn_range {P : Program} {w : World} {K : PySem.W.Frag} {tg : Expr} (it : Addr) (lo : Int) (n : Nat) : Turn P w K tg (Itr lo n) [it] it (fun i h => IsRangeIter h it (lo + (i : Nat) * 1) ((n : Int) - (i : Nat)) 1) where
  mem := by simp
  obj := fun i h st b hb => by
    have e : b = it := by simpa using hb
    subst e
    exact ⟨_, st, fun v z => by
      have z' : Data.fields _ = Data.cell v := z
      cases z'⟩
  keep := fun i h h' st k => k it (by simp) _ st
  item := by
    intro X hP hw hK hc i pins s σ H E I hf st hg
    subst hP hw hK
    obtain ⟨f0, f1, f2, f3, f4, f5⟩ := hf it (by simp)
    have W := Walks.range (prog := X.prog) (w := X.w) (I.ok.hd hc) it lo 1 n
    refine W.item i s _ _ hg st fun v h' tk hv st' kk => ?_
    obtain ⟨t, rfl⟩ := hv
    have I1 : Inv X pins σ H { s with heap := h', toks := tk } := I.turned (fun b o hb e => kk b o (by simpa using hb) e) f0 f1 f3 f4 f5
    refine ⟨_, rfl, go_of (s := { s with heap := h', toks := tk }) (n := "range_iterator") st' rfl rfl (by decide) ⟨.int (lo + i), H, I1, ⟨t, ?_⟩, ⟨rfl, rfl⟩, st', fun b hb => (hf b hb).1⟩⟩
    rw [Int.mul_one]
  done := by
    intro X hP hw hK hc i pins s σ H E I hf st hg
    subst hP hw hK
    obtain ⟨f0, f1, f2, f3, f4, f5⟩ := hf it (by simp)
    exact wpAny_pyNext_range_end (I.ok.hd hc) st (by have : n ≤ i := hg; omega) fun h' eb => ⟨rfl, I.turned (t' := s.toks) (fun b o hb e => eb b o hb e) f0 f1 f3 f4 f5⟩
  self := fun _ _ _ _ _ st h => wpAny_pyIter_rangeiter st h
end L2
namespace L2
open PySem PySem.Spec PyProof.Rows
section
variable {X : Cx} {tg : Expr}
noncomputable def iList (K : PySem.W.Frag) (tl : TE) : TI := fun σ H R => tl σ H fun x H1 => ∃ a, x = .ref a ∧ (∃ xs, SqL K H1 a xs) ∧ R (Itl K a) H1
noncomputable def iTup (K : PySem.W.Frag) (tl : TE) : TI := fun σ H R => tl σ H fun x H1 => ∃ a, x = .ref a ∧ (∃ xs, SqT K H1 a xs) ∧ R (Itt K a) H1
theorem pi_list {l : Expr} {tl : TE} (hl : PE X l tl) : PI X tg l (iList X.K tl) := by
  intro pins s σ H R I h
  refine thn (hl pins s σ H _ I h) fun v s1 ⟨x, H1, I1, r1, q1⟩ => ?_
  obtain ⟨a, e, ⟨xs, hq⟩, q⟩ := q1
  subst e
  cases r1
  obtain ⟨its, rv, p, hz⟩ := I1.list hq
  refine wpAny_pyIter_list p.isList ?_
  refine ⟨s1.heap.objs.size, [s1.heap.objs.size], _, _, H1, rfl, I1.kept (t' := s1.toks) fun b o e => Heap.get?_push_of_some _ e, turn_list a _, ⟨_, Heap.get?_push_size _ rfl, rfl, rfl⟩, fun b hb => ?_, q⟩
  have e : b = s1.heap.objs.size := by simpa using hb
  subst e
  exact I1.fpOk (Nat.le_refl _) (I1.hok.fresh (Nat.le_refl _))
theorem pi_tup {l : Expr} {tl : TE} (hl : PE X l tl) : PI X tg l (iTup X.K tl) := by
  intro pins s σ H R I h
  refine thn (hl pins s σ H _ I h) fun v s1 ⟨x, H1, I1, r1, q1⟩ => ?_
  obtain ⟨a, e, ⟨xs, hq⟩, q⟩ := q1
  subst e
  cases r1
  obtain ⟨its, rv, p, hz⟩ := I1.tuple hq
  refine wpAny_pyIter_tuple (show s1.heap.IsTuple a its.toArray from p) ?_
  refine ⟨s1.heap.objs.size, [s1.heap.objs.size], _, _, H1, rfl, I1.kept (t' := s1.toks) fun b o e => Heap.get?_push_of_some _ e, turn_tuple a _, ⟨_, Heap.get?_push_size _ rfl, rfl, rfl⟩, fun b hb => ?_, q⟩
  have e : b = s1.heap.objs.size := by simpa using hb
  subst e
  exact I1.fpOk (Nat.le_refl _) (I1.hok.fresh (Nat.le_refl _))
theorem range_it {pins : List (Addr × Obj)} {σ : St} {H : Hp} {s : Shared} {R : It → Hp → Prop} {E : Value → Shared → Prop} {lo hi : Int} {t u v : Tok} {tk : Nat} (I : Inv X pins σ H s) (h1 : -(2 ^ 62) ≤ lo) (h2 : lo < 2 ^ 62) (h3 : -(2 ^ 62) ≤ hi) (h4 : hi < 2 ^ 62)
    (q : R (Itr lo (hi - lo).toNat) H) : wpAny (model X.prog X.w) X.A (pyIter (.ref s.heap.objs.size)) (PIE X pins σ tg R) E { s with heap := s.heap.push { cls := .type "range", data := .fields #[.int lo t, .int hi u, .int 1 v] }, toks := tk } := by
  refine wpAny_pyIter_range (IsRange.new ..) (small_one h1 h2 h3 h4) ?_
  have I1 : Inv X pins σ H { s with heap := s.heap.push { cls := .type "range", data := .fields #[.int lo t, .int hi u, .int 1 v] }, toks := tk } := I.kept fun b o e => Heap.get?_push_of_some _ e
  refine ⟨(s.heap.push { cls := .type "range", data := .fields #[.int lo t, .int hi u, .int 1 v] }).objs.size, [(s.heap.push { cls := .type "range", data := .fields #[.int lo t, .int hi u, .int 1 v] }).objs.size], _, _, H, rfl,
    I1.kept (t' := tk) fun b o e => Heap.get?_push_of_some _ e, turn_range _ lo (hi - lo).toNat, ?_, fun b hb => ?_, q⟩
  · have e1 : lo + ((0 : Nat) : Int) * 1 = lo := by simp
    have e2 : (((hi - lo).toNat : Nat) : Int) - ((0 : Nat) : Int) = Builtin.Range.rangeSize lo hi 1 := by rw [rangeSize_one]; split <;> omega
    show IsRangeIter _ _ (lo + ((0 : Nat) : Int) * 1) ((((hi - lo).toNat : Nat) : Int) - ((0 : Nat) : Int)) 1
    rw [e1, e2]
    exact Heap.get?_push_size _ rfl
  · have e : b = (s.heap.push { cls := .type "range", data := .fields #[.int lo t, .int hi u, .int 1 v] }).objs.size := by simpa using hb
    subst e
    exact I1.fpOk (Nat.le_refl _) (I1.hok.fresh (Nat.le_refl _))
noncomputable def iRng1 (ta : TA) : TI := fun σ H R => ta σ H fun vs H1 => ∃ j : Int, vs = [.int j] ∧ -(2 ^ 62) ≤ j ∧ j < 2 ^ 62 ∧ R (Itr 0 j.toNat) H1
theorem pi_range1 {a : Expr} {ta : TA} {p pos : Pos} (hg : Gl X "range") (hm : X.mg "range" = none) (ha : PA X [a] ta) (hs : starEach [a] X.env = [(false, eval a X.env)] := by rfl) : PI X tg (.Call (.Name "range" p) [a] [] pos) (iRng1 ta) := by
  intro pins s σ H R I h
  refine Call_ (ld_blt I hg hm boot_range (PyProof.Rows.callWith_type1 (thn (ha pos pins s σ H _ I h) fun us s1 ⟨vs, H1, I1, r1, q1⟩ => ?_) hs rfl))
  obtain ⟨j, e, q1, q2, q⟩ := q1
  subst e
  cases r1 with
  | cons r rr =>
    cases rr
    obtain ⟨t, rfl⟩ := r
    exact call_range_1 (range_it I1 (by omega) (by omega) q1 q2 (by simpa using q))
noncomputable def tFor (wi : TI) (g : TG) (tb : TS) : TS := fun D σ H => wi σ H fun J H1 => ∃ W : Nat → Nat → St → Hp → Prop, (∃ m, W 0 m σ H1) ∧ ∀ i m σ H, W i m σ H →
  (J.stop i H ∧ D.nx σ H) ∨ (J.go i H ∧ ∃ N : St → Hp → Prop, (∀ σ' H', N σ' H' → ∃ m', m' < m ∧ W (i + 1) m' σ' H') ∧ ∀ x H', J.yld i H x H' → g x σ H' fun σ2 H2 => tb { D with nx := N, ct := N, bk := D.nx } σ2 H2)
noncomputable def pinsAt (fp : List Addr) (h : Heap) : List (Addr × Obj) := fp.filterMap fun b => (h.get? b).map fun o => (b, o)
theorem mem_pinsAt {fp : List Addr} {h : Heap} {b : Addr} {o : Obj} (hb : b ∈ fp) (e : h.get? b = some o) : (b, o) ∈ pinsAt fp h := List.mem_filterMap.mpr ⟨b, hb, by rw [e]; rfl⟩
theorem of_pinsAt {fp : List Addr} {h : Heap} {p : Addr × Obj} (hp : p ∈ pinsAt fp h) : p.1 ∈ fp ∧ h.get? p.1 = some p.2 := by
  obtain ⟨b, hb, e⟩ := List.mem_filterMap.mp hp
  cases q : h.get? b with
  | none => rw [q] at e; cases e
  | some o =>
    rw [q] at e
    have e' : (b, o) = p := Option.some.inj e
    subst e'
    exact ⟨hb, q⟩
theorem Inv.pinned {pins : List (Addr × Obj)} {σ : St} {H : Hp} {s : Shared} {fp : List Addr} (I : Inv X pins σ H s) (hf : ∀ b ∈ fp, FpOk X pins H b) (ho : ∀ b ∈ fp, ∃ o, s.heap.get? b = some o ∧ ∀ v, o.data ≠ .cell v) : Inv X (pins ++ pinsAt fp s.heap) σ H s :=
  I.pins_of fun p hp => (List.mem_append.mp hp).elim (fun z => I.pin p (List.mem_append_right _ z)) fun z => by
    obtain ⟨hb, e⟩ := of_pinsAt z
    obtain ⟨f0, f1, f2, _⟩ := hf p.1 hb
    obtain ⟨o, e', d⟩ := ho p.1 hb
    rw [e] at e'; cases e'
    exact ⟨e, f0, f1, f2, d⟩
theorem Inv.unpinned {pins pl : List (Addr × Obj)} {σ : St} {H : Hp} {s : Shared} (I : Inv X (pins ++ pl) σ H s) : Inv X pins σ H s := I.pins_of fun p hp => I.pin p (List.mem_append_right _ (List.mem_append_left _ hp))
theorem ps_for {iter : Expr} {body : List Stmt} {wi : TI} {g : TG} {tb : TS} {pos : Pos} (hp : PassesOwn (model X.prog X.w) X.A X.env X.xe) (hc : X.calm = true) (hi : PI X tg iter wi) (hg : PG X tg g) (hb : PSs X body tb)
    (hs : ∀ x, foldedSetIterable iter X.env x = pure x := by intro _; rfl) : PS X (.For tg iter body [] pos) (tFor wi g tb) := by
  intro pins s σ H D I h
  refine wpAny_For (thn (hi pins s σ H _ I h) fun v s1 h1 => thn h1 fun itv s2 h2 => ?_) hs
  obtain ⟨it, fp, tn, J, H2, e, I2, T, st2, f2, W, ⟨m0, w0⟩, turn⟩ := h2
  subst e
  have stat : ∀ {H' : Hp}, (∀ b ∈ fp, H' b = none) → ∀ b ∈ fp, FpOk X pins H' b := fun hn b hb => ⟨hn b hb, (f2 b hb).2⟩
  refine codeAny_forLoop_any (fun n s' => ∃ i σ' H', Inv X pins σ' H' s' ∧ tn i s'.heap ∧ (∀ b ∈ fp, H' b = none) ∧ W i n σ' H') ?_ m0 ⟨0, σ, H2, I2, st2, fun b hb => (f2 b hb).1, w0⟩
  rintro n s3 ⟨i, σ3, H3, I3, st3, fr3, w3⟩
  rcases turn i n σ3 H3 w3 with ⟨stop, qn⟩ | ⟨go, N, hN, step⟩
  · refine wpAny_passesOwn hp (thn (T.done X rfl rfl rfl hc i pins s3 σ3 H3 X.xe I3 (stat fr3) st3 stop) fun r s4 ⟨hr, I4⟩ => ?_)
    subst hr
    exact wpAny_execs_nil ⟨σ3, H3, I4, qn⟩
  · refine wpAny_passesOwn hp (thn (T.item X rfl rfl rfl hc i pins s3 σ3 H3 X.xe I3 (stat fr3) st3 go) fun r s4 ⟨u, hr, h4⟩ => ?_)
    subst hr
    refine wpAny_passesOwn hp (thn h4 fun _ s5 ⟨x, H5, I5, r5, y5, st5, fr5⟩ => ?_)
    have I5' := I5.pinned (stat fr5) (T.obj _ _ st5)
    refine wpAny_passesOwn hp (thn (hg _ s5 σ3 H5 x u _ I5' r5 (step x H5 y5)) fun _ s6 ⟨σ6, H6, I6, q6⟩ => ?_)
    refine wpAny_passesOwn hp (thn (hb _ s6 σ6 H6 _ I6 q6) fun f s7 q7 => ?_)
    have again : ∀ {σ7 : St} {H7 : Hp}, Inv X (pins ++ pinsAt fp s5.heap) σ7 H7 s7 → N σ7 H7 → ∃ m, m < n ∧ ∃ i σ' H', Inv X pins σ' H' s7 ∧ tn i s7.heap ∧ (∀ b ∈ fp, H' b = none) ∧ W i m σ' H' := fun {σ7 H7} I7 n7 => by
      obtain ⟨m', hm, w7⟩ := hN σ7 H7 n7
      refine ⟨m', hm, i + 1, σ7, H7, I7.unpinned, T.keep _ _ _ st5 fun b hb o e => (I7.pin (b, o) (List.mem_append_right _ (List.mem_append_right _ (mem_pinsAt hb e)))).1, fun b hb => ?_, w7⟩
      obtain ⟨o, e, d⟩ := T.obj _ _ st5 b hb
      exact (I7.pin (b, o) (List.mem_append_right _ (List.mem_append_right _ (mem_pinsAt hb e)))).2.1
    cases f with
    | next => obtain ⟨σ7, H7, I7, n7⟩ := q7; exact again I7 n7
    | cont => obtain ⟨σ7, H7, I7, n7⟩ := q7; exact again I7 n7
    | brk => obtain ⟨σ7, H7, I7, q7⟩ := q7; exact ⟨σ7, H7, I7.unpinned, q7⟩
    | ret v => obtain ⟨x7, σ7, H7, I7, r7, q7⟩ := q7; exact ⟨x7, σ7, H7, I7.unpinned, r7, q7⟩
end
theorem for_list {K : PySem.W.Frag} {a : Addr} {xs : List V} {g : TG} {tb : TS} {D : Ends} {σ : St} {H : Hp} (Pv : Nat → St → Hp → Prop) (h0 : Pv 0 σ H) (hl : ∀ i σ H, i ≤ xs.length → Pv i σ H → SqL K H a xs)
    (hs : ∀ i x σ H, xs[i]? = some x → Pv i σ H → g x σ H fun σ2 H2 => tb { D with nx := Pv (i + 1), ct := Pv (i + 1), bk := D.nx } σ2 H2) (hd : ∀ σ H, Pv xs.length σ H → D.nx σ H) :
    ∃ W : Nat → Nat → St → Hp → Prop, (∃ m, W 0 m σ H) ∧ ∀ i m σ H, W i m σ H →
      ((Itl K a).stop i H ∧ D.nx σ H) ∨ ((Itl K a).go i H ∧ ∃ N : St → Hp → Prop, (∀ σ' H', N σ' H' → ∃ m', m' < m ∧ W (i + 1) m' σ' H') ∧ ∀ x H', (Itl K a).yld i H x H' → g x σ H' fun σ2 H2 => tb { D with nx := N, ct := N, bk := D.nx } σ2 H2) := by
  refine ⟨fun i m σ H => m = xs.length - i ∧ i ≤ xs.length ∧ Pv i σ H, ⟨xs.length, by simp, Nat.zero_le _, h0⟩, ?_⟩
  rintro i m σ H ⟨rfl, hi, p⟩
  have q := hl i σ H hi p
  by_cases hlt : i < xs.length
  · refine .inr ⟨⟨xs, xs[i], q, by simp [hlt]⟩, Pv (i + 1), fun σ' H' p' => ⟨xs.length - (i + 1), by omega, rfl, hlt, p'⟩, fun x H' y => ?_⟩
    obtain ⟨e, y⟩ := y
    subst e
    exact hs i x σ _ (y xs q) p
  · have e : i = xs.length := by omega
    subst e
    exact .inl ⟨⟨xs, q, Nat.le_refl _⟩, hd σ H p⟩
theorem for_tup {K : PySem.W.Frag} {a : Addr} {xs : List V} {g : TG} {tb : TS} {D : Ends} {σ : St} {H : Hp} (Pv : Nat → St → Hp → Prop) (h0 : Pv 0 σ H) (hl : ∀ i σ H, i ≤ xs.length → Pv i σ H → SqT K H a xs)
    (hs : ∀ i x σ H, xs[i]? = some x → Pv i σ H → g x σ H fun σ2 H2 => tb { D with nx := Pv (i + 1), ct := Pv (i + 1), bk := D.nx } σ2 H2) (hd : ∀ σ H, Pv xs.length σ H → D.nx σ H) :
    ∃ W : Nat → Nat → St → Hp → Prop, (∃ m, W 0 m σ H) ∧ ∀ i m σ H, W i m σ H →
      ((Itt K a).stop i H ∧ D.nx σ H) ∨ ((Itt K a).go i H ∧ ∃ N : St → Hp → Prop, (∀ σ' H', N σ' H' → ∃ m', m' < m ∧ W (i + 1) m' σ' H') ∧ ∀ x H', (Itt K a).yld i H x H' → g x σ H' fun σ2 H2 => tb { D with nx := N, ct := N, bk := D.nx } σ2 H2) := by
  refine ⟨fun i m σ H => m = xs.length - i ∧ i ≤ xs.length ∧ Pv i σ H, ⟨xs.length, by simp, Nat.zero_le _, h0⟩, ?_⟩
  rintro i m σ H ⟨rfl, hi, p⟩
  have q := hl i σ H hi p
  by_cases hlt : i < xs.length
  · refine .inr ⟨⟨xs, xs[i], q, by simp [hlt]⟩, Pv (i + 1), fun σ' H' p' => ⟨xs.length - (i + 1), by omega, rfl, hlt, p'⟩, fun x H' y => ?_⟩
    obtain ⟨e, y⟩ := y
    subst e
    exact hs i x σ _ (y xs q) p
  · have e : i = xs.length := by omega
    subst e
    exact .inl ⟨⟨xs, q, Nat.le_refl _⟩, hd σ H p⟩
theorem for_range {lo : Int} {n : Nat} {g : TG} {tb : TS} {D : Ends} {σ : St} {H : Hp} (Pv : Nat → St → Hp → Prop) (h0 : Pv 0 σ H)
    (hs : ∀ i σ H, i < n → Pv i σ H → g (.int (lo + i)) σ H fun σ2 H2 => tb { D with nx := Pv (i + 1), ct := Pv (i + 1), bk := D.nx } σ2 H2) (hd : ∀ σ H, Pv n σ H → D.nx σ H) :
    ∃ W : Nat → Nat → St → Hp → Prop, (∃ m, W 0 m σ H) ∧ ∀ i m σ H, W i m σ H →
      ((Itr lo n).stop i H ∧ D.nx σ H) ∨ ((Itr lo n).go i H ∧ ∃ N : St → Hp → Prop, (∀ σ' H', N σ' H' → ∃ m', m' < m ∧ W (i + 1) m' σ' H') ∧ ∀ x H', (Itr lo n).yld i H x H' → g x σ H' fun σ2 H2 => tb { D with nx := N, ct := N, bk := D.nx } σ2 H2) := by
  refine ⟨fun i m σ H => m = n - i ∧ i ≤ n ∧ Pv i σ H, ⟨n, by simp, Nat.zero_le _, h0⟩, ?_⟩
  rintro i m σ H ⟨rfl, hi, p⟩
  by_cases hlt : i < n
  · refine .inr ⟨hlt, Pv (i + 1), fun σ' H' p' => ⟨n - (i + 1), by omega, rfl, hlt, p'⟩, fun x H' y => ?_⟩
    obtain ⟨e, y⟩ := y
    subst e y
    exact hs i σ _ hlt p
  · have e : i = n := by omega
    subst e
    exact .inl ⟨Nat.le_refl _, hd σ H p⟩
end L2
namespace L2
open PySem PySem.Spec PyProof.Rows
noncomputable abbrev R2 := V → V → Hp → VK → Prop
noncomputable def OpR (X : Cx) (f : Value → Value → Sem Value) (r : R2) : Prop :=
  ∀ (pins : List (Addr × Obj)) (s : Shared) (σ : St) (H : Hp) (x y : V) (v u : Value) (Q : VK), Inv X pins σ H s → RelV x v → RelV y u → r x y H Q →
    wpAny (model X.prog X.w) X.A (f v u) (EP X pins σ Q) X.xe s
noncomputable def UnR (X : Cx) (f : Value → Sem Value) (r : V → Hp → VK → Prop) : Prop :=
  ∀ (pins : List (Addr × Obj)) (s : Shared) (σ : St) (H : Hp) (x : V) (v : Value) (Q : VK), Inv X pins σ H s → RelV x v → r x H Q →
    wpAny (model X.prog X.w) X.A (f v) (EP X pins σ Q) X.xe s
noncomputable def CallR (X : Cx) (f : Value) (r : List V → Hp → VK → Prop) : Prop :=
  ∀ (pins : List (Addr × Obj)) (s : Shared) (σ : St) (H : Hp) (xs : List V) (us : List Value) (Q : VK), Inv X pins σ H s → Vals xs us → r xs H Q →
    wpAny (model X.prog X.w) X.A (call f us) (EP X pins σ Q) X.xe s
noncomputable def TruR (X : Cx) (r : V → Hp → (Bool → Hp → Prop) → Prop) : Prop :=
  ∀ (pins : List (Addr × Obj)) (s : Shared) (σ : St) (H : Hp) (x : V) (v : Value) (Q : Bool → Hp → Prop), Inv X pins σ H s → RelV x v → r x H Q →
    wpAny (model X.prog X.w) X.A (truthy v) (TP X pins σ Q) X.xe s
noncomputable def tOp (r : R2) (ta tb : TE) : TE := fun σ H Q => ta σ H fun x H1 => tb σ H1 fun y H2 => r x y H2 Q
noncomputable def tUn (r : V → Hp → VK → Prop) (ta : TE) : TE := fun σ H Q => ta σ H fun x H1 => r x H1 Q
noncomputable def rI (C : Int → Int → Prop) (g : Int → Int → V) : R2 := fun x y H Q => ∃ i j, x = .int i ∧ y = .int j ∧ C i j ∧ Q (g i j) H
noncomputable def rI0 (g : Int → Int → V) : R2 := fun x y H Q => ∃ i j, x = .int i ∧ y = .int j ∧ Q (g i j) H
noncomputable def rU (g : Int → V) : V → Hp → VK → Prop := fun x H Q => ∃ i, x = .int i ∧ Q (g i) H
section
variable {X : Cx} {a b c : Expr} {ta tb tc : TE} {pos : Pos}
theorem binT (ha : PE X a ta) (hb : PE X b tb) {pins : List (Addr × Obj)} {s : Shared} {σ : St} {H : Hp} {R : V → V → Hp → Prop} (I : Inv X pins σ H s)
    (h : ta σ H fun x H1 => tb σ H1 fun y H2 => R x y H2) {Q : Value → Shared → Prop} {f : Value → Value → Sem Value}
    (hf : ∀ v u s2 x y H2, Inv X pins σ H2 s2 → RelV x v → RelV y u → R x y H2 → wpAny (model X.prog X.w) X.A (f v u) Q X.xe s2) :
    wpAny (model X.prog X.w) X.A (eval a X.env) (fun v s₁ => wpAny (model X.prog X.w) X.A (eval b X.env) (fun u s₂ => wpAny (model X.prog X.w) X.A (f v u) Q X.xe s₂) X.xe s₁) X.xe s := by
  refine thn (ha pins s σ H _ I h) fun v s1 ⟨x, H1, I1, r1, q1⟩ => ?_
  refine thn (hb pins s1 σ H1 _ I1 q1) fun u s2 ⟨y, H2, I2, r2, q2⟩ => ?_
  exact hf v u s2 x y H2 I2 r1 r2 q2
theorem pe_op {op : Operator} {r : R2} (ho : OpR X (binaryOp op) r) (ha : PE X a ta) (hb : PE X b tb) : PE X (.BinOp a op b pos) (tOp r ta tb) := by
  intro pins s σ H Q I h
  exact wpAny_BinOp (binT ha hb I h fun v u s2 x y H2 I2 rx ry q => ho pins s2 σ H2 x y v u Q I2 rx ry q)
theorem pe_un {op : UnaryOp} {r : V → Hp → VK → Prop} (ho : UnR X (unaryOp op) r) (ha : PE X a ta) : PE X (.UnaryOp op a pos) (tUn r ta) := by
  intro pins s σ H Q I h
  exact UnaryOp_ (thn (ha pins s σ H _ I h) fun v s1 ⟨x, H1, I1, r1, q1⟩ => ho pins s1 σ H1 x v Q I1 r1 q1)
theorem opI {f : Value → Value → Sem Value} {C : Int → Int → Prop} {g : Int → Int → Int}
    (rule : ∀ (i j : Int) (t u : Tok) (s : Shared) (Q : Value → Shared → Prop) (E : Value → Shared → Prop), C i j → Q (.int (g i j) s.toks) { s with toks := s.toks + 1 } → wpAny (model X.prog X.w) X.A (f (.int i t) (.int j u)) Q E s) :
    OpR X f (rI C fun i j => .int (g i j)) := by
  intro pins s σ H x y v u Q I rx ry h
  obtain ⟨i, j, rfl, rfl, hc, q⟩ := h
  obtain ⟨t, rfl⟩ := rx
  obtain ⟨t', rfl⟩ := ry
  exact rule i j t t' s _ _ hc ⟨.int (g i j), H, I.tok _, ⟨_, rfl⟩, q⟩
theorem opI0 {f : Value → Value → Sem Value} {g : Int → Int → Int}
    (rule : ∀ (i j : Int) (t u : Tok) (s : Shared) (Q : Value → Shared → Prop) (E : Value → Shared → Prop), Q (.int (g i j) s.toks) { s with toks := s.toks + 1 } → wpAny (model X.prog X.w) X.A (f (.int i t) (.int j u)) Q E s) :
    OpR X f (rI0 fun i j => .int (g i j)) := by
  intro pins s σ H x y v u Q I rx ry h
  obtain ⟨i, j, rfl, rfl, q⟩ := h
  obtain ⟨t, rfl⟩ := rx
  obtain ⟨t', rfl⟩ := ry
  exact rule i j t t' s _ _ ⟨.int (g i j), H, I.tok _, ⟨_, rfl⟩, q⟩
theorem opB0 {f : Value → Value → Sem Value} {g : Int → Int → Bool}
    (rule : ∀ (i j : Int) (t u : Tok) (s : Shared) (Q : Value → Shared → Prop) (E : Value → Shared → Prop), Q (.bool (g i j)) s → wpAny (model X.prog X.w) X.A (f (.int i t) (.int j u)) Q E s) :
    OpR X f (rI0 fun i j => .bl (g i j)) := by
  intro pins s σ H x y v u Q I rx ry h
  obtain ⟨i, j, rfl, rfl, q⟩ := h
  obtain ⟨t, rfl⟩ := rx
  obtain ⟨t', rfl⟩ := ry
  exact rule i j t t' s _ _ ⟨.bl (g i j), H, I, rfl, q⟩
noncomputable def CDiv (i j : Int) : Prop := 0 < j ∧ j < 1073741824
noncomputable def CPow (i j : Int) : Prop := 0 ≤ j ∧ j ≤ 1000000 ∧ i.natAbs < 2 ^ 64
theorem op_add : OpR X (binaryOp .Add) (rI0 fun i j => .int (i + j)) := opI0 fun _ _ _ _ _ _ _ q => add_int q
theorem op_sub : OpR X (binaryOp .Sub) (rI0 fun i j => .int (i - j)) := opI0 fun _ _ _ _ _ _ _ q => sub_int q
theorem op_fdiv : OpR X (binaryOp .FloorDiv) (rI CDiv fun i j => .int (i / j)) := opI fun i j _ _ _ _ _ hc q => by
  have h1 : (0 : Int) < j := hc.1
  have h2 : j < 1073741824 := hc.2
  exact floordiv_int (by omega) (by rw [Int.fdiv_eq_ediv_of_nonneg i (by omega)]; exact q) (.inl (PyProof.noPylong_small (by omega)))
theorem op_mod : OpR X (binaryOp .Mod) (rI (fun _ j => 0 < j) fun i j => .int (i % j)) := opI fun i j _ _ _ _ _ hc q => by
  have h1 : (0 : Int) < j := hc
  exact mod_int' (by omega) (by rw [Int.fmod_eq_emod_of_nonneg i (by omega)]; exact q)
theorem op_pow : OpR X (binaryOp .Pow) (rI CPow fun i j => .int (i ^ j.toNat)) := opI fun _ _ _ _ _ _ _ hc q => pow_int_small hc.1 hc.2.1 hc.2.2 q
theorem unI {f : Value → Sem Value} {g : Int → Int}
    (rule : ∀ (i : Int) (t : Tok) (s : Shared) (Q : Value → Shared → Prop) (E : Value → Shared → Prop), Q (.int (g i) s.toks) { s with toks := s.toks + 1 } → wpAny (model X.prog X.w) X.A (f (.int i t)) Q E s) :
    UnR X f (rU fun i => .int (g i)) := by
  intro pins s σ H x v Q I rx h
  obtain ⟨i, rfl, q⟩ := h
  obtain ⟨t, rfl⟩ := rx
  exact rule i t s _ _ ⟨.int (g i), H, I.tok _, ⟨_, rfl⟩, q⟩
theorem un_neg : UnR X (unaryOp .USub) (rU fun i => .int (-i)) := unI fun _ _ _ _ _ q => neg_int q
end
noncomputable def scal : V → V → Bool
  | .non, .non => true | .non, .int _ => true | .int _, .non => true | .non, .bl _ => true | .bl _, .non => true | .non, .str _ => true | .str _, .non => true
  | .int _, .int _ => true | .bl _, .bl _ => true | .str _, .str _ => true | .byt _, .byt _ => true
  | .int _, .str _ => true | .str _, .int _ => true | .bl _, .str _ => true | .str _, .bl _ => true
  | _, _ => false
noncomputable def rEq : R2 := fun x y H Q => scal x y = true ∧ Q (.bl (decide (x = y))) H
noncomputable def rNe : R2 := fun x y H Q => scal x y = true ∧ Q (.bl (!decide (x = y))) H
theorem dec_int {i j : Int} : decide (V.int i = V.int j) = (i == j) := by
  rw [Bool.eq_iff_iff]
  simp
theorem dec_bl {i j : Bool} : decide (V.bl i = V.bl j) = (i == j) := by
  rw [Bool.eq_iff_iff]
  simp
theorem dec_str {i j : Str} : decide (V.str i = V.str j) = (i == j) := by
  rw [Bool.eq_iff_iff]
  simp
theorem dec_byt {i j : Array UInt8} : decide (V.byt i = V.byt j) = (i.toList == j.toList) := by
  rw [Bool.eq_iff_iff]
  cases i
  cases j
  simp
section
variable {X : Cx} {a b c : Expr} {ta tb tc : TE} {pos : Pos}
theorem fin_bl {pins : List (Addr × Obj)} {σ : St} {H : Hp} {s : Shared} {Q : VK} {k k' : Bool} (I : Inv X pins σ H s) (q : Q (.bl k) H) (e : k = k') : EP X pins σ Q (.bool k') s := by
  subst e
  exact ⟨.bl k, H, I, rfl, q⟩
theorem op_eq : OpR X (compareOp .Eq) rEq := by
  intro pins s σ H x y v u Q I rx ry h
  obtain ⟨hs, q⟩ := h
  cases x with
  | non =>
    cases rx
    cases y with
    | non => cases ry; exact PySem.EqNone.eq_none_none (fin_bl I q (by simp))
    | bl j => cases ry; exact PySem.EqNone.eq_none_bool (fin_bl I q (by simp))
    | int j => obtain ⟨t', rfl⟩ := ry; exact PySem.EqNone.eq_none_int (fin_bl I q (by simp))
    | str j => obtain ⟨t', rfl⟩ := ry; exact PySem.EqNone.eq_none_str (fin_bl I q (by simp))
    | _ => exact absurd (show false = true from hs) Bool.false_ne_true
  | bl i =>
    cases rx
    cases y with
    | non => cases ry; exact PySem.EqNone.eq_bool_none (fin_bl I q (by simp))
    | bl j => cases ry; exact eq_bool (fin_bl I q dec_bl)
    | str j => obtain ⟨t', rfl⟩ := ry; exact PySem.EqMixed.eq_bool_str (fin_bl I q (by simp))
    | _ => exact absurd (show false = true from hs) Bool.false_ne_true
  | int i =>
    obtain ⟨t, rfl⟩ := rx
    cases y with
    | non => cases ry; exact PySem.EqNone.eq_int_none (fin_bl I q (by simp))
    | int j => obtain ⟨t', rfl⟩ := ry; exact eq_int (fin_bl I q dec_int)
    | str j => obtain ⟨t', rfl⟩ := ry; exact PySem.EqMixed.eq_int_str (fin_bl I q (by simp))
    | _ => exact absurd (show false = true from hs) Bool.false_ne_true
  | str i =>
    obtain ⟨t, rfl⟩ := rx
    cases y with
    | non => cases ry; exact PySem.EqNone.eq_str_none (fin_bl I q (by simp))
    | bl j => cases ry; exact PySem.EqMixed.eq_str_bool (fin_bl I q (by simp))
    | int j => obtain ⟨t', rfl⟩ := ry; exact PySem.EqMixed.eq_str_int (fin_bl I q (by simp))
    | str j => obtain ⟨t', rfl⟩ := ry; exact eq_str (fin_bl I q dec_str)
    | _ => exact absurd (show false = true from hs) Bool.false_ne_true
  | byt i =>
    obtain ⟨t, rfl⟩ := rx
    cases y with
    | byt j => obtain ⟨t', rfl⟩ := ry; exact PySem.W.eq_bytes (fin_bl I q dec_byt)
    | _ => exact absurd (show false = true from hs) Bool.false_ne_true
  | _ => cases y <;> exact absurd (show false = true from hs) Bool.false_ne_true
theorem op_ne : OpR X (compareOp .NotEq) rNe := by
  intro pins s σ H x y v u Q I rx ry h
  obtain ⟨hs, q⟩ := h
  cases x with
  | non =>
    cases rx
    cases y with
    | non => cases ry; exact PySem.EqNone.ne_none_none (fin_bl I q (by simp))
    | bl j => cases ry; exact PySem.EqNone.ne_none_bool (fin_bl I q (by simp))
    | int j => obtain ⟨t', rfl⟩ := ry; exact PySem.EqNone.ne_none_int (fin_bl I q (by simp))
    | str j => obtain ⟨t', rfl⟩ := ry; exact PySem.EqNone.ne_none_str (fin_bl I q (by simp))
    | _ => exact absurd (show false = true from hs) Bool.false_ne_true
  | bl i =>
    cases rx
    cases y with
    | non => cases ry; exact PySem.EqNone.ne_bool_none (fin_bl I q (by simp))
    | bl j => cases ry; exact ne_bool (fin_bl I q (congrArg not dec_bl))
    | str j => obtain ⟨t', rfl⟩ := ry; exact PySem.EqMixed.ne_bool_str (fin_bl I q (by simp))
    | _ => exact absurd (show false = true from hs) Bool.false_ne_true
  | int i =>
    obtain ⟨t, rfl⟩ := rx
    cases y with
    | non => cases ry; exact PySem.EqNone.ne_int_none (fin_bl I q (by simp))
    | int j => obtain ⟨t', rfl⟩ := ry; exact ne_int (fin_bl I q (congrArg not dec_int))
    | str j => obtain ⟨t', rfl⟩ := ry; exact PySem.EqMixed.ne_int_str (fin_bl I q (by simp))
    | _ => exact absurd (show false = true from hs) Bool.false_ne_true
  | str i =>
    obtain ⟨t, rfl⟩ := rx
    cases y with
    | non => cases ry; exact PySem.EqNone.ne_str_none (fin_bl I q (by simp))
    | bl j => cases ry; exact PySem.EqMixed.ne_str_bool (fin_bl I q (by simp))
    | int j => obtain ⟨t', rfl⟩ := ry; exact PySem.EqMixed.ne_str_int (fin_bl I q (by simp))
    | str j => obtain ⟨t', rfl⟩ := ry; exact ne_str (fin_bl I q (congrArg not dec_str))
    | _ => exact absurd (show false = true from hs) Bool.false_ne_true
  | byt i =>
    obtain ⟨t, rfl⟩ := rx
    cases y with
    | byt j => obtain ⟨t', rfl⟩ := ry; exact PySem.W.ne_bytes (fin_bl I q (congrArg not dec_byt))
    | _ => exact absurd (show false = true from hs) Bool.false_ne_true
  | _ => cases y <;> exact absurd (show false = true from hs) Bool.false_ne_true
theorem op_lt : OpR X (compareOp .Lt) (rI0 fun i j => .bl (decide (i < j))) := opB0 fun _ _ _ _ _ _ _ q => lt_int q
theorem op_le : OpR X (compareOp .LtE) (rI0 fun i j => .bl (decide (i ≤ j))) := opB0 fun _ _ _ _ _ _ _ q => le_int q
theorem op_gt : OpR X (compareOp .Gt) (rI0 fun i j => .bl (decide (j < i))) := opB0 fun _ _ _ _ _ _ _ q => gt_int q
theorem op_ge : OpR X (compareOp .GtE) (rI0 fun i j => .bl (decide (j ≤ i))) := opB0 fun _ _ _ _ _ _ _ q => ge_int q
theorem nomark (b : Expr) {op : CmpOp} (h : op ≠ .In := by decide) (h2 : op ≠ .NotIn := by decide) : behindInMarks op b = false := by
  have e1 : (op == CmpOp.In) = false := by cases op <;> first | rfl | exact absurd rfl h
  have e2 : (op == CmpOp.NotIn) = false := by cases op <;> first | rfl | exact absurd rfl h2
  cases b <;> simp [behindInMarks, e1, e2]
theorem pe_cmpR {op : CmpOp} {r : R2} (ho : OpR X (compareOp op) r) (ha : PE X a ta) (hb : PE X b tb) (hm : behindInMarks op b = false) : PE X (.Compare a [op] [b] pos) (tOp r ta tb) := by
  intro pins s σ H Q I h
  exact wpAny_Compare1 (binT ha hb I h fun v u s2 x y H2 I2 rx ry q => ho pins s2 σ H2 x y v u Q I2 rx ry q) hm
noncomputable def tTest (t : TE) : TT := fun σ H Q => t σ H fun x H' => ∃ k, x = .bl k ∧ Q k H'
theorem pt_cmpR {op : CmpOp} {r : R2} (ho : OpR X (compareOp op) r) (ha : PE X a ta) (hb : PE X b tb) (hm : behindInMarks op b = false) : PT X (.Compare a [op] [b] pos) (tTest (tOp r ta tb)) := by
  intro pins s σ H Q I h
  refine wpAny_isTrue_Compare1 (thn (ha pins s σ H _ I h) fun v s1 ⟨x, H1, I1, r1, q1⟩ => thn (hb pins s1 σ H1 _ I1 q1) fun u s2 ⟨y, H2, I2, r2, q2⟩ =>
    thn (ho pins s2 σ H2 x y v u _ I2 r1 r2 q2) fun c s3 ⟨z, H3, I3, r3, k, e, q3⟩ => ?_) hm
  subst e
  cases r3
  exact wpAny_truthy_bool ⟨H3, I3, q3⟩
noncomputable def tChain (r r' : R2) (ta tb tc : TE) : TE := fun σ H Q => ta σ H fun x H1 => tb σ H1 fun y H2 => r x y H2 fun z H3 => ∃ k, z = .bl k ∧
  (if k = true then tc σ H3 fun w' H4 => r' y w' H4 Q else Q (.bl false) H3)
theorem pe_chain {op op' : CmpOp} {r r' : R2} (ho : OpR X (compareOp op) r) (ho' : OpR X (compareOp op') r') (ha : PE X a ta) (hb : PE X b tb) (hc : PE X c tc)
    (hm : lastMarks [op, op'] [b, c] = false := by with_unfolding_all rfl) : PE X (.Compare a [op, op'] [b, c] pos) (tChain r r' ta tb tc) := by
  intro pins s σ H Q I h
  refine Compare_chain (thn (ha pins s σ H _ I h) fun v s1 ⟨x, H1, I1, r1, q1⟩ => chain_link (thn (hb pins s1 σ H1 _ I1 q1) fun u s2 ⟨y, H2, I2, r2, q2⟩ =>
    thn (ho pins s2 σ H2 x y v u _ I2 r1 r2 q2) fun d s3 ⟨z, H3, I3, r3, k, e, q3⟩ => ?_)) hm
  subst e
  cases r3
  refine wpAny_truthy_bool ?_
  cases k with
  | false => exact ite_ff ⟨.bl false, H3, I3, rfl, q3⟩
  | true => exact ite_tt (chain_last (thn (hc pins s3 σ H3 _ I3 q3) fun w' s4 ⟨z', H4, I4, r4, q4⟩ => ho' pins s4 σ H4 y z' u w' Q I4 r2 r4 q4))
theorem pt_chain {op op' : CmpOp} {r r' : R2} (ho : OpR X (compareOp op) r) (ho' : OpR X (compareOp op') r') (ha : PE X a ta) (hb : PE X b tb) (hc : PE X c tc)
    (hm : lastMarks [op, op'] [b, c] = false := by with_unfolding_all rfl) : PT X (.Compare a [op, op'] [b, c] pos) (tTest (tChain r r' ta tb tc)) := by
  intro pins s σ H Q I h
  refine isTrue_chain (thn (ha pins s σ H _ I h) fun v s1 ⟨x, H1, I1, r1, q1⟩ => test_link (thn (hb pins s1 σ H1 _ I1 q1) fun u s2 ⟨y, H2, I2, r2, q2⟩ =>
    thn (ho pins s2 σ H2 x y v u _ I2 r1 r2 q2) fun d s3 ⟨z, H3, I3, r3, k, e, q3⟩ => ?_)) hm
  subst e
  cases r3
  refine wpAny_truthy_bool ?_
  cases k with
  | false =>
    obtain ⟨k', e', q'⟩ := q3
    cases e'
    exact ite_ff ⟨H3, I3, q'⟩
  | true =>
    refine ite_tt (test_last (thn (hc pins s3 σ H3 _ I3 q3) fun w' s4 ⟨z', H4, I4, r4, q4⟩ => thn (ho' pins s4 σ H4 y z' u w' _ I4 r2 r4 q4) fun d' s5 ⟨z2, H5, I5, r5, k2, e2, q5⟩ => ?_))
    subst e2
    cases r5
    exact wpAny_truthy_bool ⟨H5, I5, q5⟩
noncomputable def TruV (K : PySem.W.Frag) (x : V) (H : Hp) (k : Bool) : Prop :=
  match x with
  | .non => k = false
  | .bl b => k = b
  | .int i => k = (i != 0)
  | .str y => y.length ≤ sizeLine ∧ k = ((y.length : Int) != 0)
  | .byt y => y.size ≤ sizeLine ∧ k = ((y.size : Int) != 0)
  | .ref p => (∃ xs, SqL K H p xs ∧ k = !xs.isEmpty) ∨ (∃ xs, SqT K H p xs ∧ k = !xs.isEmpty) ∨ ∃ kvs, H p = some (.dK kvs) ∧ k = !kvs.isEmpty
  | _ => False
theorem isEmpty_kv {κ : Type} {kvs : List (κ × V)} {vs : List (κ × Value)} (r : KV kvs vs) : (!vs.isEmpty) = !kvs.isEmpty := by
  cases r <;> rfl
theorem isEmpty_of {xs : List V} {its : List Value} (r : Vals xs its) : (!its.toArray.isEmpty) = !xs.isEmpty := by
  cases r <;> simp
theorem line63 : (sizeLine : Nat) < 2 ^ 63 := by rw [sizeLine_eq]; decide
theorem tru_ok : TruR X (fun x H Q => ∃ k, TruV X.K x H k ∧ Q k H) := by
  intro pins s σ H x v Q I rx h
  obtain ⟨k, e, q⟩ := h
  have hl := line63
  have hs : sizeLine = 16777216 := sizeLine_eq
  cases x with
  | non =>
    cases rx
    have e' : k = false := e
    subst e'
    exact truthy_none ⟨H, I, q⟩
  | bl b =>
    cases rx
    have e' : k = b := e
    subst e'
    exact wpAny_truthy_bool ⟨H, I, q⟩
  | int i =>
    obtain ⟨t, rfl⟩ := rx
    have e' : k = (i != 0) := e
    subst e'
    exact PySem.P.truthy_int ⟨H, I, q⟩
  | str y =>
    obtain ⟨t, rfl⟩ := rx
    obtain ⟨hy, e'⟩ : y.length ≤ sizeLine ∧ k = ((y.length : Int) != 0) := e
    subst e'
    exact PySem.P.truthy_str (by omega) ⟨H, I.tok _, q⟩
  | byt y =>
    obtain ⟨t, rfl⟩ := rx
    obtain ⟨hy, e'⟩ : y.size ≤ sizeLine ∧ k = ((y.size : Int) != 0) := e
    subst e'
    exact PySem.W.truthy_bytes (by omega) ⟨H, I.tok _, q⟩
  | ref p =>
    cases rx
    have e' : (∃ xs, SqL X.K H p xs ∧ k = !xs.isEmpty) ∨ (∃ xs, SqT X.K H p xs ∧ k = !xs.isEmpty) ∨ ∃ kvs, H p = some (.dK kvs) ∧ k = !kvs.isEmpty := e
    rcases e' with ⟨xs, hx, e'⟩ | ⟨xs, hx, e'⟩ | ⟨kvs, hx, e'⟩
    · subst e'
      obtain ⟨its, r, pl, hz⟩ := I.list hx
      have hlen := r.length
      exact wpAny_truthy_list pl.isList (by simp only [List.size_toArray]; omega) ⟨H, I.tok _, by rw [isEmpty_of r]; exact q⟩
    · subst e'
      obtain ⟨its, r, pl, hz⟩ := I.tuple hx
      have hlen := r.length
      exact truthy_tuple pl (by simp only [List.size_toArray]; omega) ⟨H, I.tok _, by rw [isEmpty_of r]; exact q⟩
    · subst e'
      obtain ⟨hz, hS, vs, r, m⟩ : kvs.length ≤ sizeLine ∧ (p == sysModules) = false ∧ ∃ vs, KV kvs vs ∧ s.heap.DictOf (mixKind X.prog X.w) p vs := I.hok p _ hx
      have hlen : kvs.length = vs.length := Paired.length r
      exact wpAny_truthy_dict hS m (by omega) ⟨H, I.tok _, by rw [isEmpty_kv r]; exact q⟩
  | _ => exact (show False from e).elim
theorem pt_truth (ha : PE X a ta) (he : ∀ whole, isTrue a X.env whole = (do let v ← whole; standAt a.pos; holding [v] (truthy v))) :
    PT X a (fun σ H Q => ta σ H fun x H' => ∃ k, TruV X.K x H' k ∧ Q k H') := by
  intro pins s σ H Q I h
  exact isTrue_plain (thn (ha pins s σ H _ I h) fun v s1 ⟨x, H1, I1, r1, q1⟩ => tru_ok pins s1 σ H1 x v Q I1 r1 q1) (he _)
theorem vals1 {x : V} {us : List Value} (r : Vals [x] us) : ∃ u, us = [u] ∧ RelV x u := by
  cases r with
  | cons r1 r2 => cases r2; exact ⟨_, rfl, r1⟩
theorem vals2 {x y : V} {us : List Value} (r : Vals [x, y] us) : ∃ u w', us = [u, w'] ∧ RelV x u ∧ RelV y w' := by
  cases r with
  | cons r1 r2 =>
    cases r2 with
    | cons r3 r4 => cases r4; exact ⟨_, _, rfl, r1, r3⟩
theorem call_max2 (hc : X.calm = true) : CallR X (.builtin "max") (fun xs H Q => ∃ i j, xs = [.int i, .int j] ∧ Q (.int (if j > i then j else i)) H) := by
  intro pins s σ H xs us Q I r h
  obtain ⟨i, j, rfl, q⟩ := h
  obtain ⟨u, w', rfl, ⟨t, rfl⟩, ⟨t', rfl⟩⟩ := vals2 r
  refine max_two_ints (I.ok.hd hc) fun h' tk k => ⟨_, H, I.kept k, ?_, q⟩
  by_cases hj : j > i
  · rw [if_pos hj, if_pos hj]; exact ⟨_, rfl⟩
  · rw [if_neg hj, if_neg hj]; exact ⟨_, rfl⟩
theorem call_int1 : CallR X (.type "int") (fun xs H Q => (∃ i, xs = [.int i] ∧ Q (.int i) H) ∨ ∃ k, xs = [.bl k] ∧ Q (.int (if k then 1 else 0)) H) := by
  intro pins s σ H xs us Q I r h
  rcases h with ⟨i, rfl, q⟩ | ⟨k, rfl, q⟩
  · obtain ⟨u, rfl, t, rfl⟩ := vals1 r
    exact call_int_int ⟨.int i, H, I, ⟨_, rfl⟩, q⟩
  · obtain ⟨u, rfl, r1⟩ := vals1 r
    cases r1
    exact call_int_bool ⟨.int (if k then 1 else 0), H, I.tok _, ⟨_, rfl⟩, q⟩
end
end L2
namespace L2
open PySem PySem.Spec PyProof.Rows
structure ObjM (h : Heap) (x dx C : Addr) (mA : Str → Option Value) : Prop where
  obj : h.get? x = some (PySem.W.instObj C dx)
  ns : h.Ns1 dx mA
  ne : dx ≠ x
theorem lookIn_ns {h : Heap} {dx : Addr} {mA : Str → Option Value} (n : h.Ns1 dx mA) : ∃ od, h.get? dx = some od ∧ ∀ name, PySem.W.lookIn name od = some (mA name) := by
  obtain ⟨o, es, ep, ho, hd, hk, _, hm⟩ := n
  refine ⟨o, ho, fun name => ?_⟩
  have e := hm name
  unfold nsFind findBy at e
  rw [← Array.find?_toList] at e
  unfold PySem.W.lookIn
  rw [hd]
  dsimp only
  split
  · rename_i y q
    rw [q] at e
    exact congrArg some e
  · rename_i q
    rw [q] at e
    have a : es.toList.any (·.refKey) = false := by
      rw [List.any_eq_false]
      intro y hy
      obtain ⟨z, t, hkey⟩ := hk y (Array.mem_toList_iff.mp hy)
      simp [DictEntry.refKey, hkey]
    have a' : ¬ es.toList.any (·.refKey) = true := by rw [a]; exact Bool.false_ne_true
    rw [if_neg a']
    exact congrArg some e
theorem ObjM.look {h : Heap} {x dx C : Addr} {mA : Str → Option Value} (I : ObjM h x dx C mA) : ∃ od, PySem.W.InstAt h x (PySem.W.instObj C dx) C (some od) ∧ ∀ name, PySem.W.lookIn name od = some (mA name) :=
  let ⟨od, ho, hl⟩ := lookIn_ns I.ns
  ⟨od, ⟨I.obj, rfl, rfl, ho⟩, hl⟩
section
variable {prog : Program} {w : World} {A : Around} {E : Value → Shared → Prop} {s : Shared} {K : PySem.W.Frag} {x dx C f : Addr} {mA : Str → Option Value} {name : Str} {v : Value}
theorem get_map {expr : Bool} {Q : Value → Shared → Prop} (X : K.In s.heap) (I : ObjM s.heap x dx C mA) (hg : PySem.W.plainGet K C name = true) (hh : PySem.W.hasDictIn K C = true)
    (ha : PySem.W.findIn K (.ref C) name = some none) (hv : mA name = some v) (hv' : PySem.W.handedIn v = true) (h : Q v { s with toks := s.toks + 1 }) :
    wpAny (model prog w) A (getAttr (.ref x) name expr) Q E s := by
  obtain ⟨od, J, hl⟩ := I.look
  exact PySem.W.get_value X J (PySem.W.plainGet_of hg).1 (PySem.W.findObj_own hh ha rfl (by rw [hl, hv])) hv' h
theorem get_meth {pl : Sem Bool} {Q : Value × List Value → Shared → Prop} (X : K.In s.heap) (I : ObjM s.heap x dx C mA) (hg : PySem.W.plainGet K C name = true)
    (hf : PySem.W.findIn K (.ref C) name = some (some (.ref f))) (ht : PySem.W.isFn K (.ref f) = true) (hv : mA name = none) (h : Q (.ref f, [.ref x]) s) :
    wpAny (model prog w) A (getMethod (.ref x) name pl) Q E s := by
  obtain ⟨od, J, hl⟩ := I.look
  exact PySem.W.method_fn X J (PySem.W.plainGet_of hg).1 (PySem.W.plainGet_of hg).2 hf (beq_iff_eq.mp ht) (by show (PySem.W.lookIn name od).map (·.isSome) = some false; rw [hl, hv]; rfl) h
theorem set_map {ns : List Str} {Q : Unit → Shared → Prop} (X : K.In s.heap) (I : ObjM s.heap x dx C mA)
    (hs : PySem.W.findIn K (.ref C) "__setattr__" = some (some (.builtin "object.__setattr__"))) (hp : PySem.W.plainOver K C = true) (ht : PySem.W.takerIn K C name = some none) (hh : PySem.W.hasDictIn K C = true)
    (hw : PySem.Within mA ns) (hsz : ns.length ≤ sizeLine)
    (h : ∀ h', ObjM h' x dx C (fun y => if y = name then some v else mA y) → Heap.SameBut dx s.heap h' → Q () { s with heap := h', toks := s.toks + 2 }) :
    wpAny (model prog w) A (setAttr (.ref x) name v) Q E s := by
  obtain ⟨od, J, hl⟩ := I.look
  refine PySem.W.set_plain X J hs (PySem.W.osa_open (s := { s with toks := s.toks + 1 }) (r := none) X J hp ht fun b => ?_)
  obtain ⟨cd, hc, hd'⟩ := PySem.W.any_some hh
  have hx : s.heap.get? x = some ⟨.ref C, some dx, .plain, #[]⟩ := I.obj
  refine wpAny_bind (wpAny_pure (wpAny_bind (wpAny_bind (wpAny_loadPart hx (wpAny_bind (PySem.W.Looks.here (s := { s with toks := s.toks + 1 }) (PySem.W.looks_clsIn X hc) ?_))))))
  rw [hd']
  refine wpAny_pure (a := some dx) (wpAny_bind (wpAny_pure (wpAny_bind ?_)))
  refine wpAny_nsSet1 (s := { s with toks := s.toks + 1 }) I.ns fun h' hn2 hs2 => ?_
  obtain ⟨oD, esD, epD, hoD, hdD, hcD⟩ := hn2.count (PySem.Within.cons name v hw)
  refine wpAny_bind (wpAny_lookBehind hoD (by rw [hdD]; exact pastItsLine_dict (Nat.le_trans hcD (by rw [List.length_cons]; omega))) ?_)
  exact wpAny_pure (h _ ⟨(hs2.2 _ (Ne.symm I.ne)).trans I.obj, hn2, I.ne⟩ hs2)
theorem make_map {R : Result → Shared → Prop} {vs : List Value} {kw : List (Str × Value)} (X : K.In s.heap) (hm : PySem.W.makesIn K C = true)
    (hi : PySem.W.findIn K (.ref C) "__init__" = some (some (.ref f))) (hf : PySem.W.typeIn K (.ref f) = some (.type "function"))
    (h : codeAny (model prog w) (A.under (.builtin "type.__call__" ⟨.ref C :: vs, kw⟩)) (.call (.ref f) ⟨.ref (s.heap.objs.size + 1) :: vs, kw⟩) (PySem.W.InitBack (s.heap.objs.size + 1) R)
      { s with heap := (s.heap.push PySem.W.emptyDict).push (PySem.W.instObj C s.heap.objs.size) }) :
    codeAny (model prog w) A (.call (.ref C) ⟨vs, kw⟩) R s := by
  obtain ⟨hh, g, d, t, os⟩ := s
  exact PySem.W.make_core (PySem.W.makes_of X hm) (PySem.W.looks_findIn X hi) (fun self => PySem.W.bind_fn X self hf) (.inl rfl) h
end
noncomputable def putF (f : Str) (v : V) : List (Str × V) → List (Str × V)
  | [] => [(f, v)]
  | (g, x) :: r => if g = f then (g, v) :: r else (g, x) :: putF f v r
theorem lookup_putF (f g : Str) (v : V) : ∀ fs : List (Str × V), (putF f v fs).lookup g = if g = f then some v else fs.lookup g
  | [] => by
    show List.lookup g [(f, v)] = _
    by_cases h : g = f
    · have hb : (g == f) = true := beq_iff_eq.mpr h
      simp only [List.lookup, hb, if_pos h]
    · have hb : (g == f) = false := beq_eq_false_iff_ne.mpr h
      simp only [List.lookup, hb, if_neg h]
  | (k, x) :: r => by
    have ih := lookup_putF f g v r
    rw [show putF f v ((k, x) :: r) = (if k = f then (k, v) :: r else (k, x) :: putF f v r) from rfl]
    by_cases hk : k = f
    · rw [if_pos hk]
      by_cases h : g = k
      · have hb : (g == k) = true := beq_iff_eq.mpr h
        simp only [List.lookup, hb, if_pos (h.trans hk)]
      · have hb : (g == k) = false := beq_eq_false_iff_ne.mpr h
        simp only [List.lookup, hb, if_neg (fun e : g = f => h (e.trans hk.symm))]
    · rw [if_neg hk]
      by_cases h : g = k
      · have hb : (g == k) = true := beq_iff_eq.mpr h
        simp only [List.lookup, hb, if_neg (fun e : g = f => hk (h.symm.trans e))]
      · have hb : (g == k) = false := beq_eq_false_iff_ne.mpr h
        simp only [List.lookup, hb]
        exact ih
theorem keys_putF (f : Str) (v : V) : ∀ fs : List (Str × V), f ∈ (putF f v fs).map (·.1) ∧ ∀ g, g ∈ fs.map (·.1) → g ∈ (putF f v fs).map (·.1)
  | [] => ⟨by simp [putF], fun g h => by simp at h⟩
  | (k, x) :: r => by
    obtain ⟨i1, i2⟩ := keys_putF f v r
    rw [show putF f v ((k, x) :: r) = (if k = f then (k, v) :: r else (k, x) :: putF f v r) from rfl]
    by_cases hk : k = f
    · rw [if_pos hk]
      subst hk
      exact ⟨by simp, fun g h => by simpa using h⟩
    · rw [if_neg hk]
      refine ⟨?_, fun g h => ?_⟩
      · rw [List.map_cons]
        exact List.mem_cons_of_mem _ i1
      · rw [List.map_cons] at h ⊢
        rcases List.mem_cons.mp h with e | e
        · exact List.mem_cons.mpr (.inl e)
        · exact List.mem_cons_of_mem _ (i2 g e)
theorem length_putF (f : Str) (v : V) : ∀ fs : List (Str × V), (putF f v fs).length ≤ fs.length + 1
  | [] => by simp [putF]
  | (k, x) :: r => by
    have ih := length_putF f v r
    rw [show putF f v ((k, x) :: r) = (if k = f then (k, v) :: r else (k, x) :: putF f v r) from rfl]
    by_cases hk : k = f
    · rw [if_pos hk, List.length_cons, List.length_cons]; omega
    · rw [if_neg hk, List.length_cons, List.length_cons]; omega
theorem RelO.some_of {v : V} {o : Option Value} (r : RelO (some v) o) : ∃ u, o = some u ∧ RelV v u := by
  cases o with
  | none => exact (show False from r).elim
  | some u => exact ⟨u, rfl, r⟩
theorem RelO.none_of {o : Option Value} (r : RelO none o) : o = none := by
  cases o with
  | none => rfl
  | some u => exact (show False from r).elim
theorem handed_of {v : V} {u : Value} (r : RelV v u) : PySem.W.handedIn u = true := by
  cases v with
  | non => cases (show u = Value.none from r); rfl
  | bl b => cases (show u = Value.bool b from r); rfl
  | int i => obtain ⟨t, e⟩ := (show ∃ t, u = Value.int i t from r); cases e; rfl
  | str x => obtain ⟨t, e⟩ := (show ∃ t, u = Value.str x t from r); cases e; rfl
  | byt b => obtain ⟨t, e⟩ := (show ∃ t, u = Value.bytes b t from r); cases e; rfl
  | flt b => obtain ⟨t, e⟩ := (show ∃ t, u = Value.float b t from r); cases e; rfl
  | ref a => cases (show u = Value.ref a from r); rfl
  | ty n => cases (show u = Value.type n from r); rfl
section
variable {P : Program} {w : World} {H H' : Hp} {h h' : Heap} {a C dx : Addr} {fs fs' : List (Str × V)}
theorem ins_get (hok : HOk P w H h) (e : H a = some (.ins C dx fs)) : ∃ mA, ObjM h a dx C mA ∧ (∀ f, RelO (fs.lookup f) (mA f)) ∧ PySem.Within mA (fs.map (·.1)) ∧ fs.length ≤ 1000 ∧ H dx = some (.own a) := by
  obtain ⟨d, z, ne, ob, mA, n, r, q⟩ := (show ObjOk P w H h a (.ins C dx fs) from hok a _ e)
  exact ⟨mA, ⟨ob, n, ne⟩, r, q, z, d⟩
end
structure Cls (K : PySem.W.Frag) (C : Addr) : Prop where
  pg : PySem.W.plainGet K C Str.empty = true
  hd : PySem.W.hasDictIn K C = true
  po : PySem.W.plainOver K C = true
  sa : PySem.W.findIn K (.ref C) "__setattr__" = some (some (.builtin "object.__setattr__"))
theorem Cls.get {K : PySem.W.Frag} {C : Addr} (c : Cls K C) (f : Str) : PySem.W.plainGet K C f = true := c.pg
noncomputable def NoAttr (K : PySem.W.Frag) (C : Addr) (f : Str) : Prop := PySem.W.findIn K (.ref C) f = some none
theorem NoAttr.taker {K : PySem.W.Frag} {C : Addr} {f : Str} (n : NoAttr K C f) : PySem.W.takerIn K C f = some none := by
  unfold PySem.W.takerIn
  rw [show PySem.W.findIn K (.ref C) f = some none from n]
  rfl
structure Con (K : PySem.W.Frag) (C : Addr) (f : Str) (v : V) (u : Value) : Prop where
  at_ : PySem.W.findIn K (.ref C) f = some (some u)
  rel : RelV v u
  get : PySem.W.specialIn K u "__get__" = some none
  cp : PySem.W.copiedNames.contains f = false
structure Meth (K : PySem.W.Frag) (C : Addr) (m : Str) (f : Addr) : Prop where
  at_ : PySem.W.findIn K (.ref C) m = some (some (.ref f))
  fn : PySem.W.isFn K (.ref f) = true
  kp : PySem.W.keepIn K (.ref f) = true
section
variable {X : Cx} {pins : List (Addr × Obj)} {σ : St} {H : Hp} {s : Shared} {a C dx : Addr} {fs : List (Str × V)} {f : Str} {v : V} {A : Around} {E : Value → Shared → Prop}
theorem getattr_ok {b : Bool} {Q : Value → Shared → Prop} (I : Inv X pins σ H s) (e : H a = some (.ins C dx fs)) (c : Cls X.K C) (n : NoAttr X.K C f) (l : fs.lookup f = some v)
    (h : ∀ u s', Inv X pins σ H s' → RelV v u → Q u s') : wpAny (model X.prog X.w) A (getAttr (.ref a) f b) Q E s := by
  obtain ⟨mA, O, r, _, _, _⟩ := ins_get I.hok e
  obtain ⟨u, hu, ru⟩ := RelO.some_of (v := v) (o := mA f) (by rw [← l]; exact r f)
  exact get_map I.kIn O (c.get f) c.hd n hu (handed_of ru) (h u _ (I.tok _) ru)
theorem getmeth_ok {m : Str} {g : Addr} {pl : Sem Bool} {Q : Value × List Value → Shared → Prop} (I : Inv X pins σ H s) (e : H a = some (.ins C dx fs)) (c : Cls X.K C) (k : Meth X.K C m g) (l : fs.lookup m = none)
    (h : Q (.ref g, [.ref a]) s) : wpAny (model X.prog X.w) A (getMethod (.ref a) m pl) Q E s := by
  obtain ⟨mA, O, r, _, _, _⟩ := ins_get I.hok e
  have hn : mA m = none := RelO.none_of (by rw [← l]; exact r m)
  exact get_meth I.kIn O (c.get m) k.at_ k.fn hn h
theorem setattr_ok {y : V} {u : Value} {Q : Unit → Shared → Prop} (I : Inv X pins σ H s) (e : H a = some (.ins C dx fs)) (c : Cls X.K C) (n : NoAttr X.K C f) (hl : fs.length < 1000) (ry : RelV y u)
    (h : ∀ s', Inv X pins σ (upd H a (.ins C dx (putF f y fs))) s' → Q () s') : wpAny (model X.prog X.w) A (setAttr (.ref a) f u) Q E s := by
  obtain ⟨mA, O, r, wi, _, ho⟩ := ins_get I.hok e
  have hz : (fs.map (·.1)).length ≤ sizeLine := by rw [List.length_map, sizeLine_eq]; omega
  refine set_map I.kIn O c.sa c.po n.taker c.hd wi hz fun h' O' sb => h _ ?_
  have hd : ∃ o, h'.get? dx = some o := let ⟨o, _, _, e', _⟩ := O'.ns; ⟨o, e'⟩
  refine I.write (x := a) (e := dx) (by rw [e]; exact True.intro) (.inr ho) (fun b q hb z => (sb.2 b hb).trans z) hd ?_
  refine ⟨by rw [upd_ne O.ne]; exact ho, ?_, O.ne, O'.obj, _, O'.ns, fun g => ?_, fun g hg => ?_⟩
  · have := length_putF f y fs; omega
  · show RelO ((putF f y fs).lookup g) (if g = f then some u else mA g)
    rw [lookup_putF]
    by_cases q : g = f
    · rw [if_pos q, if_pos q]; exact ry
    · rw [if_neg q, if_neg q]; exact r g
  · by_cases q : g = f
    · rw [q]; exact (keys_putF f y fs).1
    · refine (keys_putF f y fs).2 g (wi g fun z => hg ?_)
      show (if g = f then some u else mA g) = none
      rw [if_neg q]; exact z
theorem Inv.made (I : Inv X pins σ H s) : Inv X pins σ (upd (upd H s.heap.objs.size (.own (s.heap.objs.size + 1))) (s.heap.objs.size + 1) (.ins C s.heap.objs.size []))
    { s with heap := (s.heap.push PySem.W.emptyDict).push (PySem.W.instObj C s.heap.objs.size) } := by
  have e1 : (s.heap.push PySem.W.emptyDict).get? s.heap.objs.size = some PySem.W.emptyDict := Heap.get?_push_size s.heap rfl
  have e2 : ((s.heap.push PySem.W.emptyDict).push (PySem.W.instObj C s.heap.objs.size)).get? (s.heap.objs.size + 1) = some (PySem.W.instObj C s.heap.objs.size) := by
    have := Heap.get?_push_size (s.heap.push PySem.W.emptyDict) (o := PySem.W.instObj C s.heap.objs.size) rfl
    rwa [Heap.size_push] at this
  have e3 : (s.heap.push PySem.W.emptyDict).Ns s.heap.objs.size (fun _ => none) := ⟨PySem.W.emptyDict, #[], _, e1, rfl, (fun e he => absurd he (by simp)), fun _ => rfl⟩
  have I1 := I.laid (a := s.heap.objs.size) (o := .own (s.heap.objs.size + 1)) (h' := s.heap.push PySem.W.emptyDict) (t' := s.toks) (fun b u q => Heap.get?_push_of_some _ q) (Nat.le_refl _) ⟨_, e1⟩
  refine I1.laid (a := s.heap.objs.size + 1) (o := .ins C s.heap.objs.size []) (t' := s.toks) (fun b u q => Heap.get?_push_of_some _ q) (Nat.le_of_eq (Heap.size_push _ _)) ?_
  have ne : s.heap.objs.size ≠ s.heap.objs.size + 1 := Nat.ne_of_lt (Nat.lt_succ_self _)
  refine ⟨by rw [upd_ne ne, upd_same], Nat.zero_le _, ne, e2, fun _ => none, (Heap.Ns1.of_empty e3).at fun o q => Heap.get?_push_of_some _ q, fun _ => True.intro, fun y hy => absurd rfl hy⟩
theorem attr_of {prog : Program} {w : World} {env : Env} {e : Expr} {f : Str} {pos : Pos} {s : Shared} {Q : Value → Shared → Prop} (hb : attributeBase e f env (eval e env) = eval e env)
    (h : wpAny (model prog w) A (eval e env) (fun o s₁ => wpAny (model prog w) A (getAttr o f true) Q E s₁) E s) : wpAny (model prog w) A (eval (.Attribute e f pos) env) Q E s :=
  Attribute_any_ h (by rw [arm_eval_Attribute, hb])
end
noncomputable def tFld (K : PySem.W.Frag) (ta : TE) (f : Str) : TE := fun σ H Q => ta σ H fun x H1 => ∃ a C dx fs v, x = .ref a ∧ H1 a = some (.ins C dx fs) ∧ Cls K C ∧ NoAttr K C f ∧ fs.lookup f = some v ∧ Q v H1
noncomputable def sFld (K : PySem.W.Frag) (ta tv : TE) (f : Str) : TS := fun D σ H => tv σ H fun y H1 => ta σ H1 fun x H2 => ∃ a C dx fs, x = .ref a ∧ H2 a = some (.ins C dx fs) ∧ Cls K C ∧ NoAttr K C f ∧ fs.length < 1000 ∧
  D.nx σ (upd H2 a (.ins C dx (putF f y fs)))
section
variable {X : Cx} {o e value : Expr} {f : Str} {pos pos' tpos : Pos} {ta tv : TE}
theorem pe_fld (he : PE X e ta) (hb : attributeBase e f X.env (eval e X.env) = eval e X.env) : PE X (.Attribute e f pos) (tFld X.K ta f) := by
  intro pins s σ H Q I h
  refine attr_of hb (thn (he pins s σ H _ I h) fun u s1 ⟨x, H1, I1, rx, a, C, dx, fs, v, ex, ea, c, n, l, q⟩ => ?_)
  subst ex
  obtain rfl : u = Value.ref a := rx
  exact getattr_ok I1 ea c n l fun u' s2 I2 ru => ⟨v, H1, I2, ru, q⟩
theorem ps_fld (ha : PE X o ta) (hv : PE X value tv) (hs : swapsWith value (some (.Attribute o f pos')) pos.line X.env = pure false) : PS X (.Assign [.Attribute o f pos'] value pos) (sFld X.K ta tv f) := by
  intro pins s σ H D I h
  refine plainObj_wpAny_Assign_Attribute (thn (hv pins s σ H _ I h) fun u s1 ⟨y, H1, I1, ry, q⟩ => thn (ha pins s1 σ H1 _ I1 q) fun ov s2 ⟨x, H2, I2, rx, a, C, dx, fs, ex, ea, c, n, l, q2⟩ => ?_) hs
  subst ex
  obtain rfl : ov = Value.ref a := rx
  exact setattr_ok I2 ea c n l ry fun s3 I3 => ⟨σ, _, I3, q2⟩
end
section
variable {X : Cx} {pins : List (Addr × Obj)} {σ : St} {H : Hp} {s : Shared} {A : Around} {E : Value → Shared → Prop} {Q : Value → Shared → Prop} {c : Value} {b : Bool}
inductive TyOf (K : PySem.W.Frag) (H : Hp) : V → Value → Prop where
  | non : TyOf K H .non (.type "NoneType")
  | bl (x : Bool) : TyOf K H (.bl x) (.type "bool")
  | int (i : Int) : TyOf K H (.int i) (.type "int")
  | str (x : Str) : TyOf K H (.str x) (.type "str")
  | flt (x : UInt64) : TyOf K H (.flt x) (.type "float")
  | lst {a : Addr} {xs : List V} (e : H a = some (.lst xs)) : TyOf K H (.ref a) (.type "list")
  | frz {a : Addr} {o : Obj} {xs : List V} (e : H a = some (.frz o (.lst xs))) : TyOf K H (.ref a) (.type "list")
  | tup {a : Addr} {xs : List V} (e : H a = some (.tup xs)) : TyOf K H (.ref a) (.type "tuple")
  | dK {a : Addr} {kvs : List (Key × V)} (e : H a = some (.dK kvs)) : TyOf K H (.ref a) (.type "dict")
  | dT {a : Addr} {kvs : List (List Key × V)} (e : H a = some (.dT kvs)) : TyOf K H (.ref a) (.type "dict")
  | ins {a C dx : Addr} {fs : List (Str × V)} (e : H a = some (.ins C dx fs)) (cl : Cls K C) (ha : PySem.W.findIn K (.ref C) "__class__" = some (some (.builtin "object.__class__")))
      (hn : PySem.W.specialIn K (.builtin "object.__class__") "__get__" = some (some (.builtin "getset_descriptor.__get__"))) (htk : PySem.W.takesIn K (.builtin "object.__class__") = some true)
      (hm : PySem.W.mroIn K C (.type "object") = some true) : TyOf K H (.ref a) (.ref C)
theorem isinst_ok {x : V} {u t : Value} (I : Inv X pins σ H s) (rx : RelV x u) (ty : TyOf X.K H x t) (e : PySem.W.kitOne X.K t c = some b) (h : ∀ tk, Q (.bool b) { s with toks := tk }) :
    wpAny (model X.prog X.w) A (call (.builtin "isinstance") [u, c]) Q E s := by
  cases ty with
  | non => cases (show u = Value.none from rx); exact PySem.W.kia_one PySem.W.kitx_none I.kIn True.intro e (fun z => nomatch z) h
  | bl y => cases (show u = Value.bool y from rx); exact PySem.W.kia_one PySem.W.kitx_bool I.kIn True.intro e (fun z => nomatch z) h
  | int i => obtain ⟨t, q⟩ := (show ∃ t, u = Value.int i t from rx); cases q; exact PySem.W.kia_one PySem.W.kitx_int I.kIn True.intro e (fun z => nomatch z) h
  | str y => obtain ⟨t, q⟩ := (show ∃ t, u = Value.str y t from rx); cases q; exact PySem.W.kia_one PySem.W.kitx_str I.kIn True.intro e (fun z => nomatch z) h
  | flt y => obtain ⟨t, q⟩ := (show ∃ t, u = Value.float y t from rx); cases q; exact PySem.W.kia_one PySem.W.kitx_float I.kIn True.intro e (fun z => nomatch z) h
  | @lst a xs ea =>
    cases (show u = Value.ref a from rx)
    obtain ⟨_, _, n, _, h1⟩ := (show ObjOk X.prog X.w H s.heap a (.lst xs) from I.hok a _ ea)
    exact PySem.W.kia_one PySem.W.kitx_list I.kIn ⟨_, h1, rfl⟩ e (fun z => nomatch z) h
  | @frz a ob xs ea =>
    cases (show u = Value.ref a from rx)
    obtain ⟨_, _, _, n, _, h1⟩ := (show ObjOk X.prog X.w H s.heap a (.frz ob (.lst xs)) from I.hok a _ ea)
    exact PySem.W.kia_one PySem.W.kitx_list I.kIn ⟨_, h1, rfl⟩ e (fun z => nomatch z) h
  | @tup a xs ea =>
    cases (show u = Value.ref a from rx)
    obtain ⟨_, _, _, p⟩ := (show ObjOk X.prog X.w H s.heap a (.tup xs) from I.hok a _ ea)
    obtain ⟨o, h1, h2, _⟩ := p
    exact PySem.W.kia_one PySem.W.kitx_tuple I.kIn ⟨o, h1, h2⟩ e (fun z => nomatch z) h
  | @dK a kvs ea =>
    cases (show u = Value.ref a from rx)
    obtain ⟨_, _, vs, _, p⟩ := (show ObjOk X.prog X.w H s.heap a (.dK kvs) from I.hok a _ ea)
    obtain ⟨o, es, ep, h1, h2, _⟩ := p
    exact PySem.W.kia_one PySem.W.kitx_dict I.kIn ⟨o, h1, h2.1⟩ e (fun z => nomatch z) h
  | @dT a kvs ea =>
    cases (show u = Value.ref a from rx)
    obtain ⟨_, _, xs, _, o, es, ep, h1, h2, _⟩ := (show ObjOk X.prog X.w H s.heap a (.dT kvs) from I.hok a _ ea)
    exact PySem.W.kia_one PySem.W.kitx_dict I.kIn ⟨o, h1, h2.1⟩ e (fun z => nomatch z) h
  | @ins a C dx fs ea cl ha hn htk hm =>
    cases (show u = Value.ref a from rx)
    obtain ⟨mA, O, _⟩ := ins_get I.hok ea
    obtain ⟨od, J, _⟩ := O.look
    exact PySem.W.kia_one (PySem.W.kitx_own (cl.get _) cl.hd ha hn htk hm) I.kIn J e (fun z => nomatch z) h
end
end L2
namespace L2
open PySem PySem.Spec PyProof.Rows
structure Room (k : Nat) (A : Around) : Prop where
  hd : A.handled = none
  dp : A.depth + 3 * k + 5 < recursionLimit
  un : A.units + 16 * k + 200 < cLine
theorem Room.mono {j k : Nat} {A : Around} (r : Room k A) (h : j ≤ k) : Room j A := ⟨r.hd, by have := r.dp; omega, by have := r.un; omega⟩
theorem Room.deeper {k : Nat} {A : Around} (r : Room (k + 1) A) (env : Env) : Room k (A.deeper env) :=
  ⟨r.hd, by have := r.dp; show A.depth + 1 + 3 * k + 5 < _; omega, by have := r.un; show A.units + 3 + 16 * k + 200 < _; omega⟩
theorem make_depth {A : Around} {C : Addr} {us : List Value} {kw : List (Str × Value)} : (A.under (.builtin "type.__call__" ⟨.ref C :: us, kw⟩)).depth = A.depth + 1 := by
  first | rfl | simp [Around.under, Code.weight, Code.isCreation, Code.isGuard, Code.isCaller, Code.frames, Code.isFrame, guardIds]
theorem make_units {A : Around} {C : Addr} {us : List Value} {kw : List (Str × Value)} : (A.under (.builtin "type.__call__" ⟨.ref C :: us, kw⟩)).units = A.units + 1 := by
  first | rfl | simp [Around.under, Code.cUnits, Code.frames, Code.isFrame]
theorem Room.make {k : Nat} {A : Around} (r : Room (k + 1) A) (C : Addr) (us : List Value) (kw : List (Str × Value)) : Room k (A.under (.builtin "type.__call__" ⟨.ref C :: us, kw⟩)) :=
  ⟨r.hd, by have := r.dp; rw [make_depth]; omega, by have := r.un; rw [make_units]; omega⟩
theorem Room.depth {k : Nat} {A : Around} (r : Room k A) : A.depth < recursionLimit := by have := r.dp; omega
theorem Room.units {k : Nat} {A : Around} (r : Room k A) : A.units + 64 < cLine := by have := r.un; omega
noncomputable def tNil : TA := fun _ H Q => Q [] H
noncomputable def tCons (ta : TE) (tr : TA) : TA := fun σ H Q => ta σ H fun x H1 => tr σ H1 fun xs H2 => Q (x :: xs) H2
section
variable {X : Cx} {e : Expr} {es : List Expr} {te : TE} {t : TA} {pos : Pos}
theorem pa_nil : PA X [] tNil := fun _ _ _ _ H Q I h => Calls.spliced_nil ⟨[], H, I, .nil, h⟩
theorem pa_cons (ha : PE X e te) (hr : PA X es t) (hs : starEach (e :: es) X.env = (false, eval e X.env) :: starEach es X.env := by rfl) : PA X (e :: es) (tCons te t) := by
  intro pos pins s σ H Q I h
  rw [hs]
  show wpAny _ _ (spliced ((false, eval e X.env) :: backTo pos (starEach es X.env))) _ _ s
  refine Calls.spliced_cons (thn (ha pins s σ H _ I h) fun u s1 ⟨x, H1, I1, r1, q1⟩ => ?_)
  exact thn (hr pos pins s1 σ H1 _ I1 q1) fun us s2 ⟨xs, H2, I2, r2, q2⟩ => ⟨x :: xs, H2, I2, .cons r1 r2, q2⟩
noncomputable def tTup (t : TA) : TE := fun σ H Q => t σ H fun xs H1 => xs.length ≤ sizeLine ∧ ∀ p, H1 p = none → Q (.ref p) (upd H1 p (.tup xs))
noncomputable def tLst (t : TA) : TE := fun σ H Q => t σ H fun xs H1 => xs.length ≤ sizeLine ∧ ∀ p, H1 p = none → Q (.ref p) (upd H1 p (.lst xs))
theorem pe_tup {x1} (h : PA X es t) : PE X (.Tuple es x1 pos) (tTup t) := by
  intro pins s σ H Q I hq
  refine wpAny_Tuple_spliced (thn (h pos pins s σ H _ I hq) fun us s1 ⟨xs, H1, I1, r, z, q⟩ => ⟨by rw [← r.length]; exact z, ?_⟩)
  have hf : H1 s1.heap.objs.size = none := I1.hok.fresh (Nat.le_refl _)
  refine ⟨.ref s1.heap.objs.size, upd H1 s1.heap.objs.size (.tup xs), I1.laid (t' := s1.toks) (fun b u e => Heap.get?_push_of_some _ e) (Nat.le_refl _) ?_, rfl, q _ hf⟩
  exact ⟨z, us, r, ⟨_, Heap.get?_push_size _ rfl, rfl, _, rfl⟩⟩
theorem pe_lst (h : PA X es t) : PE X (.List es pos) (tLst t) := by
  intro pins s σ H Q I hq
  refine wpAny_List_spliced (thn (h pos pins s σ H _ I hq) fun us s1 ⟨xs, H1, I1, r, z, q⟩ => ⟨by rw [← r.length]; exact z, ?_⟩)
  have hf : H1 s1.heap.objs.size = none := I1.hok.fresh (Nat.le_refl _)
  refine ⟨.ref s1.heap.objs.size, upd H1 s1.heap.objs.size (.lst xs), I1.laid (t' := s1.toks) (fun b u e => Heap.get?_push_of_some _ e) (Nat.le_refl _) ?_, rfl, q _ hf⟩
  exact ⟨z, us, 0, r, Heap.get?_push_size _ rfl⟩
end
noncomputable abbrev Sp := List V → Hp → VK → XK → Prop
noncomputable abbrev CXT := List Env → Hp → Shared → XK → Value → Shared → Prop
structure Env0 (P : Program) (w : World) (K : PySem.W.Frag) (mg : Str → Option Value) (base : Heap) (A : Around) (outer : List Env) (s : Shared) (H : Hp) : Prop where
  frames : A.frames = some outer
  mod : Mod K mg base
  bs : ∀ b o, base.get? b = some o → s.heap.get? b = some o ∧ H b = none
  bsz : base.objs.size ≤ s.heap.objs.size
  funs : s.heap.FunFrames base outer
  frf : ∀ b ∈ frs outer, H b = none
  hok : HOk P w H s.heap
  bare : AllBare s.gens
noncomputable def CE (outer : List Env) (P : Program) (w : World) (H : Hp) (s : Shared) (Q : VK) (u : Value) (s' : Shared) : Prop :=
  ∃ v H', s'.os = s.os ∧ AllBare s'.gens ∧ Un (frs outer) [] H H' s.heap s'.heap ∧ HOk P w H' s'.heap ∧ RelV v u ∧ Q v H'
noncomputable def CR (CX : CXT) (outer : List Env) (P : Program) (w : World) (H : Hp) (s : Shared) (Q : VK) (E : XK) (r : Result) (s' : Shared) : Prop :=
  match r with
  | .ok (.ret u) => CE outer P w H s Q u s'
  | .ok _ => False
  | .error e => CX outer H s E e s'
structure FnOk (P : Program) (w : World) (K : PySem.W.Frag) (mg : Str → Option Value) (base : Heap) (CX : CXT) (k : Nat) (f : Addr) (fd : FuncData) (ps : List Str) (sp : Sp) : Prop where
  len : ∀ vs H Q E, sp vs H Q E → vs.length = ps.length
  run : ∀ (A : Around) (outer : List Env) (s : Shared) (H : Hp) (args : Args) (us : List Value) (vs : List V) (Q : VK) (E : XK), Room k A → Env0 P w K mg base A outer s H → BindsTo s fd args (ps.zip us) → Vals vs us → sp vs H Q E →
    codeAny (model P w) A (.call (.ref f) args) (CR CX outer P w H s Q E) s
theorem Env0.make {P : Program} {w : World} {K : PySem.W.Frag} {mg : Str → Option Value} {base : Heap} {A : Around} {outer : List Env} {s : Shared} {H : Hp} (e : Env0 P w K mg base A outer s H) (C : Addr) (us : List Value) (kw : List (Str × Value)) :
    Env0 P w K mg base (A.under (.builtin "type.__call__" ⟨.ref C :: us, kw⟩)) outer s H := ⟨by first | exact e.frames | (simpa [Around.under, Code.envs, Code.isFrame, pushEnvs] using e.frames), e.mod, e.bs, e.bsz, e.funs, e.frf, e.hok, e.bare⟩
section
variable {X : Cx} {pins : List (Addr × Obj)} {σ : St} {H : Hp} {s s' : Shared}
theorem Inv.env0 (I : Inv X pins σ H s) : Env0 X.prog X.w X.K X.mg X.base X.A X.stack s H :=
  ⟨I.ok.frames, I.ok.mod, I.bs, Nat.le_trans I.ok.bsz I.sz, I.stack, I.stkFree, I.hok, I.bare⟩
theorem Inv.after {Q : VK} {u : Value} (I : Inv X pins σ H s) (h : CE X.stack X.prog X.w H s Q u s') : EP X pins σ Q u s' := by
  obtain ⟨v, H', os, bare, un, hok, r, q⟩ := h
  obtain ⟨hh, g, d, t, os'⟩ := s'
  obtain rfl : os' = s.os := os
  exact ⟨v, H', I.call (h' := hh) (g' := g) (d' := d) (t' := t) (ch := []) un hok bare (fun b z => absurd z (by simp)), r, q⟩
end
noncomputable def tCall (sp : Sp) (dvs : List V) (E : XK) (t : TA) : TE := fun σ H Q => t σ H fun vs H1 => sp (vs ++ dvs) H1 Q E
noncomputable def tMeth (C : Addr) (m : Str) (sp : Sp) (dvs : List V) (E : XK) (ta : TE) (t : TA) : TE := fun σ H Q => ta σ H fun x H1 => ∃ a dx fs, x = .ref a ∧ H1 a = some (.ins C dx fs) ∧ fs.lookup m = none ∧
  t σ H1 fun vs H2 => sp (x :: (vs ++ dvs)) H2 Q E
noncomputable def tMake (C : Addr) (sp : Sp) (dvs : List V) (E : XK) (t : TA) : TE := fun σ H Q => t σ H fun vs H1 => ∀ x dx, H1 x = none → H1 dx = none → dx ≠ x →
  sp (.ref x :: (vs ++ dvs)) (upd (upd H1 dx (.own x)) x (.ins C dx [])) (fun v H2 => v = .non ∧ Q (.ref x) H2) E
noncomputable def Binds (K : PySem.W.Frag) (fd : FuncData) (ps : List Str) (ds : List Value) : Prop :=
  ∀ (s : Shared) (us : List Value), K.In s.heap → (us ++ ds).length = ps.length → BindsTo s fd ⟨us, []⟩ (ps.zip (us ++ ds))
theorem Binds.all {K : PySem.W.Frag} {fd : FuncData} {ps : List Str} (h : ∀ us : List Value, us.length = ps.length → bindArgs fd ⟨us, []⟩ = pure (ps.zip us)) : Binds K fd ps [] := fun s us _ hl => by
  rw [List.append_nil] at hl ⊢
  exact .of_eq (h us hl)
noncomputable def Passes (CX : CXT) (X : Cx) (E : XK) : Prop := ∀ (pins : List (Addr × Obj)) (σ : St) (H : Hp) (s : Shared) (e : Value) (s' : Shared), Inv X pins σ H s → CX X.stack H s E e s' → X.xe e s'
section
variable {X : Cx} {CX : CXT} {k : Nat} {f C : Addr} {fd : FuncData} {ps : List Str} {sp : Sp} {dvs : List V} {ds : List Value} {E : XK} {x m : Str} {p pos apos : Pos} {e o : Expr} {es : List Expr} {ta : TE} {t : TA}
theorem run_fn {pins : List (Addr × Obj)} {σ : St} {H : Hp} {s : Shared} {Q : VK} {us : List Value} {vs : List V} (F : FnOk X.prog X.w X.K X.mg X.base CX k f fd ps sp) (hr : Room k X.A) (hb : Binds X.K fd ps ds) (hd : Vals dvs ds) (hx : Passes CX X E)
    (I : Inv X pins σ H s) (r : Vals vs us) (h : sp (vs ++ dvs) H Q E) : wpAny (model X.prog X.w) X.A (call (.ref f) us) (EP X pins σ Q) X.xe s := by
  have r2 : Vals (vs ++ dvs) (us ++ ds) := r.append hd
  have hl : (us ++ ds).length = ps.length := by rw [← r2.length]; exact F.len _ _ _ _ h
  refine wpAny_call (codeAny_mono (F.run X.A X.stack s H ⟨us, []⟩ (us ++ ds) (vs ++ dvs) Q E hr I.env0 (hb s us I.kIn hl) r2 h) fun r s' hq => ?_)
  cases r with
  | error e => exact hx pins σ H s e s' I hq
  | ok fl =>
    cases fl with
    | ret u => exact I.after hq
    | next => exact False.elim hq
    | brk => exact False.elim hq
    | cont => exact False.elim hq
theorem pe_call (F : FnOk X.prog X.w X.K X.mg X.base CX k f fd ps sp) (hr : Room k X.A) (hg : Gl X x) (hm : X.mg x = some (.ref f)) (hk : PySem.W.keepIn X.K (.ref f) = true) (hb : Binds X.K fd ps ds) (hd : Vals dvs ds) (hx : Passes CX X E)
    (ha : PA X (e :: es) t) (hdb : (x == ("__debug__" : Str)) = false := by decide) (he : starEach (e :: es) X.env = (false, eval e X.env) :: starEach es X.env := by rfl) (hpl : (backTo pos (starEach es X.env)).any (·.1) = false := by rfl) :
    PE X (.Call (.Name x p) (e :: es) [] pos) (tCall sp dvs E t) := by
  intro pins s σ H Q I h
  refine wpAny_Call_Name_kw (ld_glob I hg hm ?_ hdb)
  refine PySem.W.callWith_K (h₀ := X.base) I.ok.mod.kin hk (thn (ha pos pins s σ H _ I h) fun us s1 ⟨vs, H1, I1, r, q⟩ => ⟨I1.kIn, ?_⟩) he hpl
  exact run_fn F hr hb hd hx I1 r q
theorem pe_meth {pl : Sem Bool} (he : PE X o ta) (c : Cls X.K C) (hm : Meth X.K C m f) (F : FnOk X.prog X.w X.K X.mg X.base CX k f fd ps sp) (hr : Room k X.A) (hb : Binds X.K fd ps ds) (hd : Vals dvs ds) (hx : Passes CX X E) (ha : PA X (e :: es) t)
    (hst : starEach (e :: es) X.env = (false, eval e X.env) :: starEach es X.env := by rfl) (hpl : (backTo pos (starEach es X.env)).any (·.1) = false := by rfl)
    (ht : eval (.Call (.Attribute o m apos) (e :: es) [] pos) X.env = (do
      let ov ← eval o X.env
      standAt apos.atName
      let (f, first) ← holding [ov] (getMethod ov m pl)
      callWith pos f first (backTo pos (starEach (e :: es) X.env)) (backToKw pos (keywordEach [] X.env))) := by rfl) :
    PE X (.Call (.Attribute o m apos) (e :: es) [] pos) (tMeth C m sp dvs E ta t) := by
  intro pins s σ H Q I h
  refine PySem.W.methodCall_KW (pl := pl) (thn (he pins s σ H _ I h) fun u s1 ⟨x, H1, I1, rx, a, dx, fs, ex, ea, l, q⟩ => ?_) ht
  subst ex
  obtain rfl : u = Value.ref a := rx
  refine getmeth_ok I1 ea c hm l ?_
  refine PySem.W.callWith_K (first := [.ref a]) (h₀ := X.base) I.ok.mod.kin hm.kp (thn (ha pos pins s1 σ H1 _ I1 q) fun us s2 ⟨vs, H2, I2, r, q2⟩ => ⟨I2.kIn, ?_⟩) hst hpl
  exact run_fn (us := .ref a :: us) (vs := .ref a :: vs) F hr hb hd hx I2 (.cons rfl r) q2
theorem pe_meth0 {pl : Sem Bool} (he : PE X o ta) (c : Cls X.K C) (hm : Meth X.K C m f) (F : FnOk X.prog X.w X.K X.mg X.base CX k f fd ps sp) (hr : Room k X.A) (hb : Binds X.K fd ps ds) (hd : Vals dvs ds) (hx : Passes CX X E)
    (ht : eval (.Call (.Attribute o m apos) [] [] pos) X.env = (do
      let ov ← eval o X.env
      standAt apos.atName
      let (f, first) ← holding [ov] (getMethod ov m pl)
      callWith pos f first (backTo pos (starEach [] X.env)) (backToKw pos (keywordEach [] X.env))) := by rfl) :
    PE X (.Call (.Attribute o m apos) [] [] pos) (tMeth C m sp dvs E ta tNil) := by
  intro pins s σ H Q I h
  refine PySem.W.methodCall_KW (pl := pl) (thn (he pins s σ H _ I h) fun u s1 ⟨x, H1, I1, rx, a, dx, fs, ex, ea, l, q⟩ => ?_) ht
  subst ex
  obtain rfl : u = Value.ref a := rx
  refine getmeth_ok I1 ea c hm l ?_
  exact PySem.W.callWith_K0 (first := [.ref a]) I1.kIn hm.kp (run_fn (us := [.ref a]) (vs := [.ref a]) F hr hb hd hx I1 (.cons rfl .nil) q)
structure Mk (K : PySem.W.Frag) (C f : Addr) : Prop where
  makes : PySem.W.makesIn K C = true
  init : PySem.W.findIn K (.ref C) "__init__" = some (some (.ref f))
  fn : PySem.W.isFn K (.ref f) = true
  kp : PySem.W.keepIn K (.ref C) = true
theorem run_make {pins : List (Addr × Obj)} {σ : St} {H : Hp} {s : Shared} {Q : VK} {us : List Value} {vs : List V} (M : Mk X.K C f) (F : FnOk X.prog X.w X.K X.mg X.base CX k f fd ps sp) (hr : Room (k + 1) X.A) (hb : Binds X.K fd ps ds) (hd : Vals dvs ds)
    (hx : Passes CX X E) (I : Inv X pins σ H s) (r : Vals vs us)
    (h : ∀ x dx, H x = none → H dx = none → dx ≠ x → sp (.ref x :: (vs ++ dvs)) (upd (upd H dx (.own x)) x (.ins C dx [])) (fun v H2 => v = .non ∧ Q (.ref x) H2) E) :
    wpAny (model X.prog X.w) X.A (call (.ref C) us) (EP X pins σ Q) X.xe s := by
  have hq := h (s.heap.objs.size + 1) s.heap.objs.size (I.hok.fresh (Nat.le_succ _)) (I.hok.fresh (Nat.le_refl _)) (Nat.ne_of_lt (Nat.lt_succ_self _))
  have I2 := Inv.made (C := C) I
  have r2 : Vals (V.ref (s.heap.objs.size + 1) :: (vs ++ dvs)) (Value.ref (s.heap.objs.size + 1) :: (us ++ ds)) := .cons rfl (r.append hd)
  have hl : (Value.ref (s.heap.objs.size + 1) :: us ++ ds).length = ps.length := by
    have e := r2.length
    rw [F.len _ _ _ _ hq] at e
    exact e.symm
  refine wpAny_call (make_map (f := f) I.kIn M.makes M.init (beq_iff_eq.mp M.fn) (codeAny_mono (F.run _ X.stack _ _ ⟨Value.ref (s.heap.objs.size + 1) :: us, []⟩ (Value.ref (s.heap.objs.size + 1) :: (us ++ ds)) _ _ E (hr.make C us [])
    (I2.env0.make C us []) (hb _ (Value.ref (s.heap.objs.size + 1) :: us) I2.kIn hl) r2 hq) fun r s' hq' => ?_))
  cases r with
  | error e => exact hx pins σ _ _ e s' I2 hq'
  | ok fl =>
    cases fl with
    | ret u =>
      obtain ⟨v, H', I3, rv, ev, q3⟩ := I2.after hq'
      subst ev
      exact ⟨rv, ⟨V.ref (s.heap.objs.size + 1), H', I3, rfl, q3⟩⟩
    | next => exact False.elim hq'
    | brk => exact False.elim hq'
    | cont => exact False.elim hq'
theorem pe_make (M : Mk X.K C f) (F : FnOk X.prog X.w X.K X.mg X.base CX k f fd ps sp) (hr : Room (k + 1) X.A) (hg : Gl X x) (hm : X.mg x = some (.ref C)) (hb : Binds X.K fd ps ds) (hd : Vals dvs ds) (hx : Passes CX X E)
    (ha : PA X (e :: es) t) (hdb : (x == ("__debug__" : Str)) = false := by decide) (he : starEach (e :: es) X.env = (false, eval e X.env) :: starEach es X.env := by rfl) (hpl : (backTo pos (starEach es X.env)).any (·.1) = false := by rfl) :
    PE X (.Call (.Name x p) (e :: es) [] pos) (tMake C sp dvs E t) := by
  intro pins s σ H Q I h
  refine wpAny_Call_Name_kw (ld_glob I hg hm ?_ hdb)
  refine PySem.W.callWith_K (h₀ := X.base) I.ok.mod.kin M.kp (thn (ha pos pins s σ H _ I h) fun us s1 ⟨vs, H1, I1, r, q⟩ => ⟨I1.kIn, ?_⟩) he hpl
  exact run_make M F hr hb hd hx I1 r q
end
section
variable {X : Cx} {CX : CXT} {k : Nat} {f C : Addr} {fd : FuncData} {ps ks : List Str} {sp : Sp} {E : XK} {x m : Str} {p pos apos kpos : Pos} {e o : Expr} {es : List Expr} {kws : List Keyword} {te ta : TE} {t tk : TA} {nm : Option Str}
structure KBinds (K : PySem.W.Frag) (fd : FuncData) (ps ks : List Str) (g : List Value → List Value → List Value) (gV : List V → List V → List V) : Prop where
  to : ∀ (s : Shared) (us ws : List Value), K.In s.heap → (g us ws).length = ps.length → BindsTo s fd ⟨us, ks.zip ws⟩ (ps.zip (g us ws))
  rel : ∀ {vs : List V} {us : List Value} {zs : List V} {ws : List Value}, Vals vs us → Vals zs ws → Vals (gV vs zs) (g us ws)
variable {g : List Value → List Value → List Value} {gV : List V → List V → List V}
end
structure FnScope (N P : List Str) (sc : Scope) : Prop where
  kind : sc.kind = .function
  co : sc.isCoroutine = false
  gen : sc.isGenerator = false
  nd : N.Nodup
  pre : N.take P.length = P
  par : ∀ x ∈ P, sc.names.lookup x = some .local ∨ sc.names.lookup x = some .cell
  nofree : ∀ y ∈ sc.names, y.2 ≠ .free
theorem bindL_out {kindOf : Str → Option NameKind} {x : Str} : ∀ {binds : List (Str × Value)} {m : Str → Option Value}, (∀ v, (x, v) ∉ binds) → bindL kindOf binds m x = m x
  | [], _, _ => rfl
  | (n, v) :: r, m, h => by
    unfold bindL
    rw [bindL_out fun w hw => h w (List.mem_cons_of_mem _ hw)]
    split
    · have : x ≠ n := by rintro rfl; exact h v List.mem_cons_self
      simp [this]
    · rfl
theorem bindC_out {kindOf : Str → Option NameKind} {x : Str} : ∀ {binds : List (Str × Value)} {m : Str → Option Value}, (∀ v, (x, v) ∉ binds) → bindC kindOf binds m x = m x
  | [], _, _ => rfl
  | (n, v) :: r, m, h => by
    unfold bindC
    rw [bindC_out fun w hw => h w (List.mem_cons_of_mem _ hw)]
    split
    · rfl
    · have : x ≠ n := by rintro rfl; exact h v List.mem_cons_self
      simp [this]
theorem bindL_get {kindOf : Str → Option NameKind} {x : Str} {v : Value} : ∀ {P : List Str} {vs : List Value} {i : Nat} {m : Str → Option Value}, P.Nodup → P[i]? = some x → vs[i]? = some v → kindOf x = some .local →
    bindL kindOf (P.zip vs) m x = some v
  | [], _, _, _, _, h, _, _ => by simp at h
  | _ :: _, [], _, _, _, _, h, _ => by simp at h
  | p :: P, w :: vs, 0, m, nd, h1, h2, hk => by
    simp at h1 h2; subst h1; subst h2
    show bindL kindOf ((p, w) :: P.zip vs) m p = _
    unfold bindL
    rw [bindL_out fun v hv => (List.nodup_cons.mp nd).1 (List.of_mem_zip hv).1, if_pos hk]
    simp
  | p :: P, w :: vs, i + 1, m, nd, h1, h2, hk => by
    show bindL kindOf ((p, w) :: P.zip vs) m x = _
    unfold bindL
    exact bindL_get (i := i) (List.nodup_cons.mp nd).2 (by simpa using h1) (by simpa using h2) hk
theorem bindC_get {kindOf : Str → Option NameKind} {x : Str} {v : Value} : ∀ {P : List Str} {vs : List Value} {i : Nat} {m : Str → Option Value}, P.Nodup → P[i]? = some x → vs[i]? = some v → kindOf x ≠ some .local →
    bindC kindOf (P.zip vs) m x = some v
  | [], _, _, _, _, h, _, _ => by simp at h
  | _ :: _, [], _, _, _, _, h, _ => by simp at h
  | p :: P, w :: vs, 0, m, nd, h1, h2, hk => by
    simp at h1 h2; subst h1; subst h2
    show bindC kindOf ((p, w) :: P.zip vs) m p = _
    unfold bindC
    rw [bindC_out fun v hv => (List.nodup_cons.mp nd).1 (List.of_mem_zip hv).1, if_neg hk]
    simp
  | p :: P, w :: vs, i + 1, m, nd, h1, h2, hk => by
    show bindC kindOf ((p, w) :: P.zip vs) m x = _
    unfold bindC
    exact bindC_get (i := i) (List.nodup_cons.mp nd).2 (by simpa using h1) (by simpa using h2) hk
noncomputable def start (N : List Str) (vs : List V) : St := vs.map some ++ List.replicate (N.length - vs.length) none
noncomputable def cxOf (CX : CXT) (P : Program) (w : World) (K : PySem.W.Frag) (mg : Str → Option Value) (base : Heap) (N : List Str) (qual : Str) (scope : Scope) (f : Addr) (cd : Value) (A : Around) (outer : List Env) (s : Shared) (H : Hp) (E : XK) : Cx where
  prog := P
  w := w
  K := K
  mg := mg
  base := base
  A := A.deeper (envOfC qual scope s.heap.objs.size f cd)
  N := N
  s₀ := s
  H₀ := H
  env := envOfC qual scope s.heap.objs.size f cd
  outer := outer
  stack := envOfC qual scope s.heap.objs.size f cd :: outer
  ex := []
  calm := true
  fn := fun _ => true
  pn := []
  xe := fun e s' => wpAny (model P w) (A.deeper (envOfC qual scope s.heap.objs.size f cd)) (leaving (envOfC qual scope s.heap.objs.size f cd) e) (fun _ s'' => CX outer H s E e s'') (fun e' s'' => CX outer H s E e' s'') s'
theorem cell_has {sc : Scope} {n : Nat} {x : Str} (h : sc.names.lookup x = some .cell) : ∃ c, (cellsFrom n sc.names []).lookup x = some c := by
  have q := PySem.W.cellsFrom_some sc.names n [] (.inl h)
  exact Option.isSome_iff_exists.mp q
theorem inv_start {CX : CXT} {P : Program} {w : World} {K : PySem.W.Frag} {mg : Str → Option Value} {base : Heap} {N ps : List Str} {qual : Str} {scope : Scope} {f : Addr} {cd : Value} {A : Around} {outer : List Env} {s s1 : Shared} {H : Hp} {E : XK} {us : List Value} {vs : List V}
    (S : FnScope N ps scope) (hd : A.handled = none) (e0 : Env0 P w K mg base A outer s H) (hl : vs.length = ps.length) (r : Vals vs us)
    (x : InCallC s s.heap.objs.size (bindL (envOfC qual scope s.heap.objs.size f cd).kindOf (ps.zip us) fun _ => none) (cellsFrom (s.heap.objs.size + 1) scope.names []) (bindC (envOfC qual scope s.heap.objs.size f cd).kindOf (ps.zip us) fun _ => none) s1) :
    Inv (cxOf CX P w K mg base N qual scope f cd A outer s H E) [] (start N vs) H s1 := by
  have hpl : ps.length ≤ N.length := by have := congrArg List.length S.pre; rw [List.length_take] at this; omega
  obtain ⟨h1, tk, rfl, hk⟩ := x.done
  have noA : ∀ b : Addr, b ∉ (cxOf CX P w K mg base N qual scope f cd A outer s H E).ex := fun b z => absurd (show b ∈ ([] : List Addr) from z) (by simp)
  refine ⟨⟨e0.mod, S.kind, rfl, rfl, Nat.le_refl _, fun y z c h1 h2 => ?_, fun y hy => ?_, fun y c _ h => ?_, fun _ => hd, Around.frames_deeper e0.frames, .inr ⟨rfl, rfl⟩, fun b z => absurd z (noA b), e0.bs, e0.bsz, fun b _ _ => noA b, fun b z => absurd z (noA b), e0.funs, e0.frf⟩,
    rfl, e0.bare, Un.kept hk, ⟨_, x.toInCall.ns, fun i y v h1 h2 h3 => ?_⟩, fun y c h => ⟨_, x.cell y c h⟩, e0.hok.fresh (Nat.le_refl _), fun y c h => ?_, fun p hp => absurd (show p ∈ ([] : List (Addr × Obj)) from hp) (by simp), e0.hok.kept hk, ?_⟩
  · exact name_of_addr x.apart (PySem.mem_of_lookup h1) (PySem.mem_of_lookup h2)
  · have hy : scope.names.lookup y = some .cell ∨ scope.names.lookup y = some .free := hy
    rcases hy with hy | hy
    · exact cell_has hy
    · exact absurd rfl (S.nofree _ (PySem.mem_of_lookup hy))
  · exact Nat.le_of_lt (x.above y c (PySem.mem_of_lookup h))
  · have hi : i < vs.length := by
      unfold start at h2
      by_cases hi : i < vs.length
      · exact hi
      · rw [List.getElem?_append_right (by simpa using hi)] at h2
        rw [List.getElem?_replicate] at h2
        split at h2 <;> cases h2
    have ha : vs[i]? = some v := by
      unfold start at h2
      rw [List.getElem?_append_left (by simpa using hi), List.getElem?_map] at h2
      cases e : vs[i]? with
      | none => rw [e] at h2; cases h2
      | some a => rw [e] at h2; cases h2; rfl
    obtain ⟨u, hu, rv⟩ := r.get ha
    have hp : ps[i]? = some y := by
      rw [← S.pre, List.getElem?_take_of_lt (by omega)]; exact h1
    have ndP : ps.Nodup := by rw [← S.pre]; exact S.nd.sublist (List.take_sublist _ _)
    refine ⟨u, rv, ?_⟩
    rcases S.par y (List.mem_of_getElem? hp) with k | k
    · exact .inl ⟨k, bindL_get ndP hp hu k⟩
    · obtain ⟨c, e⟩ := cell_has (n := s.heap.objs.size + 1) k
      refine .inr ⟨.inl k, c, e, ?_⟩
      have q := x.cell y c e
      rw [bindC_get ndP hp hu (by show scope.names.lookup y ≠ _; rw [k]; decide)] at q
      exact q
  · exact e0.hok.fresh (Nat.le_of_lt (x.above y c (PySem.mem_of_lookup h)))
  · unfold start
    show _ = N.length
    rw [List.length_append, List.length_map, List.length_replicate]
    omega
theorem fn_of {CX : CXT} {P : Program} {w : World} {K : PySem.W.Frag} {mg : Str → Option Value} {base : Heap} {k : Nat} {f : Addr} {name qual : Str} {params : Arguments} {body : List Stmt} {scope : Scope} {dV kV doc pm cdv ct oc : Value} {an od : Option Addr}
    {osl : Array (Option Value)} {N ps : List Str} {sp : Sp} (lk : K.lookup f = some ⟨oc, od, .func (PySem.W.fnOf name qual params body scope dV kV doc pm an cdv ct), osl⟩) (hcd : PySem.W.codeIn K cdv qual = true) (S : FnScope N ps scope)
    (len : ∀ vs H Q E, sp vs H Q E → vs.length = ps.length)
    (hbody : ∀ (A : Around) (outer : List Env) (s : Shared) (H : Hp) (vs : List V) (Q : VK) (E : XK), Room k (A.deeper (envOfC qual scope s.heap.objs.size f cdv)) → sp vs H Q E →
      ∃ t, PSs (cxOf CX P w K mg base N qual scope f cdv A outer s H E) body t ∧ t { nx := fun _ H' => Q .non H', rt := Q } (start N vs) H) :
    FnOk P w K mg base CX (k + 1) f (PySem.W.fnOf name qual params body scope dV kV doc pm an cdv ct) ps sp := by
  refine ⟨len, fun A outer s H args us vs Q E hr e0 hb r hsp => ?_⟩
  have hl := len _ _ _ _ hsp
  have KX : K.In s.heap := e0.mod.kin.keeps fun b o e => (e0.bs b o e).1
  have lim : s.heap.NoLimit := e0.mod.nolimit.keeps fun b o e => (e0.bs b o e).1
  have hkind : ∀ y ∈ ps.zip us, scope.names.lookup y.1 = some .local ∨ (scope.names.lookup y.1 = some .cell ∧ ((cellsFrom (s.heap.objs.size + 1) scope.names []).lookup y.1).isSome = true) := fun ⟨n, v⟩ hy => by
    rcases S.par n (List.of_mem_zip hy).1 with q | q
    · exact .inl q
    · exact .inr ⟨q, PySem.W.cellsFrom_some _ _ _ (.inl q)⟩
  refine codeAny_call_function hr.depth (KX _ _ lk) rfl S.co S.gen rfl (PySem.W.codeRec_of KX hcd) (hb _ _ _ _ ?_)
  refine wpAny_newFunctionEnv_cells S.kind hkind fun env he s1 x => ?_
  subst he
  refine ⟨lim.keeps x.toInCall.keep, codeAny_func ?_⟩
  obtain ⟨t, ht, hq⟩ := hbody A outer s H vs Q E (hr.deeper _) hsp
  have I : Inv (cxOf CX P w K mg base N qual scope f cdv A outer s H E) [] (start N vs) H s1 := inv_start S hr.hd e0 hl r x
  refine wpAny_mono (ht [] s1 (start N vs) H _ I hq) (fun fl s' hs => ?_) fun e s' hs => hs
  have fin : ∀ {σ' : St} {H' : Hp} {v : V} {u : Value}, Inv (cxOf CX P w K mg base N qual scope f cdv A outer s H E) [] σ' H' s' → RelV v u → Q v H' → CE outer P w H s Q u s' :=
    fun {σ' H' v u} J rv q => ⟨v, H', J.os, J.bare, J.base, J.hok, rv, q⟩
  cases fl with
  | ret u =>
    obtain ⟨v, σ', H', J, rv, q⟩ := hs
    exact fin J rv q
  | next =>
    obtain ⟨σ', H', J, q⟩ := hs
    exact fin (v := V.non) (u := Value.none) J rfl q
  | brk =>
    obtain ⟨_, _, _, q⟩ := hs
    exact False.elim q
  | cont =>
    obtain ⟨_, _, _, q⟩ := hs
    exact False.elim q
end L2
namespace L2
open PySem PySem.Spec PyProof.Rows
section
variable {X : Cx} {x : Str} {p pos : Pos} {e : Expr} {es : List Expr} {t : TA} {id T : String} {r : List V → Hp → VK → Prop}
noncomputable def tCB (r : List V → Hp → VK → Prop) (t : TA) : TE := fun σ H Q => t σ H fun vs H1 => r vs H1 Q
theorem pe_callB (hc : CallR X (.builtin id) r) (hg : Gl X x) (hm : X.mg x = none) (hv : bootBuiltins x = some (.builtin id)) (ha : PA X (e :: es) t) (hn : x ≠ "__name__" := by decide) (hdb : (x == ("__debug__" : Str)) = false := by decide)
    (he : starEach (e :: es) X.env = (false, eval e X.env) :: starEach es X.env := by rfl) (hpl : (backTo pos (starEach es X.env)).any (·.1) = false := by rfl) : PE X (.Call (.Name x p) (e :: es) [] pos) (tCB r t) := by
  intro pins s σ H Q I h
  refine wpAny_Call_Name_kw (ld_blt I hg hm hv ?_ hn hdb)
  exact PyProof.Rows.callWith_builtin1 (thn (ha pos pins s σ H _ I h) fun us s1 ⟨vs, H1, I1, r1, q1⟩ => hc pins s1 σ H1 vs us Q I1 r1 q1) he hpl
theorem pe_callTy (hc : CallR X (.type T) r) (hg : Gl X x) (hm : X.mg x = none) (hv : bootBuiltins x = some (.type T)) (ha : PA X (e :: es) t) (hn : x ≠ "__name__" := by decide) (hdb : (x == ("__debug__" : Str)) = false := by decide)
    (he : starEach (e :: es) X.env = (false, eval e X.env) :: starEach es X.env := by rfl) (hpl : (backTo pos (starEach es X.env)).any (·.1) = false := by rfl) : PE X (.Call (.Name x p) (e :: es) [] pos) (tCB r t) := by
  intro pins s σ H Q I h
  refine wpAny_Call_Name_kw (ld_blt I hg hm hv ?_ hn hdb)
  exact PyProof.Rows.callWith_type1 (thn (ha pos pins s σ H _ I h) fun us s1 ⟨vs, H1, I1, r1, q1⟩ => hc pins s1 σ H1 vs us Q I1 r1 q1) he hpl
end
end L2
namespace HT
open PySem PyProof.Rows
noncomputable def lexLt : List Int → List Int → Bool
  | [], [] => false
  | [], _ :: _ => true
  | _ :: _, [] => false
  | x :: xs, y :: ys => if x = y then lexLt xs ys else decide (x < y)
theorem lexLt_cons (x y : Int) (xs ys : List Int) : lexLt (x :: xs) (y :: ys) = if x = y then lexLt xs ys else decide (x < y) := rfl
section
open PySem.SeqAt
open PySem.AutoSeq1 (wpAny_loadPart')
open PySem.MeetsSeq PySem.MeetsSeq2 PySem.MeetsSeq3
end
section
variable {prog : Program} {w : World} {A : Around} {E : Value → Shared → Prop} {s : Shared}
noncomputable def sIx (n d : Nat) : Option Int → Nat
  | none => d
  | some v => if v < 0 then (v + (n : Int)).toNat else min v.toNat n
theorem sIx_nat (n d k : Nat) : sIx n d (some (k : Int)) = min k n := by
  show (if (k : Int) < 0 then ((k : Int) + (n : Int)).toNat else min (k : Int).toNat n) = min k n
  rw [if_neg (by omega), Int.toNat_natCast]
theorem sIx_le (n d : Nat) (hd : d ≤ n) (o : Option Int) : sIx n d o ≤ n := by
  cases o with
  | none => exact hd
  | some v =>
    show (if v < 0 then (v + (n : Int)).toNat else min v.toNat n) ≤ n
    by_cases hv : v < 0
    · rw [if_pos hv]; omega
    · rw [if_neg hv]; exact Nat.min_le_right _ _
theorem clip_eq (v : Int) (n d : Nat) : (if v < 0 then max (v + (n : Int)) 0 else min v (n : Int)) = ((sIx n d (some v) : Nat) : Int) := by
  show (if v < 0 then max (v + (n : Int)) 0 else min v (n : Int)) = (((if v < 0 then (v + (n : Int)).toNat else min v.toNat n) : Nat) : Int)
  by_cases hv : v < 0
  · simp only [if_pos hv]; omega
  · simp only [if_neg hv]; omega
theorem adjust_gen (lo hi : Option Int) (n : Nat) : Builtin.Slice.sliceAdjust lo hi 1 (n : Int) = (((sIx n 0 lo : Nat) : Int), ((sIx n n hi : Nat) : Int)) := by
  have h1 : ¬ ((1 : Int) < 0) := by omega
  unfold Builtin.Slice.sliceAdjust
  simp only [h1, if_false]
  refine Prod.ext ?_ ?_
  · cases lo with
    | none => rfl
    | some v => exact clip_eq v n 0
  · cases hi with
    | none => rfl
    | some v => exact clip_eq v n n
theorem places_gen (i j : Nat) : Builtin.Slice.slicePlaces (i : Int) (j : Int) 1 = j - i := by
  unfold Builtin.Slice.slicePlaces
  have h1 : (1 : Int) > 0 := by omega
  simp only [h1, if_true, Int.ediv_one]
  split <;> omega
theorem slicePart_ {v : Value} {o : Option Int} {Q : Option Int → Shared → Prop} (p : IsPart v o) (h : Q o s) : wpAny (model prog w) A (Builtin.Slice.slicePartIndex v) Q E s := by
  cases p with
  | none => exact slicePart_none h
  | int i t => exact slicePart_int h
theorem sliceApplied_gen {sl : Addr} {vl vu : Value} {lo hi : Option Int} {n : Nat} {Q : Int × Int × Nat → Shared → Prop} (hs : s.heap.IsSliceOf sl vl vu .none) (pl : IsPart vl lo) (pu : IsPart vu hi)
    (h : Q (((sIx n 0 lo : Nat) : Int), 1, sIx n n hi - sIx n 0 lo) s) : wpAny (model prog w) A (Builtin.Slice.sliceApplied (.ref sl) (pure (n : Int))) Q E s := by
  obtain ⟨os, hos, hcs, hds⟩ := id hs
  unfold Builtin.Slice.sliceApplied Builtin.Slice.sliceFields
  refine wpAny_bind (wpAny_bind (wpAny_field hos hds (x := vl) rfl (wpAny_bind (wpAny_field hos hds (x := vu) rfl (wpAny_bind (wpAny_field hos hds (x := .none) rfl (wpAny_pure ?_)))))))
  refine wpAny_bind (slicePart_none ?_)
  show wpAny _ _ (if ((1 : Int) == 0) = true then _ else _) _ _ s
  rw [if_neg (by decide)]
  refine wpAny_bind (slicePart_ pl (wpAny_bind (slicePart_ pu (wpAny_bind (wpAny_pure ?_)))))
  show wpAny _ _ (match Builtin.Slice.sliceAdjust lo hi 1 (n : Int) with | (lo, hi) => pure (lo, (1 : Int), Builtin.Slice.slicePlaces lo hi 1)) _ _ s
  rw [adjust_gen lo hi n]
  show wpAny _ _ (pure (((sIx n 0 lo : Nat) : Int), (1 : Int), Builtin.Slice.slicePlaces ((sIx n 0 lo : Nat) : Int) ((sIx n n hi : Nat) : Int) 1)) _ _ s
  rw [places_gen]
  exact wpAny_pure h
theorem pick_gen (xs : Array Value) (i k : Nat) : ((List.range k).filterMap fun (m : Nat) => xs[((i : Int) + (m : Int) * 1).toNat]?).toArray = ((xs.toList.drop i).take k).toArray := by
  have e : (fun (m : Nat) => xs[((i : Int) + (m : Int) * 1).toNat]?) = fun m => xs[i + m]? := by
    funext m
    have : ((i : Int) + (m : Int) * 1).toNat = i + m := by omega
    rw [this]
  rw [e]
  have := pick_run xs i k
  rw [List.filterMap_map] at this
  have e2 : ((fun x => xs[x]?) ∘ fun x => i + x) = fun m => xs[i + m]? := rfl
  rw [e2] at this
  rw [this]
theorem getItem_tuple_cut {t sl : Addr} {items : Array Value} {vl vu : Value} {lo hi : Option Int} {Q : Value → Shared → Prop} (ht : IsTup s.heap t items) (hs : s.heap.IsSliceOf sl vl vu .none) (pl : IsPart vl lo) (pu : IsPart vu hi)
    (hw : ¬ (sIx items.size 0 lo = 0 ∧ sIx items.size items.size hi = items.size))
    (h : Q (.ref s.heap.objs.size) { s with heap := s.heap.push { cls := .type "tuple", data := .seq ((items.toList.drop (sIx items.size 0 lo)).take (sIx items.size items.size hi - sIx items.size 0 lo)).toArray } })
    (hsz : items.size ≤ sizeLine) : wpAny (model prog w) A (getItem (.ref t) (.ref sl)) Q E s := by
  have htake : sizeOk (.seq ((items.toList.drop (sIx items.size 0 lo)).take (sIx items.size items.size hi - sIx items.size 0 lo)).toArray) := by
    show ((items.toList.drop (sIx items.size 0 lo)).take (sIx items.size items.size hi - sIx items.size 0 lo)).toArray.size ≤ sizeLine
    rw [List.size_toArray, List.length_take, List.length_drop, Array.length_toList]
    omega
  have hj : sIx items.size items.size hi ≤ items.size := sIx_le _ _ (Nat.le_refl _) hi
  obtain ⟨os, hos, hcs, hds⟩ := id hs
  have hTs : s.TypeIs (.ref sl) "slice" := ⟨os, hos, hcs⟩
  unfold getItem
  try with_reducible refine wpAny_holding ?_
  first | refine wpAny_bind (wpAny_pure ?_) | skip
  refine wpAny_bind (wpAny_sequenceKey ht.typeIs (by decide) ?_)
  refine wpAny_bind (wpAny_callSpecial?_slot (name := Str.ofString "__getitem__") ht.typeIs PyProof.Rows.slot_tuple_getitem
    (wpAny_call_entry PyProof.Rows.slot_tuple_getitem ht.typeIs entry_tuple_getitem ?_ (args_tuple_getitem _ _)))
  show wpAny _ _ (Builtin.Tuple.tupleItemsOf (.ref t) >>= _) _ _ s
  refine wpAny_bind (tupleItemsOf_ ht ?_)
  refine wpAny_bind (wpAny_typeOf hTs ?_)
  rw [if_pos (by decide)]
  refine wpAny_bind (sliceApplied_gen hs pl pu ?_)
  have hno : ¬ ((((sIx items.size 0 lo : Nat) : Int) == 0 && (1 : Int) == 1 && (sIx items.size items.size hi - sIx items.size 0 lo) == items.size) = true) := by
    intro q
    rw [Bool.and_eq_true, Bool.and_eq_true] at q
    have q1 : ((sIx items.size 0 lo : Nat) : Int) = 0 := eq_of_beq q.1.1
    have q2 : sIx items.size items.size hi - sIx items.size 0 lo = items.size := eq_of_beq q.2
    exact hw ⟨by omega, by omega⟩
  show wpAny _ _ (if (((sIx items.size 0 lo : Nat) : Int) == 0 && (1 : Int) == 1 && (sIx items.size items.size hi - sIx items.size 0 lo) == items.size) = true then _ else _) _ _ s
  rw [if_neg hno, pick_gen]
  first
    | exact wpAny_bind (m := Builtin.Tuple.tupleExact _) (wpAny_newObj_type (wpAny_pure ⟨_, rfl, wpAny_pure h⟩) htake)
    | exact wpAny_bind (m := Builtin.Tuple.tupleExact _) (wpAny_newObj_type (wpAny_bind (wpAny_pure (wpAny_pure ⟨_, rfl, wpAny_pure h⟩))) htake)
    | exact wpAny_bind (wpAny_bind (m := Builtin.Tuple.tupleExact _) (wpAny_newObj_type (wpAny_pure (wpAny_pure ⟨_, rfl, wpAny_pure h⟩)) htake))
    | exact wpAny_bind (wpAny_bind (m := Builtin.Tuple.tupleExact _) (wpAny_newObj_type (wpAny_pure ⟨_, rfl, wpAny_pure h⟩) htake))
end
end HT
namespace L2
open PySem PySem.Spec PyProof.Rows
noncomputable abbrev TO := St → Hp → (Option Int → Hp → Prop) → Prop
noncomputable def PO (X : Cx) (e : Option Expr) (t : TO) : Prop :=
  ∀ (pins : List (Addr × Obj)) (s : Shared) (σ : St) (H : Hp) (Q : Option Int → Hp → Prop), Inv X pins σ H s → t σ H Q →
    wpAny (model X.prog X.w) X.A (evalPart e X.env) (fun u s' => ∃ o H', Inv X pins σ H' s' ∧ IsPart u o ∧ Q o H') X.xe s
noncomputable def tNoPart : TO := fun _ H Q => Q none H
noncomputable def tPart (t : TE) : TO := fun σ H Q => t σ H fun x H1 => ∃ i, x = .int i ∧ Q (some i) H1
section
variable {X : Cx} {e : Expr} {te : TE} {lo hi : Option Expr} {tl th : TO} {pos p2 : Pos}
theorem po_none : PO X none tNoPart := by
  intro pins s σ H Q I h
  rw [evalPart_none]
  exact wpAny_pure ⟨none, H, I, .none, h⟩
theorem po_some (h : PE X e te) : PO X (some e) (tPart te) := by
  intro pins s σ H Q I hw
  rw [evalPart_some]
  refine thn (h pins s σ H _ I hw) fun u s1 ⟨x, H1, I1, r1, q1⟩ => ?_
  obtain ⟨i, rfl, q⟩ := q1
  obtain ⟨t, rfl⟩ := r1
  exact ⟨some i, H1, I1, .int i t, q⟩
noncomputable def SlR (X : Cx) (r : V → Option Int → Option Int → Hp → VK → Prop) : Prop :=
  ∀ (pins : List (Addr × Obj)) (s : Shared) (σ : St) (H : Hp) (x : V) (v vl vu : Value) (lo hi : Option Int) (sl : Addr) (Q : VK), Inv X pins σ H s → RelV x v → s.heap.IsSliceOf sl vl vu .none → IsPart vl lo → IsPart vu hi → r x lo hi H Q →
    ∃ T id, typeLookup (.type T) "__getitem__" = pure (some (.builtin id)) ∧ s.TypeIs v T ∧ wpAny (model X.prog X.w) X.A (getItem v (.ref sl)) (EP X pins σ Q) X.xe s
noncomputable def tSl (r : V → Option Int → Option Int → Hp → VK → Prop) (te : TE) (tl th : TO) : TE := fun σ H Q => te σ H fun x H1 => tl σ H1 fun l H2 => th σ H2 fun u H3 => r x l u H3 Q
theorem pe_slice {r : V → Option Int → Option Int → Hp → VK → Prop} (hr : SlR X r) (he : PE X e te) (hl : PO X lo tl) (hu : PO X hi th) : PE X (.Subscript e (.Slice lo hi none p2) pos) (tSl r te tl th) := by
  intro pins s σ H Q I h
  refine Subscript_ (thn (he pins s σ H _ I h) fun v s1 ⟨x, H1, I1, r1, q1⟩ => ?_)
  refine wpAny_Slice (thn (hl pins s1 σ H1 _ I1 q1) fun vl s2 ⟨l, H2, I2, pl, q2⟩ => thn (hu pins s2 σ H2 _ I2 q2) fun vu s3 ⟨u, H3, I3, pu, q3⟩ => ?_)
  rw [evalPart_none]
  refine wpAny_pure ?_
  have I4 : Inv X pins σ H3 { s3 with heap := s3.heap.push { cls := .type "slice", data := .fields #[vl, vu, .none] } } := I3.kept (t' := s3.toks) fun b ob q => Heap.get?_push_of_some _ q
  obtain ⟨T, id, hT, ht, hg⟩ := hr pins { s3 with heap := s3.heap.push { cls := .type "slice", data := .fields #[vl, vu, .none] } } σ H3 x v vl vu l u s3.heap.objs.size Q I4 r1 (Heap.IsSliceOf.new ..) pl pu q3
  show wpAny (model X.prog X.w) X.A (subscriptTail e (.Slice lo hi none p2) v (.ref s3.heap.objs.size)) (EP X pins σ Q) X.xe { s3 with heap := s3.heap.push { cls := .type "slice", data := .fields #[vl, vu, .none] } }
  exact tail_any (ops := [.ref s3.heap.objs.size, v]) ht hT hg (by with_unfolding_all rfl)
noncomputable def cutV (xs : List V) (lo hi : Option Int) : List V := (xs.drop (HT.sIx xs.length 0 lo)).take (HT.sIx xs.length xs.length hi - HT.sIx xs.length 0 lo)
theorem cutV_length (xs : List V) (lo hi : Option Int) : (cutV xs lo hi).length ≤ xs.length := by
  unfold cutV
  rw [List.length_take, List.length_drop]
  omega
noncomputable def rSlT (K : PySem.W.Frag) : V → Option Int → Option Int → Hp → VK → Prop := fun x lo hi H Q => ∃ a xs, x = .ref a ∧ SqT K H a xs ∧
  ¬ (HT.sIx xs.length 0 lo = 0 ∧ HT.sIx xs.length xs.length hi = xs.length) ∧ ∀ p, H p = none → Q (.ref p) (upd H p (.tup (cutV xs lo hi)))
theorem sl_tup : SlR X (rSlT X.K) := by
  intro pins s σ H x v vl vu lo hi sl Q I rx hs pl pu h
  obtain ⟨a, xs, rfl, hx, hw, q⟩ := h
  cases rx
  obtain ⟨its, r, ht, hz⟩ := I.tuple hx
  have hlen : its.toArray.size = xs.length := by rw [List.size_toArray]; exact r.length.symm
  refine ⟨"tuple", _, PyProof.Rows.slot_tuple_getitem.lookup, ht.typeIs, ?_⟩
  refine HT.getItem_tuple_cut ht hs pl pu (by rw [hlen]; exact hw) ?_ (by rw [hlen]; exact hz)
  rw [hlen]
  refine ⟨.ref s.heap.objs.size, _, I.laid (t' := s.toks) (o := .tup (cutV xs lo hi)) (fun b ob q => Heap.get?_push_of_some _ q) (Nat.le_refl _) ?_, rfl, q _ (I.hok.fresh (Nat.le_refl _))⟩
  exact ⟨Nat.le_trans (cutV_length xs lo hi) hz, _, (r.drop (HT.sIx xs.length 0 lo)).take (HT.sIx xs.length xs.length hi - HT.sIx xs.length 0 lo), IsTup.new _ _⟩
end
end L2
namespace L2
open PySem PySem.Spec PyProof.Rows
noncomputable def ixN (n : Nat) (i : Int) : Option Nat := if 0 ≤ i then (if i < n then some i.toNat else none) else if -(n : Int) ≤ i then some (i + n).toNat else none
noncomputable def atI {α : Type} (xs : List α) (i : Int) : Option α := (ixN xs.length i).bind fun j => xs[j]?
theorem ixN_seq {n : Nat} {i : Int} {j : Nat} (h : ixN n i = some j) : seqIndex? i n = some j ∧ j < n ∧ -(n : Int) ≤ i ∧ i < n := by
  unfold ixN at h
  by_cases h0 : 0 ≤ i
  · rw [if_pos h0] at h
    by_cases h1 : i < n
    · rw [if_pos h1] at h
      have e : i.toNat = j := Option.some.inj h
      exact ⟨by rw [seqIndex_of h0 h1, e], by omega, by omega, h1⟩
    · rw [if_neg h1] at h; cases h
  · rw [if_neg h0] at h
    by_cases h1 : -(n : Int) ≤ i
    · rw [if_pos h1] at h
      have e : (i + n).toNat = j := Option.some.inj h
      exact ⟨by rw [seqIndex_neg (by omega) h1, e], by omega, h1, by omega⟩
    · rw [if_neg h1] at h; cases h
theorem atI_get {α : Type} {xs : List α} {i : Int} {v : α} (h : atI xs i = some v) : ∃ j, seqIndex? i xs.length = some j ∧ xs[j]? = some v ∧ j < xs.length ∧ -(xs.length : Int) ≤ i ∧ i < xs.length := by
  unfold atI at h
  cases e : ixN xs.length i with
  | none => rw [e] at h; cases h
  | some j =>
    rw [e] at h
    obtain ⟨h1, h2, h3, h4⟩ := ixN_seq e
    exact ⟨j, h1, h, h2, h3, h4⟩
theorem atI_nat {α : Type} {xs : List α} {j : Nat} {v : α} (h : xs[j]? = some v) : atI xs (j : Int) = some v := by
  have hj : j < xs.length := (List.getElem?_eq_some_iff.mp h).1
  have e : ixN xs.length (j : Int) = some j := by
    unfold ixN
    rw [if_pos (by omega), if_pos (by omega)]; simp
  unfold atI; rw [e]; exact h
noncomputable def PlainIx (b : Expr) : Prop := ∀ o i, subscripted b false o i = operate [o, i] (getItem o i)
noncomputable def IxR (X : Cx) (r : R2) : Prop :=
  ∀ (value slice : Expr) (pins : List (Addr × Obj)) (s : Shared) (σ : St) (H : Hp) (x y : V) (v u : Value) (Q : VK), Inv X pins σ H s → RelV x v → RelV y u → r x y H Q →
    subscripted slice false v u = operate [v, u] (getItem v u) → wpAny (model X.prog X.w) X.A (subscriptTail value slice v u) (EP X pins σ Q) X.xe s
noncomputable def MtR (X : Cx) (id : String) (r : V → List V → Hp → VK → Prop) : Prop :=
  ∀ (pins : List (Addr × Obj)) (s : Shared) (σ : St) (H : Hp) (x : V) (xs : List V) (v : Value) (us : List Value) (Q : VK), Inv X pins σ H s → RelV x v → Vals xs us → r x xs H Q →
    wpAny (model X.prog X.w) X.A (call (.builtin id) (v :: us)) (EP X pins σ Q) X.xe s
section
variable {X : Cx} {a b : Expr} {ta tb : TE} {pos : Pos}
theorem pe_ix {r : R2} (hr : IxR X r) (ha : PE X a ta) (hb : PE X b tb) (hs : PlainIx b) : PE X (.Subscript a b pos) (tOp r ta tb) := by
  intro pins s σ H Q I h
  exact Subscript_ (binT ha hb I h fun v u s2 x y H2 I2 rx ry q => hr a b pins s2 σ H2 x y v u Q I2 rx ry q (hs _ _))
noncomputable def rIxL (K : PySem.W.Frag) : R2 := fun x y H Q => ∃ p xs i v, x = .ref p ∧ y = .int i ∧ SqL K H p xs ∧ atI xs i = some v ∧ Q v H
noncomputable def rIxT (K : PySem.W.Frag) : R2 := fun x y H Q => ∃ p xs i v, x = .ref p ∧ y = .int i ∧ SqT K H p xs ∧ atI xs i = some v ∧ Q v H
theorem ix_list : IxR X (rIxL X.K) := by
  intro value slice pins s σ H x y v u Q I rx ry h hs
  obtain ⟨p, xs, i, z, rfl, rfl, hq, he, q⟩ := h
  cases rx
  obtain ⟨t, rfl⟩ := ry
  obtain ⟨its, r, pl, hz⟩ := I.list hq
  obtain ⟨j, h1, h2, h3, h4, h5⟩ := atI_get he
  obtain ⟨w, ew, rw'⟩ := r.get h2
  have hl := r.length
  have hn := line63
  have fin : EP X pins σ Q w s := ⟨z, H, I, rw', q⟩
  by_cases h0 : 0 ≤ i
  · have hj : i.toNat = j := by
      rw [seqIndex_of h0 h5] at h1
      exact Option.some.inj h1
    exact item_listR pl.isList h0 (by omega) (by rw [hj]; simpa using ew) fin hs
  · have hj : (i + (its.toArray.size : Int)).toNat = j := by
      rw [seqIndex_neg (by omega) h4] at h1
      rw [List.size_toArray, ← hl]
      exact Option.some.inj h1
    exact subscriptTail_builtinR (x := w) pl.isList.typeIs slot_list_getitem.lookup
      (wpAny_getItem_list_neg (Q := fun r s' => r = w ∧ EP X pins σ Q r s') pl.isList (by omega) (by rw [List.size_toArray] <;> omega) (by omega) (by rw [hj]; simpa using ew) ⟨rfl, fin⟩) hs
theorem ix_tup : IxR X (rIxT X.K) := by
  intro value slice pins s σ H x y v u Q I rx ry h hs
  obtain ⟨p, xs, i, z, rfl, rfl, hq, he, q⟩ := h
  cases rx
  obtain ⟨t, rfl⟩ := ry
  obtain ⟨its, r, pl, hz⟩ := I.tuple hq
  obtain ⟨j, h1, h2, h3, h4, h5⟩ := atI_get he
  obtain ⟨w, ew, rw'⟩ := r.get h2
  have hl := r.length
  have hn := line63
  have fin : EP X pins σ Q w s := ⟨z, H, I, rw', q⟩
  exact subscriptTail_builtinR (x := w) pl.typeIs slot_tuple_getitem.lookup
    (getItem_tuple (j := j) (Q := fun r s' => r = w ∧ EP X pins σ Q r s') pl (by omega) (by omega) (by rw [List.size_toArray, ← hl]; exact h1) (by simpa using ew) ⟨rfl, fin⟩) hs
theorem mapSeq_set (its : List Value) (n j : Nat) (u : Value) : Obj.mapSeq (·.setIfInBounds j u) { cls := .type "list", data := .seq its.toArray n } = { cls := .type "list", data := .seq (its.set j u).toArray n } := by
  simp [Obj.mapSeq]
theorem Inv.lst {pins : List (Addr × Obj)} {σ : St} {H : Hp} {s : Shared} {p : Addr} {xs : List V} (I : Inv X pins σ H s) (h : H p = some (.lst xs)) :
    ∃ (its : List Value) (n : Nat), Vals xs its ∧ s.heap.get? p = some { cls := .type "list", data := .seq its.toArray n } ∧ xs.length ≤ sizeLine := by
  obtain ⟨z, its, n, r, e⟩ := I.hok p _ h
  exact ⟨its, n, r, e, z⟩
theorem Inv.lstUpd {pins : List (Addr × Obj)} {σ : St} {H : Hp} {s : Shared} {p : Addr} {xs ys : List V} {its its' : List Value} {n n' : Nat} {f : Obj → Obj} (I : Inv X pins σ H s) (h : H p = some (.lst xs))
    (ho : s.heap.get? p = some { cls := .type "list", data := .seq its.toArray n }) (hf : f { cls := .type "list", data := .seq its.toArray n } = { cls := .type "list", data := .seq its'.toArray n' }) (r : Vals ys its') (hz : ys.length ≤ sizeLine) (t : Nat) :
    Inv X pins σ (upd H p (.lst ys)) { s with heap := s.heap.update p f, toks := t } := by
  have e : (s.heap.update p f).get? p = some { cls := .type "list", data := .seq its'.toArray n' } := by
    rw [Heap.get?_update_self f ho (by rw [hf] <;> rfl), hf]
  refine I.write (x := p) (e := p) (by rw [h]; trivial) (.inl rfl) (fun b u hb q => (Heap.get?_update_other _ _ (Ne.symm hb)).trans q) ⟨_, e⟩ ?_
  exact ⟨hz, its', n', r, e⟩
noncomputable def rSetL : V → V → V → Hp → (Hp → Prop) → Prop := fun o i v H Q => ∃ p xs k j, o = .ref p ∧ i = .int k ∧ H p = some (.lst xs) ∧ ixN xs.length k = some j ∧ Q (upd H p (.lst (xs.set j v)))
theorem set_list : PSet X rSetL := by
  intro pins s σ H o i v ov iv u Q I ro ri rv h
  obtain ⟨p, xs, k, j, rfl, rfl, hp, hj, q⟩ := h
  cases ro
  obtain ⟨t, rfl⟩ := ri
  obtain ⟨its, n, r, ho, hz⟩ := I.lst hp
  obtain ⟨h1, h2, h3, h4⟩ := ixN_seq hj
  have hl := r.length
  have hn := line63
  have I' : Inv X pins σ (upd H p (.lst (xs.set j v))) { s with heap := s.heap.update p (Obj.mapSeq (·.setIfInBounds j u)) } :=
    I.lstUpd hp ho (mapSeq_set its n j u) (r.set rv j) (by rw [List.length_set]; exact hz) s.toks
  by_cases h0 : 0 ≤ k
  · have hk : k.toNat = j := by
      rw [seqIndex_of h0 h4] at h1
      exact Option.some.inj h1
    exact PySem.W.ki_setAt ho h0 (by omega) (by rw [List.size_toArray, ← hl]; exact h4) (by rw [hk]; exact ⟨_, I', q⟩)
  · have hk : (k + (its.toArray.size : Int)).toNat = j := by
      rw [seqIndex_neg (by omega) h3] at h1
      rw [List.size_toArray, ← hl]
      exact Option.some.inj h1
    exact PySem.W.ki_setBack ho (by omega) (by rw [List.size_toArray, ← hl]; exact h3) (by omega) (by rw [hk]; exact ⟨_, I', q⟩)
theorem slice_bounds (lo hi : Option Int) (n : Nat) : (sliceBounds lo hi none n).1 = ((HT.sIx n 0 lo : Nat) : Int) ∧ (sliceBounds lo hi none n).2.1 = ((HT.sIx n n hi : Nat) : Int) ∧ (sliceBounds lo hi none n).2.2 = 1 := by
  refine ⟨?_, ?_, rfl⟩
  · cases lo with
    | none => simp [sliceBounds, HT.sIx]
    | some i =>
      simp only [sliceBounds, HT.sIx, Option.getD_none, show (1 : Int) > 0 by decide, if_true]
      by_cases h : i < 0
      · simp only [h, if_true] <;> omega
      · simp only [h, if_false] <;> omega
  · cases hi with
    | none => simp [sliceBounds, HT.sIx]
    | some i =>
      simp only [sliceBounds, HT.sIx, Option.getD_none, show (1 : Int) > 0 by decide, if_true]
      by_cases h : i < 0
      · simp only [h, if_true] <;> omega
      · simp only [h, if_false] <;> omega
theorem slicePick_cut (its : List Value) (lo hi : Option Int) : slicePick its.toArray lo hi none = ((its.drop (HT.sIx its.length 0 lo)).take (HT.sIx its.length its.length hi - HT.sIx its.length 0 lo)).toArray := by
  obtain ⟨h1, h2, h3⟩ := slice_bounds lo hi its.toArray.size
  unfold slicePick
  rw [h1, h2, h3]
  simp only [sliceRange_one, pick_run, List.size_toArray] <;> rfl
noncomputable def rSlL (K : PySem.W.Frag) : V → Option Int → Option Int → Hp → VK → Prop := fun x lo hi H Q => ∃ a xs, x = .ref a ∧ SqL K H a xs ∧ ∀ p, H p = none → Q (.ref p) (upd H p (.lst (cutV xs lo hi)))
theorem sl_list : SlR X (rSlL X.K) := by
  intro pins s σ H x v vl vu lo hi sl Q I rx hs pl pu h
  obtain ⟨a, xs, rfl, hx, q⟩ := h
  cases rx
  obtain ⟨its, r, ht, hz⟩ := I.list hx
  have hlen := r.length
  refine ⟨"list", _, slot_list_getitem.lookup, ht.isList.typeIs, ?_⟩
  refine wpAny_getItem_list_slice ht.isList hs pl pu .none (by simp) ?_ (by rw [List.size_toArray] <;> omega)
  rw [slicePick_cut, ← hlen]
  refine ⟨.ref s.heap.objs.size, _, I.laid (t' := s.toks) (o := .lst (cutV xs lo hi)) (fun b ob q => Heap.get?_push_of_some _ q) (Nat.le_refl _) ?_, rfl, q _ (I.hok.fresh (Nat.le_refl _))⟩
  exact ⟨Nat.le_trans (cutV_length xs lo hi) hz, _, 0, (r.drop (HT.sIx xs.length 0 lo)).take (HT.sIx xs.length xs.length hi - HT.sIx xs.length 0 lo), Heap.get?_push_size _ rfl⟩
noncomputable def flatV : V → Bool
  | .non => true
  | .bl _ => true
  | .int _ => true
  | .str _ => true
  | _ => false
noncomputable def eqV : V → V → Bool
  | .non, .non => true
  | .bl a, .bl b => a == b
  | .bl a, .int b => (if a then 1 else 0) == b
  | .int a, .bl b => a == (if b then 1 else 0)
  | .int a, .int b => a == b
  | .str a, .str b => a == b
  | _, _ => false
theorem eqAt_V {A : Around} {s : Shared} {y x : V} {u v : Value} (ry : RelV y u) (rx : RelV x v) (fy : flatV y = true) (fx : flatV x = true) : SeqAt.EqAt A s u v (eqV y x) := by
  cases y with
  | non =>
    cases ry
    cases x with
    | non => cases rx; exact SeqAt.EqAt.same _
    | bl b => cases rx; exact SeqAt.EqAt.none_bool b
    | int b => obtain ⟨t, rfl⟩ := rx; exact SeqAt.EqAt.none_int b t
    | str b => obtain ⟨t, rfl⟩ := rx; exact SeqAt.EqAt.none_str b t
    | _ => exact absurd (show false = true from fx) Bool.false_ne_true
  | bl a =>
    cases ry
    cases x with
    | non => cases rx; exact SeqAt.EqAt.bool_none a
    | bl b => cases rx; exact SeqAt.EqAt.bool_bool a b
    | int b => obtain ⟨t, rfl⟩ := rx; exact SeqAt.EqAt.bool_int a b t
    | str b => obtain ⟨t, rfl⟩ := rx; exact SeqAt.EqAt.bool_str a b t
    | _ => exact absurd (show false = true from fx) Bool.false_ne_true
  | int a =>
    obtain ⟨t', rfl⟩ := ry
    cases x with
    | non => cases rx; exact SeqAt.EqAt.int_none a t'
    | bl b => cases rx; exact SeqAt.EqAt.int_bool a t' b
    | int b => obtain ⟨t, rfl⟩ := rx; exact SeqAt.EqAt.int_int a t' b t
    | str b => obtain ⟨t, rfl⟩ := rx; exact SeqAt.EqAt.int_str a t' b t
    | _ => exact absurd (show false = true from fx) Bool.false_ne_true
  | str a =>
    obtain ⟨t', rfl⟩ := ry
    cases x with
    | non => cases rx; exact SeqAt.EqAt.str_none a t'
    | bl b => cases rx; exact SeqAt.EqAt.str_bool a t' b
    | int b => obtain ⟨t, rfl⟩ := rx; exact SeqAt.EqAt.str_int a t' b t
    | str b => obtain ⟨t, rfl⟩ := rx; exact SeqAt.EqAt.str_str a t' b t
    | _ => exact absurd (show false = true from fx) Bool.false_ne_true
  | _ => exact absurd (show false = true from fy) Bool.false_ne_true
noncomputable def eqU (x : V) (u : Value) : Bool := match u with
  | .none => eqV .non x
  | .bool b => eqV (.bl b) x
  | .int i _ => eqV (.int i) x
  | .str z _ => eqV (.str z) x
  | _ => false
theorem eqU_of {x y : V} {u : Value} (r : RelV y u) (f : flatV y = true) : eqU x u = eqV y x := by
  cases y with
  | non => cases r; rfl
  | bl b => cases r; rfl
  | int i => obtain ⟨t, rfl⟩ := r; rfl
  | str z => obtain ⟨t, rfl⟩ := r; rfl
  | _ => exact absurd (show false = true from f) Bool.false_ne_true
theorem any_eqU {x : V} : ∀ {xs : List V} {us : List Value}, Vals xs us → xs.all flatV = true → us.any (eqU x) = xs.any fun y => eqV y x
  | _, _, .nil, _ => rfl
  | y :: xs, u :: us, .cons r t, f => by
    rw [List.all_cons, Bool.and_eq_true] at f
    rw [List.any_cons, List.any_cons, eqU_of r f.1, any_eqU t f.2]
theorem mem_eqAt {A : Around} {s : Shared} {x : V} {v : Value} (rx : RelV x v) (fx : flatV x = true) : ∀ {xs : List V} {us : List Value}, Vals xs us → xs.all flatV = true → ∀ u ∈ us, SeqAt.EqAt A s u v (eqU x u)
  | _, _, .nil, _ => fun u hu => by cases hu
  | y :: xs, u :: us, .cons r t, f => fun u' hu => by
    rw [List.all_cons, Bool.and_eq_true] at f
    rcases List.mem_cons.mp hu with rfl | hu
    · rw [eqU_of r f.1]; exact eqAt_V r rx f.1 fx
    · exact mem_eqAt rx fx t f.2 u' hu
noncomputable def inV (x : V) (xs : List V) : Bool := xs.any fun y => eqV y x
noncomputable def rIn (K : PySem.W.Frag) (neg : Bool) : R2 := fun x y H Q => ∃ p xs, y = .ref p ∧ (SqL K H p xs ∨ SqT K H p xs) ∧ flatV x = true ∧ xs.all flatV = true ∧ Q (.bl (if neg then !inV x xs else inV x xs)) H
theorem op_notIn_seq : OpR X (compareOp .NotIn) (rIn X.K true) := by
  intro pins s σ H x y v u Q I rx ry h
  obtain ⟨p, xs, rfl, hq, fx, fs, q⟩ := h
  cases ry
  rcases hq with hq | hq
  · obtain ⟨its, r, pl, hz⟩ := I.list hq
    refine SeqAt.notIn_listAt (eqU x) pl.isList (fun w hw => mem_eqAt rx fx r fs w (by simpa using hw)) ⟨.bl _, H, I, rfl, ?_⟩
    rw [show its.toArray.any (eqU x) = its.any (eqU x) by simp, any_eqU r fs]
    exact q
  · obtain ⟨its, r, pl, hz⟩ := I.tuple hq
    refine SeqAt.notIn_tupleAt (eqU x) pl (fun w hw => mem_eqAt rx fx r fs w (by simpa using hw)) ⟨.bl _, H, I, rfl, ?_⟩
    rw [show its.toArray.any (eqU x) = its.any (eqU x) by simp, any_eqU r fs]
    exact q
theorem call_len_seq : CallR X (.builtin "len") (fun xs H Q => ∃ p ys, xs = [.ref p] ∧ (SqL X.K H p ys ∨ SqT X.K H p ys) ∧ Q (.int ys.length) H) := by
  intro pins s σ H xs us Q I r h
  obtain ⟨p, ys, rfl, hq, q⟩ := h
  obtain ⟨u, rfl, rx⟩ := vals1 r
  cases rx
  have hn := line63
  rcases hq with hq | hq
  · obtain ⟨its, r', pl, hz⟩ := I.list hq
    have hlen := r'.length
    exact Calls.call_len_list pl.isList (by simp only [List.size_toArray] <;> omega) ⟨.int ys.length, H, I.tok _, ⟨s.toks + 1, by rw [List.size_toArray, hlen]⟩, q⟩
  · obtain ⟨its, r', pl, hz⟩ := I.tuple hq
    have hlen := r'.length
    exact len_tuple pl (by simp only [List.size_toArray] <;> omega) ⟨.int ys.length, H, I.tok _, ⟨s.toks + 1, by rw [List.size_toArray, hlen]⟩, q⟩
theorem call_list_of : CallR X (.type "list") (fun xs H Q => ∃ p ys, xs = [.ref p] ∧ (SqL X.K H p ys ∨ SqT X.K H p ys) ∧ ∀ l, H l = none → Q (.ref l) (upd H l (.lst ys))) := by
  intro pins s σ H xs us Q I r h
  obtain ⟨p, ys, rfl, hq, q⟩ := h
  obtain ⟨u, rfl, rx⟩ := vals1 r
  cases rx
  have fin : ∀ (its : List Value), Vals ys its → ys.length ≤ sizeLine → ∀ (h' : Heap) (c' : Nat), (∀ b o', s.heap.get? b = some o' → h'.get? b = some o') →
      h'.get? s.heap.objs.size = some { cls := .type "list", dict := none, data := .seq its.toArray c', slots := #[] } → EP X pins σ Q (.ref s.heap.objs.size) { s with heap := h' } := fun its r' hz h' c' kp e =>
    ⟨.ref s.heap.objs.size, _, I.laid (t' := s.toks) kp (Nat.le_refl _) (show ObjOk X.prog X.w _ h' _ (.lst ys) from ⟨hz, its, c', r', e⟩), rfl, q _ (I.hok.fresh (Nat.le_refl _))⟩
  rcases hq with hq | hq
  · obtain ⟨its, r', pl, hz⟩ := I.list hq
    have hlen := r'.length
    obtain ⟨o, ho, hc, n, hd⟩ := pl.isList
    exact call_list_seq p (.inl rfl) ho hc hd (fun h' c' kp e => fin its r' hz h' c' kp e) (by simp only [List.size_toArray] <;> omega)
  · obtain ⟨its, r', pl, hz⟩ := I.tuple hq
    have hlen := r'.length
    obtain ⟨o, ho, hc, n, hd⟩ := pl
    exact call_list_seq p (.inr rfl) ho hc hd (fun h' c' kp e => fin its r' hz h' c' kp e) (by simp only [List.size_toArray] <;> omega)
noncomputable def tyV (K : PySem.W.Frag) (T : String) (x : V) (H : Hp) : Prop := match x with
  | .str _ => T = "str"
  | .int _ => T = "int"
  | .ref p => (T = "list" ∧ ∃ xs, SqL K H p xs) ∨ (T = "tuple" ∧ ∃ o, K.lookup p = some o ∧ o.cls = .type "tuple" ∧ o.dict = none) ∨
      (T = "dict" ∧ ((∃ kvs, H p = some (.dK kvs)) ∨ ∃ kvs, H p = some (.dT kvs))) ∨ (T = "set" ∧ ∃ S n, H p = some (.set S n))
  | _ => False
theorem tyV_is {pins : List (Addr × Obj)} {σ : St} {H : Hp} {s : Shared} {T : String} {x : V} {v : Value} (I : Inv X pins σ H s) (r : RelV x v) (ty : tyV X.K T x H) :
    s.TypeIs v T ∧ ∀ a, v = .ref a → ∃ ob, s.heap.get? a = some ob ∧ ob.dict = none := by
  cases x with
  | str z =>
    obtain ⟨t, rfl⟩ := r
    cases (show T = "str" from ty)
    exact ⟨typeIs_str s z t, fun _ e => nomatch e⟩
  | int i =>
    obtain ⟨t, rfl⟩ := r
    cases (show T = "int" from ty)
    exact ⟨typeIs_int s i t, fun _ e => nomatch e⟩
  | ref p =>
    cases r
    rcases ty with ⟨rfl, xs, hq⟩ | ⟨rfl, o, hk, hc, hd⟩ | ⟨rfl, hk⟩ | ⟨rfl, S, n, hk⟩
    · obtain ⟨its, _, pl, _⟩ := I.list hq
      refine ⟨pl.isList.typeIs, fun a e => ?_⟩
      cases e
      obtain ⟨o, n, e, c, hd, _⟩ := pl
      exact ⟨o, e, hd⟩
    · refine ⟨⟨o, I.kIn p o hk, hc⟩, fun a e => ?_⟩
      cases e
      exact ⟨o, I.kIn _ o hk, hd⟩
    · have z : ∃ o, s.heap.get? p = some o ∧ o.ExactDict := by
        rcases hk with ⟨kvs, hk⟩ | ⟨kvs, hk⟩
        · obtain ⟨_, _, _, _, o, _, _, e, ex, _⟩ := I.hok p _ hk
          exact ⟨o, e, ex⟩
        · obtain ⟨_, _, _, _, o, _, _, e, ex, _⟩ := I.hok p _ hk
          exact ⟨o, e, ex⟩
      obtain ⟨o, e, ex⟩ := z
      refine ⟨⟨o, e, ex.1⟩, fun a e2 => ?_⟩
      cases e2
      exact ⟨o, e, ex.2.1⟩
    · obtain ⟨o, _, _, _, e, ex, _⟩ := I.hok p _ hk
      refine ⟨⟨o, e, ex.1⟩, fun a e2 => ?_⟩
      cases e2
      exact ⟨o, e, ex.2.1⟩
  | _ => exact False.elim ty
noncomputable def tBM0 (K : PySem.W.Frag) (T : String) (r : V → List V → Hp → VK → Prop) (to : TE) : TE := fun σ H Q => to σ H fun x H1 => tyV K T x H1 ∧ r x [] H1 Q
noncomputable def tBM (K : PySem.W.Frag) (T : String) (r : V → List V → Hp → VK → Prop) (to : TE) (t : TA) : TE := fun σ H Q => to σ H fun x H1 => tyV K T x H1 ∧ t σ H1 fun xs H2 => r x xs H2 Q
variable {o e : Expr} {es : List Expr} {to : TE} {t : TA} {name : Str} {apos cpos : Pos} {T id : String} {r : V → List V → Hp → VK → Prop}
theorem pe_bm0 (pa : PlainAttrs T) (slot : Slot T name id) (hty : typeOf (.builtin id) = pure (.type "method_descriptor")) (hm : MtR X id r) (ho : PE X o to)
    (hbase : attributeBase o name X.env (eval o X.env) = eval o X.env := by rfl) (hline : (apos.endLine == cpos.line) = true := by rfl) : PE X (.Call (.Attribute o name apos) [] [] cpos) (tBM0 X.K T r to) := by
  intro pins s σ H Q I h
  refine wpAny_Call_method0_late hbase hline (thn (ho pins s σ H _ I h) fun v s1 ⟨x, H1, I1, r1, ty, q1⟩ => ?_)
  obtain ⟨h1, h2⟩ := tyV_is I1 r1 ty
  exact ⟨T, id, pa, slot, hty, h1, h2, Calls.callWith_builtin rfl (PySem.evalArgs_none (hm pins s1 σ H1 x [] v [] Q I1 r1 .nil q1))⟩
theorem pe_bm (pa : PlainAttrs T) (slot : Slot T name id) (hty : typeOf (.builtin id) = pure (.type "method_descriptor")) (hm : MtR X id r) (ho : PE X o to) (ha : PA X (e :: es) t)
    (hbase : attributeBase o name X.env (eval o X.env) = eval o X.env := by rfl)
    (hfew : ((backTo cpos (starEach (e :: es) X.env)).all (fun x => !x.1) && (backToKw cpos (keywordEach [] X.env)).all (fun x => x.1.isSome)
      && decide ((e :: es).length + ([] : List Keyword).length + (if ([] : List Keyword).isEmpty then 0 else 1) < 30)) = true := by rfl)
    (hline : (apos.endLine == cpos.line) = true := by rfl) (hs : starEach (e :: es) X.env = (false, eval e X.env) :: starEach es X.env := by rfl) (hplain : (backTo cpos (starEach es X.env)).any (·.1) = false := by rfl) :
    PE X (.Call (.Attribute o name apos) (e :: es) [] cpos) (tBM X.K T r to t) := by
  intro pins s σ H Q I h
  refine wpAny_Call_method_late hbase hfew hline rfl (thn (ho pins s σ H _ I h) fun v s1 ⟨x, H1, I1, r1, ty, q1⟩ => ?_)
  obtain ⟨h1, h2⟩ := tyV_is I1 r1 ty
  refine ⟨T, id, pa, slot, hty, h1, h2, ?_⟩
  have hA := ha cpos pins s1 σ H1 _ I1 q1
  rw [hs] at hA ⊢
  refine Calls.callWith_builtin (by show (false || (backTo cpos (starEach es X.env)).any (·.1)) = false; rw [hplain] <;> rfl) (Calls.evalArgs_plain ?_)
  exact thn hA fun us s2 ⟨vs, H2, I2, r2, q2⟩ => hm pins s2 σ H2 x vs v us Q I2 r1 r2 q2
end
end L2
namespace L2
open PySem PySem.Spec PyProof.Rows
noncomputable def MtM (X : Cx) (id : String) (r : V → List V → Hp → VK → Prop) : Prop :=
  ∀ (pins : List (Addr × Obj)) (s : Shared) (σ : St) (H : Hp) (x : V) (xs : List V) (v : Value) (us : List Value) (Q : VK), Inv X pins σ H s → RelV x v → Vals xs us → r x xs H Q →
    wpAny (model X.prog X.w) X.A (call (.builtin id) (v :: us)) (EP X pins σ Q) X.xe s
theorem Vals.one : ∀ {x : V} {us : List Value}, Vals [x] us → ∃ u, us = [u] ∧ RelV x u
  | _, _, .cons r .nil => ⟨_, rfl, r⟩
theorem Vals.two : ∀ {x y : V} {us : List Value}, Vals [x, y] us → ∃ u v, us = [u, v] ∧ RelV x u ∧ RelV y v
  | _, _, _, .cons r (.cons q .nil) => ⟨_, _, rfl, r, q⟩
theorem Vals.zero : ∀ {us : List Value}, Vals [] us → us = []
  | _, .nil => rfl
theorem Vals.dropLast {xs : List V} {us : List Value} (h : Vals xs us) : Vals xs.dropLast us.dropLast := by
  induction h with
  | nil => exact .nil
  | cons r t ih =>
    cases t with
    | nil => exact .nil
    | cons q t' => exact .cons r ih
theorem erase_last {α : Type} (l : List α) : l.eraseIdx (l.length - 1) = l.dropLast := by
  induction l with
  | nil => rfl
  | cons a r ih =>
    cases r with
    | nil => rfl
    | cons b r =>
      have e : (a :: b :: r).length - 1 = ((b :: r).length - 1) + 1 := by
        have h1 : (a :: b :: r).length = r.length + 2 := rfl
        have h2 : (b :: r).length = r.length + 1 := rfl
        omega
      rw [e, List.eraseIdx_cons_succ, ih]
      all_goals rfl
section
variable {X : Cx} {pins : List (Addr × Obj)} {σ : St} {H : Hp} {s : Shared} {l b : Addr} {xs ys zs : List V}
theorem Inv.lset {its its' : List Value} {n : Nat} {f : Array Value → Array Value} {t' : Nat} (I : Inv X pins σ H s) (hH : H l = some (.lst xs))
    (e : s.heap.get? l = some { cls := .type "list", data := .seq its.toArray n }) (hf : f its.toArray = its'.toArray) (hv : Vals ys its') (hz : ys.length ≤ sizeLine) :
    Inv X pins σ (upd H l (.lst ys)) { s with heap := s.heap.update l (Obj.mapSeq f), toks := t' } := by
  have q := PySem.IsL.update e f
  rw [hf] at q
  refine I.write (x := l) (e := l) (by rw [hH]; exact trivial) (.inl rfl) (fun b' u hb hu => (Heap.get?_update_other s.heap (Obj.mapSeq f) (Ne.symm hb)).trans hu) ⟨_, q⟩ ?_
  exact ⟨hz, its', _, hv, q⟩
theorem Inv.lnew {its : List Value} {t' : Nat} (I : Inv X pins σ H s) (hv : Vals ys its) (hz : ys.length ≤ sizeLine) :
    Inv X pins σ (upd H s.heap.objs.size (.lst ys)) { s with heap := s.heap.push { cls := .type "list", data := .seq its.toArray }, toks := t' } :=
  I.laid (fun _ _ q => Heap.get?_push_of_some _ q) (Nat.le_refl _) ⟨hz, its, 0, hv, Heap.get?_push_size _ rfl⟩
theorem Inv.fresh (I : Inv X pins σ H s) : H s.heap.objs.size = none := I.hok.fresh (Nat.le_refl _)
theorem Inv.lstM (I : Inv X pins σ H s) (hH : H l = some (.lst xs)) : xs.length ≤ sizeLine ∧ ∃ (its : List Value) (n : Nat), Vals xs its ∧ xs.length = its.length ∧ s.heap.get? l = some { cls := .type "list", data := .seq its.toArray n } := by
  obtain ⟨z, its, n, r, e⟩ := I.hok l _ hH
  exact ⟨z, its, n, r, r.length, e⟩
theorem notLongL {n : Nat} (h : n ≤ sizeLine) : Builtin.List.listTooLong n = false := by
  unfold Builtin.List.listTooLong
  exact decide_eq_false (by omega)
end
section
variable {X : Cx}
noncomputable def rAppend : V → List V → Hp → VK → Prop := fun x vs H Q => ∃ l xs y, x = .ref l ∧ vs = [y] ∧ H l = some (.lst xs) ∧ xs.length < sizeLine ∧ Q .non (upd H l (.lst (xs ++ [y])))
theorem mt_append : MtM X "list.append" rAppend := by
  intro pins s σ H x vs v us Q I rx rv h
  obtain ⟨l, xs, y, rfl, rfl, hH, hz, q⟩ := h
  cases rx
  obtain ⟨u, rfl, ru⟩ := rv.one
  obtain ⟨z, its, n, r, hl, e⟩ := I.lstM hH
  refine call_meets F.slot_list_append ⟨_, e, rfl⟩ F.entry_list_append (F.args_list_append_2 _ _) (PySem.list_append l its.toArray n u (by rw [List.size_toArray]; omega)) ⟨e, ?_⟩
  refine ⟨.non, _, I.lset (its' := its ++ [u]) hH e (by simp) (r.append (.cons ru .nil)) ?_, rfl, q⟩
  rw [List.length_append, List.length_singleton]
  omega
noncomputable def rExtend : V → List V → Hp → VK → Prop := fun x vs H Q => ∃ l b xs zs, x = .ref l ∧ vs = [.ref b] ∧ H l = some (.lst xs) ∧ H b = some (.lst zs) ∧ xs.length + zs.length ≤ sizeLine ∧ Q .non (upd H l (.lst (xs ++ zs)))
theorem mt_extend : MtM X "list.extend" rExtend := by
  intro pins s σ H x vs v us Q I rx rv h
  obtain ⟨l, b, xs, zs, rfl, rfl, hH, hB, hz, q⟩ := h
  cases rx
  obtain ⟨u, rfl, ru⟩ := rv.one
  cases ru
  obtain ⟨z, its, n, r, hl, e⟩ := I.lstM hH
  obtain ⟨z2, its2, n2, r2, hl2, e2⟩ := I.lstM hB
  have hsz : its.toArray.size + its2.toArray.size ≤ sizeLine := by rw [List.size_toArray, List.size_toArray]; omega
  have hlong : ¬ (!its.toArray.isEmpty && Builtin.List.listTooLong (its.toArray.size + its2.toArray.size)) = true := by
    rw [notLongL hsz, Bool.and_false]
    exact Bool.false_ne_true
  refine call_meets F.slot_list_extend ⟨_, e, rfl⟩ F.entry_list_extend (F.args_list_extend_2 _ _)
    (AutoSeq1.list_extend_list_list_0 l its.toArray n b its2.toArray n2 hlong (by rw [List.size_toArray]; omega) (by omega)) ⟨e, e2, ?_⟩
  refine ⟨.non, _, I.lset (its' := its ++ its2) hH e (by simp) (r.append r2) ?_, rfl, q⟩
  rw [List.length_append]
  omega
noncomputable def rPop : V → List V → Hp → VK → Prop := fun x vs H Q => ∃ l xs y, x = .ref l ∧ vs = [] ∧ H l = some (.lst xs) ∧ xs[xs.length - 1]? = some y ∧ Q y (upd H l (.lst xs.dropLast))
theorem mt_pop : MtM X "list.pop" rPop := by
  intro pins s σ H x vs v us Q I rx rv h
  obtain ⟨l, xs, y, rfl, rfl, hH, hy, q⟩ := h
  cases rx
  have hus := rv.zero
  subst hus
  obtain ⟨z, its, n, r, hl, e⟩ := I.lstM hH
  obtain ⟨u, hu, ru⟩ := r.get hy
  have hy' : its.toArray[its.toArray.size - 1]? = some u := by
    show its.toArray[its.length - 1]? = some u
    rw [← Array.getElem?_toList, ← hl]
    exact hu
  refine call_meets F.slot_list_pop ⟨_, e, rfl⟩ F.entry_list_pop (F.args_list_pop_1 _) (MeetsSeq.list_pop_last l its.toArray n u hy' (by rw [List.size_toArray]; omega)) ⟨e, ?_⟩
  refine ⟨y, _, I.lset (its' := its.dropLast) hH e ?_ r.dropLast ?_, ru, q⟩
  · show its.toArray.eraseIdxIfInBounds (its.toArray.size - 1) = its.dropLast.toArray
    rw [List.size_toArray, List.eraseIdxIfInBounds_toArray, erase_last]
  · rw [List.length_dropLast]
    omega
noncomputable def rCat : R2 := fun x y H Q => ∃ l b xs zs, x = .ref l ∧ y = .ref b ∧ H l = some (.lst xs) ∧ H b = some (.lst zs) ∧ xs.length + zs.length ≤ sizeLine ∧ ∀ p, H p = none → Q (.ref p) (upd H p (.lst (xs ++ zs)))
theorem op_cat : OpR X (binaryOp .Add) rCat := by
  intro pins s σ H x y v u Q I rx ry h
  obtain ⟨l, b, xs, zs, rfl, rfl, hH, hB, hz, q⟩ := h
  cases rx
  cases ry
  obtain ⟨z, its, n, r, hl, e⟩ := I.lstM hH
  obtain ⟨z2, its2, n2, r2, hl2, e2⟩ := I.lstM hB
  refine PySem.P.add_list e e2 ?_ (by rw [List.size_toArray, List.size_toArray]; omega)
  have ea : its.toArray ++ its2.toArray = (its ++ its2).toArray := by simp
  rw [ea]
  exact ⟨.ref _, _, I.lnew (t' := s.toks) (r.append r2) (by rw [List.length_append]; omega), rfl, q _ I.fresh⟩
end
section
variable {prog : Program} {w : World} {A : Around} {E : Value → Shared → Prop} {s : Shared}
set_option maxRecDepth 100000 in
end
section
variable {X : Cx}
end
end L2
namespace L2
open PySem PySem.Spec PyProof.Rows
section
variable {κ : Type} [DecidableEq κ]
end
section
variable {P : Program} {w : World} {H : Hp} {h : Heap} {a : Addr}
end
section
variable {X : Cx} {pins : List (Addr × Obj)} {σ : St} {H : Hp} {s : Shared} {a : Addr} {y v : V} {u r : Value} {o : Option V} {A : Around} {E : Value → Shared → Prop}
end
section
variable {X : Cx} {pins : List (Addr × Obj)} {σ : St} {H : Hp} {s : Shared} {a : Addr} {kvs : List (Key × V)} {k : Key} {u : Value} {A : Around} {E : Value → Shared → Prop}
end
section
variable {X : Cx} {o i e value : Expr} {pos pos' tpos : Pos} {td ty tv : TE}
end
section
variable {X : Cx} {pos : Pos}
end
structure M1 (X : Cx) (o : Expr) (m : Str) (apos : Pos) (e : Expr) (cpos : Pos) : Prop where
  base : attributeBase o m X.env (eval o X.env) = eval o X.env
  few : ((backTo cpos (starEach [e] X.env)).all (fun x => !x.1) && (backToKw cpos (keywordEach [] X.env)).all (fun x => x.1.isSome)
    && decide (([e] : List Expr).length + ([] : List Keyword).length + (if ([] : List Keyword).isEmpty then 0 else 1) < 30)) = true
  line : (apos.endLine == cpos.line) = true
  trees : backTo cpos (starEach [e] X.env) = [(false, eval e X.env)]
structure M2 (X : Cx) (o : Expr) (m : Str) (apos : Pos) (e f : Expr) (cpos : Pos) : Prop where
  base : attributeBase o m X.env (eval o X.env) = eval o X.env
  few : ((backTo cpos (starEach [e, f] X.env)).all (fun x => !x.1) && (backToKw cpos (keywordEach [] X.env)).all (fun x => x.1.isSome)
    && decide (([e, f] : List Expr).length + ([] : List Keyword).length + (if ([] : List Keyword).isEmpty then 0 else 1) < 30)) = true
  line : (apos.endLine == cpos.line) = true
  trees : backTo cpos (starEach [e, f] X.env) = [(false, eval e X.env), (false, eval f X.env)]
section
variable {X : Cx} {pins : List (Addr × Obj)} {σ : St} {H : Hp} {s : Shared} {a : Addr} {y d : V} {u r : Value} {o : Option V} {A : Around} {E : Value → Shared → Prop}
end
section
variable {X : Cx} {o e f : Expr} {apos cpos : Pos} {td ty tx : TE}
end
section
variable {X : Cx} {pins : List (Addr × Obj)} {σ : St} {H : Hp} {s : Shared} {a : Addr} {kvs : List (Key × V)} {A : Around} {E : Value → Shared → Prop}
end
section
variable {X : Cx} {pins : List (Addr × Obj)} {σ : St} {H : Hp} {s : Shared} {a : Addr} {y : V} {u : Value} {A : Around} {E : Value → Shared → Prop}
end
end L2
namespace Att
open PySem PySem.W PySem.Calls PyProof.Rows
theorem ints_of_wellAll {P : Params} {h : Heap} : ∀ (ns : List Int) (vs : List Value), WellAll P h vs (ns.map WData.int) → IntsAre vs ns := by
  intro ns
  induction ns with
  | nil =>
    intro vs w
    rw [List.map_nil] at w
    cases w
    exact .nil
  | cons n ns ih =>
    intro vs w
    rw [List.map_cons] at w
    cases w with
    | cons a b =>
      cases a
      exact .cons _ _ (ih _ b)
theorem script_of {l : OpenLaw} {n : Nat} (hn : l.most = some n) {P : Params} {h : Heap} {args : List WData} {vals : List Value}
    (hpre : l.row.toRowW.claim.pre args = true) (hwl : WellAll P h vals args) :
    ∃ a vs ns, vals = [Value.ref a] ∧ args = [WData.list (ns.map WData.int)] ∧ h.get? a = some { cls := .type "list", data := .seq vs.toArray } ∧ IntsAre vs ns ∧ ns.length ≤ n := by
  have hsh : WShape.hasAll [] args [.list .int] = true := (pre_splitW hpre).1
  have hc : l.pre.holds [] { args := args } = true := (pre_splitW hpre).2
  obtain ⟨d, r, rfl, h1, h2⟩ := hasAllW_cons hsh
  obtain rfl := hasAllW_nil h2
  obtain ⟨xs, rfl, h3⟩ := hasW_list h1
  obtain ⟨ns, rfl⟩ := items_int h3
  have hlen : ns.length ≤ n := by
    unfold OpenLaw.pre at hc
    have h4 : (WTm.not (.lt (.lit (.int (n : Int))) (.len (.arg 0)))).holds [] { args := [.list (ns.map .int)] } = true := by
      have h4 := (holds_andW hc).1
      rw [hn] at h4
      exact h4
    have h5 := condW_of h4 (w_not (w_lt w_lit (w_len_list (w_arg rfl))))
    rw [List.length_map] at h5
    refine Nat.le_of_not_lt fun q => ?_
    have q' : (n : Int) < ((ns.length : Nat) : Int) := by omega
    first
      | (rw [decide_eq_true q'] at h5; exact absurd h5 (by decide))
      | (simp at h5; omega)
  cases hwl with
  | cons w1 w2 =>
    cases w2
    cases w1 with
    | list ho hall => exact ⟨_, _, ns, rfl, rfl, ho, ints_of_wellAll ns _ hall, hlen⟩
theorem post_true (l : OpenLaw) (args : List WData) : l.row.toRowW.claim.post args (.bool true) args = true :=
  postW_of (r := l.row.toRowW) (X := (true == true))
    (show WShape.has [] (.bool true) .bool = true by first | rfl | decide | simp [WShape.has, WShape.arms, WShape.armsAll])
    (show (WTm.eq .res (.lit (.bool true))).value [] { args := args, res := some (.bool true), after := args } = some (.bool (true == true)) from w_eq_bool (w_res rfl) w_lit) rfl
theorem attach_call {l : OpenLaw} {n : Nat} {q : Program} {loose : List Str} {XP : (Str → Option Value) → Heap → Prop} {YP : World → Heap → Prop} {d : DefRec}
    (hn : l.most = some n) (hdf : d.params.defaults = [])
    (call : ∀ (w : World) (s₀ s₁ : Shared) (mg mb : Str → Option Value) (fa : Addr) (o : Obj) (pm cd doc : Value) (a : Addr) (vs : List Value) (ns : List Int),
      Ground q loose [] XP w s₀ mg mb s₁.heap → YP w s₁.heap →
      s₁.heap.get? fa = some o → o.data = .func (docDef d.name d.params d.body d.scope pm cd doc) → s₁.heap.CodeRec cd d.name → mg d.name = some (.ref fa) →
      s₁.heap.get? a = some { cls := .type "list", data := .seq vs.toArray } → IntsAre vs ns → ns.length ≤ n → s₁.gens = #[] →
      codeAny (model l.prog w) callerA (.call (.ref fa) ⟨[.ref a], []⟩) (fun r s' => r = .ok (.ret (.bool true)) ∧ OldK s₁.heap s'.heap ∧ s'.os = s₁.os ∧ AllBare s'.gens) s₁) :
    WalkO q loose XP YP l.row.toRowW d [] (fun f vs => PySem.call f vs) := by
  intro w s₀ s₁ mg mb G Y fa o pm cd doc dV kV ho hd hcd hD hmg hg args vals as hpre hlay hrd hwl hlo
  obtain rfl : dV = .none := Dflts.none hD hdf
  obtain rfl : kV = .none := Dflts.noKw hD
  obtain ⟨a, vs, ns, rfl, rfl, hobj, hints, hlen⟩ := script_of hn hpre hwl
  refine enter_call (codeAny_mono (call w s₀ s₁ mg mb fa o pm cd doc a vs ns G Y ho (fd_plain hd) hcd hmg hobj hints hlen hg) fun r s' hq => ?_)
  obtain ⟨rfl, h2, h3, h4⟩ := hq
  exact ⟨.inl ⟨.bool true, .bool true, [], rfl, fun _ => rfl, .bool true, post_true l _, fun _ => ⟨List.Pairwise.nil, fun _ hm => (nomatch hm)⟩⟩, h2, h3, h4⟩
section
variable {prog : Program} {w : World} {A : Around} {E : Value → Shared → Prop} {s : Shared} {K : Frag}
end
end Att
namespace L2
open PySem PySem.Spec PyProof.Rows
theorem vals_ints : ∀ {vs : List Value} {ns : List Int}, IntsAre vs ns → Vals (ns.map V.int) vs
  | _, _, .nil => .nil
  | _, _, .cons n t h => .cons ⟨t, rfl⟩ (vals_ints h)
end L2
namespace L2
open PySem PySem.Spec PyProof.Rows
end L2
namespace L2
open PySem PySem.Spec PyProof.Rows
noncomputable def inClass (s : Stmt) (j : Nat) : Stmt := match s with
  | .ClassDef _ _ _ body _ _ _ _ _ _ _ => body.getD j (.Pass ⟨0, 0, 0, 0⟩)
  | _ => .Pass ⟨0, 0, 0, 0⟩
noncomputable def defArgs (s : Stmt) : Arguments := match s with
  | .FunctionDef _ a _ _ _ _ _ _ _ _ => a
  | _ => { posonlyargs := [], args := [], vararg := none, kwonlyargs := [], kw_defaults := [], kwarg := none, defaults := [] }
noncomputable def defBody (s : Stmt) : List Stmt := match s with
  | .FunctionDef _ _ b _ _ _ _ _ _ _ => b
  | _ => []
noncomputable def defScope (s : Stmt) : Scope := match s with
  | .FunctionDef _ _ _ _ _ _ sc _ _ _ => sc
  | _ => { kind := .function, names := [], isGenerator := false, isCoroutine := false }
noncomputable abbrev CX0 : CXT := fun _ _ _ _ _ _ => False
noncomputable abbrev E0 : XK := fun _ _ _ => False
theorem pass0 {X : Cx} : Passes CX0 X E0 := fun _ _ _ _ _ _ _ h => h.elim
structure Fun (K : PySem.W.Frag) (x qual : Str) (st : Stmt) (f : Addr) (fd : FuncData) : Prop where
  ex : ∃ (oc : Value) (od : Option Addr) (kV doc pm : Value) (an : Option Addr) (cdv ct : Value) (osl : Array (Option Value)),
    fd = PySem.W.fnOf x qual (defArgs st) (defBody st) (defScope st) .none kV doc pm an cdv ct ∧ K.lookup f = some ⟨oc, od, .func fd, osl⟩ ∧ PySem.W.codeIn K cdv qual = true
  kp : PySem.W.keepIn K (.ref f) = true
section
variable {P : Program} {w : World} {K : PySem.W.Frag} {mg : Str → Option Value} {base : Heap}
theorem Fun.ok {x qual : Str} {st : Stmt} {f : Addr} {fd : FuncData} {N ps : List Str} {k : Nat} {sp : Sp} (F : Fun K x qual st f fd) (S : FnScope N ps (defScope st)) (len : ∀ vs H Q E, sp vs H Q E → vs.length = ps.length)
    (hbody : ∀ (cdv : Value) (A : Around) (outer : List Env) (s : Shared) (H : Hp) (vs : List V) (Q : VK) (E : XK), Room k (A.deeper (envOfC qual (defScope st) s.heap.objs.size f cdv)) → sp vs H Q E →
      ∃ t, PSs (cxOf CX0 P w K mg base N qual (defScope st) f cdv A outer s H E).nox (defBody st) t ∧ t { nx := fun _ H' => Q .non H', rt := Q } (start N vs) H) : FnOk P w K mg base CX0 (k + 1) f fd ps sp := by
  obtain ⟨oc, od, kV, doc, pm, an, cdv, ct, osl, rfl, lk, hcd⟩ := F.ex
  refine fn_of lk hcd S len fun A outer s H vs Q E hr hsp => ?_
  obtain ⟨t, h, q⟩ := hbody cdv A outer s H vs Q E hr hsp
  exact ⟨t, h.nox, q⟩
theorem Fun.binds {x qual : Str} {st : Stmt} {f : Addr} {fd : FuncData} {ps : List Str} (F : Fun K x qual st f fd)
    (h : ∀ (kV doc pm : Value) (an : Option Addr) (cdv ct : Value) (us : List Value), us.length = ps.length → bindArgs (PySem.W.fnOf x qual (defArgs st) (defBody st) (defScope st) .none kV doc pm an cdv ct) ⟨us, []⟩ = pure (ps.zip us)) : Binds K fd ps [] := by
  obtain ⟨oc, od, kV, doc, pm, an, cdv, ct, osl, rfl, lk, hcd⟩ := F.ex
  exact .all (h kV doc pm an cdv ct)
theorem fun_mk {x qual : Str} {st : Stmt} {f : Addr} {oc : Value} {od an : Option Addr} {osl : Array (Option Value)} {kV doc pm cdv ct : Value} (l : K.lookup f = some ⟨oc, od, .func (PySem.W.fnOf x qual (defArgs st) (defBody st) (defScope st) .none kV doc pm an cdv ct), osl⟩)
    (c : PySem.W.codeIn K cdv qual = true) (k : PySem.W.keepIn K (.ref f) = true) : Fun K x qual st f (PySem.W.fnOf x qual (defArgs st) (defBody st) (defScope st) .none kV doc pm an cdv ct) := ⟨⟨oc, od, kV, doc, pm, an, cdv, ct, osl, rfl, l, c⟩, k⟩
end
section
variable {X : Cx}
theorem pv (i : Nat) {x : Str} {pos : Pos} (hN : X.N[i]? = some x := by rfl) (hv : Vis X.env.scope x := by first | exact Or.inl rfl | exact Or.inr (Or.inl rfl) | exact Or.inr (Or.inr rfl)) (hd : (x == ("__debug__" : Str)) = false := by decide)
    (hcd : (x == ("__classdict__" : Str)) = false := by decide) : PE X (.Name x pos) (tVar i) := pe_var hN hv hd hcd
end
theorem iteF {A B : Prop} (h : B) : if false = true then A else B := by
  rw [if_neg Bool.false_ne_true]
  exact h
theorem iteT {A B : Prop} (h : A) : if true = true then A else B := by
  rw [if_pos rfl]
  exact h
theorem ite2 {c A B : Prop} [Decidable c] (h1 : c → A) (h2 : ¬ c → B) : if c then A else B := by
  by_cases h : c
  · rw [if_pos h]
    exact h1 h
  · rw [if_neg h]
    exact h2 h
noncomputable def Same (H H' : Hp) : Prop := ∀ b o, H b = some o → H' b = some o
theorem Same.refl (H : Hp) : Same H H := fun _ _ h => h
theorem Same.trans {H H1 H2 : Hp} (a : Same H H1) (b : Same H1 H2) : Same H H2 := fun c o h => b c o (a c o h)
theorem Same.free {H H' : Hp} (e : Same H H') {l : Addr} (h : H' l = Option.none) : H l = Option.none := by
  cases q : H l with
  | none => rfl
  | some o =>
    rw [e l o q] at h
    cases h
section
variable {κ : Type} [DecidableEq κ]
end
end L2
namespace L2
open PySem PySem.Spec PyProof.Rows
noncomputable def closGo (cells : List (Str × Addr)) : List (Str × NameKind) → List (Str × Addr) → List (Str × Addr)
  | [], cs => cs
  | (n, k) :: r, cs => if (k == NameKind.free) = true then (match cells.lookup n with | some c => closGo cells r ((n, c) :: cs) | none => closGo cells r cs) else closGo cells r cs
theorem clos_eq {scope : Scope} {env : Env} (h : ∀ x ∈ scope.names, x.2 = .free → ∃ c, env.cells.lookup x.1 = some c) : closureFor scope env = pure (closGo env.cells scope.names []) := by
  have go : ∀ (l : List (Str × NameKind)) (cs : List (Str × Addr)), (∀ x ∈ l, x.2 = .free → ∃ c, env.cells.lookup x.1 = some c) →
      (forIn (m := Sem) l cs fun x r => match x with | (name, kind) => if (kind == NameKind.free) = true then do let c ← cellOf env name; pure (ForInStep.yield ((name, c) :: r)) else pure (ForInStep.yield r)) = pure (closGo env.cells l cs) := by
    intro l
    induction l with
    | nil => intro cs _; rfl
    | cons x r ih =>
      intro cs hx
      obtain ⟨n, k⟩ := x
      have hr := fun cs => ih cs fun y hy => hx y (List.mem_cons.mpr (.inr hy))
      rw [List.forIn_cons]
      by_cases e : (k == NameKind.free) = true
      · obtain ⟨c, hc⟩ := hx (n, k) (List.mem_cons.mpr (.inl rfl)) (by simpa using e)
        have hc : env.cells.lookup n = some c := hc
        have e1 : cellOf env n = pure c := by unfold cellOf; rw [hc]
        simp only [e, if_true, closGo, hc, e1, pure_bind]
        exact hr _
      · have e' : (k == NameKind.free) = false := by simpa using e
        simp only [e', closGo, Bool.false_eq_true, if_false, pure_bind]
        exact hr _
  have q := go scope.names [] h
  unfold closureFor
  first
    | (simp only [bind_pure] ; exact q)
    | (rw [show (forIn (m := Sem) scope.names ([] : List (Str × Addr)) _) = _ from q]; rfl)
    | (simp only []; exact q)
theorem closGo_from {cells : List (Str × Addr)} : ∀ {l : List (Str × NameKind)} {cs : List (Str × Addr)}, (∀ p ∈ cs, cells.lookup p.1 = some p.2) → ∀ p ∈ closGo cells l cs, cells.lookup p.1 = some p.2
  | [], cs, h, p, hp => h p hp
  | (n, k) :: r, cs, h, p, hp => by
    unfold closGo at hp
    split at hp
    · split at hp
      · rename_i c hc
        refine closGo_from (l := r) (cs := (n, c) :: cs) (fun q hq => ?_) p hp
        rcases List.mem_cons.mp hq with rfl | hq
        · exact hc
        · exact h q hq
      · exact closGo_from (l := r) h p hp
    · exact closGo_from (l := r) h p hp
theorem closGo_sub {cells : List (Str × Addr)} : ∀ {l : List (Str × NameKind)} {cs : List (Str × Addr)}, ∀ p ∈ cs, p ∈ closGo cells l cs
  | [], cs, p, hp => hp
  | (n, k) :: r, cs, p, hp => by
    unfold closGo
    split
    · split
      · exact closGo_sub (l := r) p (List.mem_cons.mpr (.inr hp))
      · exact closGo_sub (l := r) p hp
    · exact closGo_sub (l := r) p hp
theorem closGo_in {cells : List (Str × Addr)} {x : Str} {c : Addr} (hc : cells.lookup x = some c) : ∀ {l : List (Str × NameKind)} {cs : List (Str × Addr)}, (x, NameKind.free) ∈ l → (x, c) ∈ closGo cells l cs
  | [], cs, m => nomatch m
  | (n, k) :: r, cs, m => by
    unfold closGo
    rcases List.mem_cons.mp m with e | m
    · injection e with e1 e2
      subst e1; subst e2
      rw [if_pos (by rfl)]
      simp only [hc]
      exact closGo_sub (l := r) _ (List.mem_cons.mpr (.inl rfl))
    · split
      · split
        · exact closGo_in hc (l := r) m
        · exact closGo_in hc (l := r) m
      · exact closGo_in hc (l := r) m
theorem lookup_has {α : Type} {x : Str} {c : α} : ∀ {l : List (Str × α)}, (x, c) ∈ l → ∃ d, l.lookup x = some d
  | [], m => nomatch m
  | (n, d) :: r, m => by
    rw [List.lookup_cons]
    cases e : x == n with
    | true => exact ⟨d, rfl⟩
    | false =>
      rcases List.mem_cons.mp m with z | z
      · injection z with z1 z2
        subst z1
        simp at e
      · exact lookup_has z
theorem closGo_lookup {cells : List (Str × Addr)} {l : List (Str × NameKind)} {x : Str} {c : Addr} (h : (closGo cells l []).lookup x = some c) : cells.lookup x = some c :=
  closGo_from (cells := cells) (l := l) (cs := []) (fun _ m => nomatch m) (x, c) (PySem.mem_of_lookup h)
theorem closGo_has {cells : List (Str × Addr)} {l : List (Str × NameKind)} {x : Str} {c : Addr} (hc : cells.lookup x = some c) (m : (x, NameKind.free) ∈ l) : (closGo cells l []).lookup x = some c := by
  obtain ⟨d, e⟩ := lookup_has (closGo_in hc (cs := []) m)
  have q := closGo_lookup e
  rw [hc] at q
  cases q
  exact e
theorem relabel_lookup {scope : Scope} {env : Env} {x : Str} {k : NameKind} (h : (relabel scope env).names.lookup x = some k) : ∃ k', scope.names.lookup x = some k' ∧ (k = k' ∨ (k' = .free ∧ k = .cell)) := by
  have go : ∀ (l : List (Str × NameKind)), (l.map fun (n, k) => if (k == NameKind.free && env.scope.kind == .function && env.kindOf n == some .cell) then (n, NameKind.cell) else (n, k)).lookup x = some k → ∃ k', l.lookup x = some k' ∧ (k = k' ∨ (k' = .free ∧ k = .cell)) := by
    intro l
    induction l with
    | nil => intro h; cases h
    | cons p r ih =>
      obtain ⟨n, k0⟩ := p
      intro h
      have h : List.lookup x ((if (k0 == NameKind.free && env.scope.kind == .function && env.kindOf n == some .cell) = true then (n, NameKind.cell) else (n, k0)) :: (r.map fun (n, k) => if (k == NameKind.free && env.scope.kind == .function && env.kindOf n == some .cell) then (n, NameKind.cell) else (n, k))) = some k := h
      rw [List.lookup_cons]
      cases hx : x == n with
      | true =>
        refine ⟨k0, rfl, ?_⟩
        by_cases hc : (k0 == NameKind.free && env.scope.kind == .function && env.kindOf n == some .cell) = true
        · rw [if_pos hc, List.lookup_cons, hx] at h
          cases h
          have : (k0 == NameKind.free) = true := by
            rw [Bool.and_assoc, Bool.and_eq_true] at hc
            exact hc.1
          exact .inr ⟨by simpa using this, rfl⟩
        · rw [if_neg hc, List.lookup_cons, hx] at h
          cases h
          exact .inl rfl
      | false =>
        refine ih ?_
        by_cases hc : (k0 == NameKind.free && env.scope.kind == .function && env.kindOf n == some .cell) = true
        · rw [if_pos hc, List.lookup_cons, hx] at h
          exact h
        · rw [if_neg hc, List.lookup_cons, hx] at h
          exact h
  exact go _ h
theorem relabel_free {scope : Scope} {env : Env} {x : Str} (h : scope.names.lookup x = some .free) : (relabel scope env).names.lookup x = some .cell ∨ (relabel scope env).names.lookup x = some .free := by
  have go : ∀ (l : List (Str × NameKind)), l.lookup x = some .free → (l.map fun (n, k) => if (k == NameKind.free && env.scope.kind == .function && env.kindOf n == some .cell) then (n, NameKind.cell) else (n, k)).lookup x = some .cell ∨
      (l.map fun (n, k) => if (k == NameKind.free && env.scope.kind == .function && env.kindOf n == some .cell) then (n, NameKind.cell) else (n, k)).lookup x = some .free := by
    intro l
    induction l with
    | nil => intro h; cases h
    | cons p r ih =>
      obtain ⟨n, k0⟩ := p
      intro h
      show List.lookup x ((if (k0 == NameKind.free && env.scope.kind == .function && env.kindOf n == some .cell) = true then (n, NameKind.cell) else (n, k0)) :: _) = _ ∨ List.lookup x ((if (k0 == NameKind.free && env.scope.kind == .function && env.kindOf n == some .cell) = true then (n, NameKind.cell) else (n, k0)) :: _) = _
      rw [List.lookup_cons] at h
      cases hx : x == n with
      | true =>
        rw [hx] at h
        cases h
        by_cases hc : (NameKind.free == NameKind.free && env.scope.kind == .function && env.kindOf n == some .cell) = true
        · rw [if_pos hc]; exact .inl (by rw [List.lookup_cons, hx])
        · rw [if_neg hc]; exact .inr (by rw [List.lookup_cons, hx])
      | false =>
        rw [hx] at h
        by_cases hc : (k0 == NameKind.free && env.scope.kind == .function && env.kindOf n == some .cell) = true
        · rw [if_pos hc]; simp only [List.lookup_cons, hx]; exact ih h
        · rw [if_neg hc]; simp only [List.lookup_cons, hx]; exact ih h
  exact go _ h
noncomputable def capN (N : List Str) (ts : List Str) (cs : List Nat) : List Str := ts ++ cs.map fun i => N.getD i ""
noncomputable def capS (σ : St) (ts : List Str) (cs : List Nat) : St := (ts.map fun _ => none) ++ cs.map fun i => σ.getD i none
noncomputable def compOk (os : Scope) (N : List Str) (scope : Scope) (ts : List Str) (cs : List Nat) : Bool :=
  (scope.kind == .function) && (scope.names.all fun y => y.2 != .cell) && (ts.all fun x => scope.names.lookup x == some .local) &&
  (scope.names.all fun y => y.2 != .local || scope.names.lookup y.1 == some .local) &&
  (scope.names.all fun y => y.2 != .free || (os.names.lookup y.1 == some .cell || os.names.lookup y.1 == some .free)) &&
  (cs.all fun i => decide (i < N.length) && scope.names.lookup (N.getD i "") == some .free) && decide (capN N ts cs).Nodup
noncomputable def cxComp (X : Cx) (scope : Scope) (ts : List Str) (cs : List Nat) (C : Addr) (fp : List Addr) (pins : List (Addr × Obj)) (s : Shared) (H : Hp) : Cx where
  prog := X.prog
  w := X.w
  K := X.K
  mg := X.mg
  base := X.base
  A := X.A
  N := capN X.N ts cs
  s₀ := s
  H₀ := H
  env := compEnvC scope (closGo X.env.cells scope.names []) C X.env
  outer := X.stack
  stack := X.stack
  ex := fp
  fn := fun _ => false
  calm := X.calm
  pn := X.pn ++ pins
  xe := fun _ _ => False
structure CompOk (X : Cx) (scope : Scope) (ts : List Str) (cs : List Nat) : Prop where
  kind : scope.kind = .function
  nocell : ∀ y ∈ scope.names, y.2 ≠ .cell
  tgt : ∀ x ∈ ts, scope.names.lookup x = some .local
  locs : ∀ y ∈ scope.names, y.2 = .local → scope.names.lookup y.1 = some .local
  fre : ∀ y ∈ scope.names, y.2 = .free → X.env.kindOf y.1 = some .cell ∨ X.env.kindOf y.1 = some .free
  cap : ∀ i ∈ cs, ∃ y, X.N[i]? = some y ∧ X.N.getD i "" = y ∧ scope.names.lookup y = some .free
  nd : (capN X.N ts cs).Nodup
theorem CompOk.of {X : Cx} {os : Scope} {N : List Str} {scope : Scope} {ts : List Str} {cs : List Nat} (h : compOk os N scope ts cs = true) (ho : X.env.scope = os) (hN : X.N = N) : CompOk X scope ts cs := by
  subst ho hN
  unfold compOk at h
  simp only [Bool.and_eq_true, beq_iff_eq, List.all_eq_true, Bool.or_eq_true, bne_iff_ne, ne_eq, decide_eq_true_eq] at h
  obtain ⟨⟨⟨⟨⟨⟨h1, h2⟩, h3⟩, h4⟩, h5⟩, h6⟩, h7⟩ := h
  refine ⟨h1, h2, h3, fun y hy hl => (h4 y hy).resolve_left fun z => z hl, fun y hy hl => (h5 y hy).resolve_left fun z => z hl, fun i hi => ?_, h7⟩
  obtain ⟨a, b⟩ := h6 i hi
  refine ⟨X.N[i], List.getElem?_eq_getElem a, ?_, ?_⟩
  · rw [List.getD_eq_getElem?_getD, List.getElem?_eq_getElem a]; rfl
  · rw [List.getD_eq_getElem?_getD, List.getElem?_eq_getElem a] at b; exact b
section
variable {X : Cx} {pins : List (Addr × Obj)} {σ : St} {H : Hp} {s s1 : Shared} {scope : Scope} {ts : List Str} {cs : List Nat} {C : Addr} {fp : List Addr}
theorem CompOk.clos (O : CompOk X scope ts cs) (I : Inv X pins σ H s) : closureFor scope X.env = pure (closGo X.env.cells scope.names []) := clos_eq fun x hx hf => I.ok.has _ (O.fre x hx hf)
theorem comp_ok (O : CompOk X scope ts cs) (I : Inv X pins σ H s) (hC : s.heap.objs.size ≤ C) (hf : ∀ b ∈ fp, FpOk X pins H b) (hl : ∀ b ∈ fp, b < s.heap.objs.size) : (cxComp X scope ts cs C fp pins s H).Ok where
  mod := I.ok.mod
  kind := O.kind
  glob := I.ok.glob
  blt := I.ok.blt
  above := hC
  inj := fun x y c h1 h2 => I.ok.inj x y c (closGo_lookup h1) (closGo_lookup h2)
  has := fun x hx => by
    have : ∃ k, (relabel scope X.env).names.lookup x = some k ∧ (k = .cell ∨ k = .free) := hx.elim (fun h => ⟨_, h, .inl rfl⟩) fun h => ⟨_, h, .inr rfl⟩
    obtain ⟨k, h, hk⟩ := this
    obtain ⟨k', h', e⟩ := relabel_lookup h
    have m := PySem.mem_of_lookup h'
    have e' : k' = .free := by
      rcases e with e | e
      · subst e
        rcases hk with z | z
        · exact absurd z (O.nocell _ m)
        · exact z
      · exact e.1
    subst e'
    obtain ⟨c, hc⟩ := I.ok.has x (O.fre _ m rfl)
    exact ⟨c, closGo_has hc m⟩
  cab := fun _ _ h => nomatch h
  hd := I.ok.hd
  frames := I.ok.frames
  stk := .inl rfl
  exf := fun b hb => by
    obtain ⟨_, _, _, _, f4, _⟩ := hf b hb
    exact ⟨Nat.ne_of_lt (Nat.lt_of_lt_of_le (hl b hb) hC), fun x c h => f4 x c (closGo_lookup h)⟩
  bs := I.bs
  bsz := Nat.le_trans I.ok.bsz I.sz
  noex := fun b o e hb => by
    obtain ⟨_, _, _, f3, _⟩ := hf b hb
    rcases f3 with z | z
    · exact I.ok.noex b o e z
    · exact absurd (Nat.lt_of_lt_of_le (Heap.lt_size e) (Nat.le_trans I.ok.bsz z)) (Nat.lt_irrefl _)
  exfs := fun b hb z => by
    obtain ⟨_, f1, f2, _⟩ := hf b hb
    rcases List.mem_cons.mp (I.stkSub b z) with e | e
    · exact f1 e
    · exact f2 e
  funs := I.stack
  frf := I.stkFree
theorem comp_start {h1 : Heap} {tk : Nat} {m0 : Str → Option Value} (O : CompOk X scope ts cs) (I : Inv X pins σ H s) (hC : s.heap.objs.size ≤ C) (hf : ∀ b ∈ fp, FpOk X pins H b) (hl : ∀ b ∈ fp, b < s.heap.objs.size)
    (hn : h1.Ns C m0) (old : ∀ b o, s.heap.get? b = some o → h1.get? b = some o) :
    Inv (cxComp X scope ts cs C fp pins s H) [] (capS σ ts cs) H { s with heap := h1, toks := tk } := by
  refine ⟨comp_ok O I hC hf hl, rfl, I.bare, Un.kept old, ⟨m0, hn, fun i x v e1 e2 e3 => ?_⟩, fun x c h => ?_, I.hok.fresh hC, fun x c h => I.freeC x c (closGo_lookup h), fun p hp => ?_, I.hok.kept old, ?_⟩
  · have e1 : (capN X.N ts cs)[i]? = some x := e1
    have e2 : (capS σ ts cs)[i]? = some (some v) := e2
    unfold capN at e1
    unfold capS at e2
    by_cases hi : i < ts.length
    · rw [List.getElem?_append_left (by simpa using hi), List.getElem?_map] at e2
      cases q : ts[i]? with
      | none => rw [q] at e2; cases e2
      | some t => rw [q] at e2; cases e2
    · rw [List.getElem?_append_right (by simpa using hi)] at e1 e2
      rw [List.length_map, List.getElem?_map] at e2
      rw [List.getElem?_map] at e1
      cases q : cs[i - ts.length]? with
      | none => rw [q] at e2; cases e2
      | some j =>
        rw [q] at e1 e2
        have e1 : some (X.N.getD j "") = some x := e1
        have e2 : some (σ.getD j none) = some (some v) := e2
        have e1 := Option.some.inj e1
        have e2 := Option.some.inj e2
        obtain ⟨y, ey, ed, ef⟩ := O.cap j (List.mem_of_getElem? q)
        rw [e1] at ed
        subst ed
        have em := PySem.mem_of_lookup ef
        have kf := O.fre _ em rfl
        obtain ⟨m, hm, hl'⟩ := I.loc
        have es : σ[j]? = some (some v) := by
          rw [List.getD_eq_getElem?_getD] at e2
          cases z : σ[j]? with
          | none => rw [z] at e2; cases e2
          | some w => rw [z] at e2; have e2 : w = some v := e2; rw [e2]
        obtain ⟨u, r, lk⟩ := hl' j x v ey es (kf.elim (fun k => .inr (.inl k)) fun k => .inr (.inr k))
        refine ⟨u, r, ?_⟩
        rcases lk with ⟨k, _⟩ | ⟨_, c, hc, ic⟩
        · exfalso
          rcases kf with z | z <;> (rw [k] at z; cases z)
        · refine .inr ⟨relabel_free ef, c, closGo_has hc em, ?_⟩
          obtain ⟨o, ho, hd⟩ := ic
          exact ⟨o, old c o ho, hd⟩
  · obtain ⟨v, o, ho, hd⟩ := I.cell x c (closGo_lookup h)
    exact ⟨v, o, old c o ho, hd⟩
  · have hp : p ∈ X.pn ++ pins := by
      have hp : p ∈ (X.pn ++ pins) ++ [] := hp
      simpa using hp
    obtain ⟨e, n, ne, nf, d⟩ := I.pin p hp
    refine ⟨old _ _ e, n, Nat.ne_of_lt (Nat.lt_of_lt_of_le (Heap.lt_size e) hC), fun z => ?_, d⟩
    rcases List.mem_cons.mp (I.stkSub _ z) with q | q
    · exact ne q
    · exact nf q
  · show (capS σ ts cs).length = (capN X.N ts cs).length
    simp [capS, capN]
theorem comp_end {σc : St} {Hc : Hp} {H0 : Hp} (I : Inv X pins σ H0 s) (hf : ∀ b ∈ fp, FpOk X pins H0 b) (J : Inv (cxComp X scope ts cs C fp pins s H0) [] σc Hc s1) : Inv X pins σ Hc s1 := by
  refine I.call' (ch := fp) J.os J.base J.hok J.bare fun b hb => ?_
  obtain ⟨_, f1, f2, f3, f4, f5⟩ := hf b hb
  exact ⟨f3, f1, f4, f5⟩
end
noncomputable def testsOf (ifs : List Expr) (v : Env) : Sem Bool :=
  forIn ifs true fun c r => if r = true then
      (do let ok ← isTrue c v (eval c v)
          pure (ForInStep.yield ok))
    else pure (ForInStep.yield r)
noncomputable def TurnOf (P : Program) (w : World) (A : Around) (v : Env) (tg elt : Expr) (ifs : List Expr) (it acc : Value) (R : Result → Shared → Prop) (J : Nat → Shared → Prop) (n : Nat) (s : Shared) : Prop :=
  let E := notedBy (model P w) A v fun e s' => R (.error e) s'
  wpAny (model P w) A (pyNext it) (fun r s1 => match r with
    | none => R (.ok .next) s1
    | some u => wpAny (model P w) A (letOwnedTupleGo tg it u) (fun _ s2 =>
        wpAny (model P w) A (assign tg v u) (fun _ s3 =>
          wpAny (model P w) A (testsOf ifs v) (fun ok s4 => if ok = true
            then wpAny (model P w) A (eval elt v) (fun x s5 =>
              wpAny (model P w) A (call (.builtin "list.append") [acc, x]) (fun _ s6 => ∃ m, m < n ∧ J m s6) E s5) E s4
            else ∃ m, m < n ∧ J m s4) E s3) E s2) E s1) E s
theorem compLoop_gen {P : Program} {w : World} {A : Around} {R : Result → Shared → Prop} {s : Shared} {elt tg iter : Expr} {ifs : List Expr} {scope : Scope} {pos : Pos} {it acc : Value} {v : Env} (J : Nat → Shared → Prop)
    (turn : ∀ n s, J n s → TurnOf P w A v tg elt ifs it acc R J n s) (n : Nat) (h : J n s) : codeAny (model P w) A (.compLoop (.ListComp elt [⟨tg, iter, ifs, 0⟩] scope pos) 0 it acc v) R s := by
  refine codeAny_loop rfl J (fun n s hJ => ?_) n h
  show wpAny _ A ((compTurn (.ListComp elt [⟨tg, iter, ifs, 0⟩] scope pos) 0 it acc v).onRaise
    (fun x => do noteFrame x v; theTreesLotGoes x)) _ _ s
  refine wpAny_noted ?_
  rw [compTurn_list]
  refine wpAny_bind (wpAny_standAt (wpAny_bind (thn (turn n s hJ) fun r s1 h1 => ?_)))
  cases r with
  | none => exact wpAny_pure h1
  | some u =>
    refine wpAny_bind (thn h1 fun _ s2 h2 => wpAny_bind (thn h2 fun _ s3 h3 => wpAny_bind (thn h3 fun ok s4 h4 => ?_)))
    cases ok with
    | false => exact wpAny_pure ⟨rfl, h4⟩
    | true => exact wpAny_bind (wpAny_bind (thn h4 fun x s5 h5 => wpAny_bind (thn h5 fun _ s6 h6 => wpAny_pure (wpAny_pure ⟨rfl, h6⟩))))
noncomputable def PIfs (X : Cx) (ifs : List Expr) (t : TT) : Prop :=
  ∀ (pins : List (Addr × Obj)) (s : Shared) (σ : St) (H : Hp) (Q : Bool → Hp → Prop), Inv X pins σ H s → t σ H Q →
    wpAny (model X.prog X.w) X.A (testsOf ifs X.env) (TP X pins σ Q) X.xe s
noncomputable def tYes : TT := fun _ H Q => Q true H
theorem pif_nil {X : Cx} : PIfs X [] tYes := fun _ _ _ H _ I h => wpAny_tests_nil ⟨H, I, h⟩
theorem pif_one {X : Cx} {c : Expr} {t : TT} (h : PT X c t) : PIfs X [c] t := fun pins s σ H Q I hw => wpAny_tests_one (h pins s σ H Q I hw)
noncomputable def cBody (J : It) (D : Addr) (g : TG) (tc : TT) (te : TE) (σ0 : St) (H1 : Hp) (Q : VK) : Prop :=
  ∃ W : Nat → Nat → List V → St → Hp → Prop, (∃ m, W 0 m [] σ0 H1) ∧ ∀ i m ys σc H2, W i m ys σc H2 → H2 D = some (.lst ys) ∧
    ((J.stop i H2 ∧ Q (.ref D) H2) ∨ (J.go i H2 ∧ ∃ N : List V → St → Hp → Prop, (∀ ys' σ' H', N ys' σ' H' → ∃ m', m' < m ∧ W (i + 1) m' ys' σ' H') ∧ ∀ x H3, J.yld i H2 x H3 → g x σc H3 fun σ4 H4 => tc σ4 H4 fun b H5 =>
      if b = true then te σ4 H5 fun y H6 => H6 D = some (.lst ys) ∧ ys.length < sizeLine ∧ N (ys ++ [y]) σ4 (upd H6 D (.lst (ys ++ [y]))) else N ys σ4 H5))
noncomputable def tComp (wi : TI) (ts : List Str) (cs : List Nat) (g : TG) (tc : TT) (te : TE) : TE := fun σ H Q =>
  wi σ H fun J H1 => ∀ D, H1 D = none → cBody J D g tc te (capS σ ts cs) (upd H1 D (.lst [])) Q
section
variable {X : Cx} {os scope : Scope} {N ts : List Str} {cs : List Nat} {tg elt iter : Expr} {ifs : List Expr} {pos : Pos} {wi : TI} {g : TG} {tc : TT} {te : TE}
noncomputable def InComp (X : Cx) (scope : Scope) (ts : List Str) (cs : List Nat) (P : Cx → Prop) : Prop := ∀ (C : Addr) (fp : List Addr) (pins : List (Addr × Obj)) (s : Shared) (H : Hp), P (cxComp X scope ts cs C fp pins s H)
theorem comp_block {pins : List (Addr × Obj)} {σ : St} {H : Hp} {s : Shared} {E : Value → Shared → Prop} {it : Addr} {fp : List Addr} {tn : Nat → Heap → Prop} {J : It} {Q : VK} {RR : Value → Addr → Result → Shared → Prop}
    (hc : X.calm = true) (O : CompOk X scope ts cs) (hg : InComp X scope ts cs fun Y => PG Y tg g) (hi : InComp X scope ts cs fun Y => PIfs Y ifs tc) (he : InComp X scope ts cs fun Y => PE Y elt te)
    (I : Inv X pins σ H s) (T : Turn X.prog X.w X.K tg J fp it tn) (st : tn 0 s.heap) (hf : ∀ b ∈ fp, FpOk X pins H b) (hb : ∀ D, H D = none → cBody J D g tc te (capS σ ts cs) (upd H D (.lst [])) Q)
    (hRR : ∀ D C H' s', s.heap.objs.size ≤ C → C ≠ X.env.locals → H' C = none → (∃ m, s'.heap.Ns C m) → FpOk X pins H' C → Inv X pins σ H' s' → Q (.ref D) H' → RR (.ref D) C (.ok .next) s') :
    wpAny (model X.prog X.w) X.A (newList []) (fun acc s₃ => wpAny (model X.prog X.w) X.A (newFunctionEnv scope X.env.globals (closGo X.env.cells scope.names []) [] X.env.qual none .none (some X.env)) (fun cenv s₄ =>
      codeAny (model X.prog X.w) X.A (.compStart (.ListComp elt [⟨tg, iter, ifs, 0⟩] scope pos) 0 (.ref it) acc { cenv with scope := relabel scope X.env }) (RR acc cenv.locals) s₄) E s₃) E s := by
  refine wpAny_newObj_type (wpAny_newFunctionEnv O.nocell (by intro y hy; simp at hy) (fun h₁ hns₁ hsb₁ => ?_) O.kind)
  dsimp only at hns₁ hsb₁ ⊢
  generalize hH2 : s.heap.push { cls := .type "list", dict := none, data := .seq ([] : List Value).toArray } = H2 at hns₁ hsb₁ ⊢
  have hD0 : H s.heap.objs.size = none := I.hok.fresh (Nat.le_refl _)
  obtain ⟨W, ⟨m0, w0⟩, turn⟩ := hb s.heap.objs.size hD0
  have I3 : Inv X pins σ (upd H s.heap.objs.size (.lst [])) { s with heap := H2 } := by
    rw [← hH2]
    exact I.laid (t' := s.toks) (fun b o e => Heap.get?_push_of_some _ e) (Nat.le_refl _) ⟨Nat.zero_le _, [], 0, .nil, Heap.get?_push_size _ rfl⟩
  have hfpo := T.obj 0 _ st
  have hflt : ∀ b ∈ fp, b < s.heap.objs.size := fun b hb => by obtain ⟨o, e, _⟩ := hfpo b hb; exact Heap.lt_size e
  have hsz : H2.objs.size = s.heap.objs.size + 1 := by rw [← hH2, Heap.size_push]
  have hf3 : ∀ b ∈ fp, FpOk X pins (upd H s.heap.objs.size (.lst [])) b := fun b hb => by
    obtain ⟨f0, fr⟩ := hf b hb
    exact ⟨by rw [upd_ne (Nat.ne_of_lt (hflt b hb))]; exact f0, fr⟩
  have old : ∀ b o, H2.get? b = some o → h₁.get? b = some o := fun b o e => hsb₁.extBut b o (Nat.ne_of_lt (Heap.lt_size e)) (Heap.get?_push_of_some _ e)
  have J0 : ∀ tk, Inv (cxComp X scope ts cs H2.objs.size fp pins { s with heap := H2 } (upd H s.heap.objs.size (.lst []))) [] (capS σ ts cs) (upd H s.heap.objs.size (.lst [])) { s with heap := h₁, toks := tk } := fun tk =>
    comp_start (s := { s with heap := H2 }) O I3 (Nat.le_refl _) hf3 (fun b hb => Nat.lt_of_lt_of_le (hflt b hb) (show s.heap.objs.size ≤ H2.objs.size by rw [hsz]; exact Nat.le_succ _)) hns₁ old
  have st1 : tn 0 h₁ := T.keep 0 _ _ st fun b hb o e => old b o (by rw [← hH2]; exact Heap.get?_push_of_some _ e)
  generalize hX : cxComp X scope ts cs H2.objs.size fp pins { s with heap := H2 } (upd H s.heap.objs.size (.lst [])) = Y at J0
  have hgY : PG Y tg g := by rw [← hX]; exact hg _ _ _ _ _
  have hiY : PIfs Y ifs tc := by rw [← hX]; exact hi _ _ _ _ _
  have heY : PE Y elt te := by rw [← hX]; exact he _ _ _ _ _
  have eP : Y.prog = X.prog := by rw [← hX]; rfl
  have eW : Y.w = X.w := by rw [← hX]; rfl
  have eK : Y.K = X.K := by rw [← hX]; rfl
  have eA : Y.A = X.A := by rw [← hX]; rfl
  have eC : Y.calm = true := by rw [← hX]; exact hc
  have eE : Y.env = compEnvC scope (closGo X.env.cells scope.names []) H2.objs.size X.env := by rw [← hX]; rfl
  have eX : Y.xe = fun _ _ => False := by rw [← hX]; rfl
  have stat : ∀ {Hc : Hp}, (∀ b ∈ fp, Hc b = none) → ∀ b ∈ fp, FpOk Y [] Hc b := fun {Hc} hn b hb => by
    obtain ⟨f0, f1, f2, f3, f4, f5⟩ := hf b hb
    have ok := comp_ok (ts := ts) (cs := cs) (C := H2.objs.size) (s := { s with heap := H2 }) O I3 (Nat.le_refl _) hf3 (fun b hb => Nat.lt_of_lt_of_le (hflt b hb) (show s.heap.objs.size ≤ H2.objs.size by rw [hsz]; exact Nat.le_succ _))
    rw [← hX]
    refine ⟨hn b hb, (ok.exf b hb).1, ok.exfs b hb, .inl hb, (ok.exf b hb).2, fun p hp => ?_⟩
    have hp : p ∈ (X.pn ++ pins) ++ [] := hp
    exact f5 p (by simpa using hp)
  have loop : ∀ tk, codeAny (model X.prog X.w) X.A (.compLoop (.ListComp elt [⟨tg, iter, ifs, 0⟩] scope pos) 0 (.ref it) (.ref s.heap.objs.size) (compEnvC scope (closGo X.env.cells scope.names []) H2.objs.size X.env)) (RR (.ref s.heap.objs.size) H2.objs.size) { s with heap := h₁, toks := tk } := fun tk => by
    refine compLoop_gen (fun n s' => ∃ i ys σc Hc, W i n ys σc Hc ∧ Inv Y [] σc Hc s' ∧ tn i s'.heap ∧ ∀ b ∈ fp, Hc b = none) ?_ m0 ⟨0, [], _, _, w0, J0 tk, st1, fun b hb => (hf3 b hb).1⟩
    rintro n s1 ⟨i, ys, σc, Hc, w1, J1, t1, fr1⟩
    obtain ⟨hDc, alt⟩ := turn i n ys σc Hc w1
    rcases alt with ⟨stop, q⟩ | ⟨go, N, hN, step⟩
    · have d := T.done Y eP eW eK eC i [] s1 σc Hc (notedBy (model X.prog X.w) X.A (compEnvC scope (closGo X.env.cells scope.names []) H2.objs.size X.env) fun e s' => RR (.ref s.heap.objs.size) H2.objs.size (.error e) s') J1 (stat fr1) t1 stop
      rw [eA] at d
      refine thn d fun r s2 ⟨er, J2⟩ => ?_
      subst er
      have J2' : Inv (cxComp X scope ts cs H2.objs.size fp pins { s with heap := H2 } (upd H s.heap.objs.size (.lst []))) [] σc Hc s2 := by rw [hX]; exact J2
      have fin := comp_end I3 hf3 J2'
      have hCn : Hc H2.objs.size = none := J2'.free
      obtain ⟨m2, hm2, _⟩ := J2'.loc
      exact hRR _ _ Hc s2 (by omega) (Nat.ne_of_gt (Nat.lt_of_lt_of_le I.lt (show s.heap.objs.size ≤ H2.objs.size by rw [hsz]; exact Nat.le_succ _))) hCn ⟨m2, hm2⟩ (I3.fpOk (Nat.le_refl _) hCn) fin q
    · have d := T.item Y eP eW eK eC i [] s1 σc Hc (notedBy (model X.prog X.w) X.A (compEnvC scope (closGo X.env.cells scope.names []) H2.objs.size X.env) fun e s' => RR (.ref s.heap.objs.size) H2.objs.size (.error e) s') J1 (stat fr1) t1 go
      rw [eA] at d
      refine thn d fun r s2 ⟨u, er, d2⟩ => ?_
      subst er
      refine thn d2 fun _ s3 ⟨x, H3, J3, r3, y3, t3, fr3⟩ => ?_
      have J3' := J3.pinned (stat fr3) (T.obj _ _ t3)
      have k1 := hgY _ s3 σc H3 x u _ J3' r3 (step x H3 y3)
      rw [eP, eW, eA, eE] at k1
      refine wpAny_mono k1 (fun _ s4 ⟨σ4, H4, J4, q4⟩ => ?_) (by rw [eX]; exact fun _ _ z => z.elim)
      have k2 := hiY _ s4 σ4 H4 _ J4 q4
      rw [eP, eW, eA, eE] at k2
      refine wpAny_mono k2 (fun b s5 ⟨H5, J5, q5⟩ => ?_) (by rw [eX]; exact fun _ _ z => z.elim)
      have again : ∀ {ys' : List V} {H6 : Hp} {s6 : Shared}, Inv Y ([] ++ pinsAt fp s3.heap) σ4 H6 s6 → (∃ m', m' < n ∧ W (i + 1) m' ys' σ4 H6) → ∃ m', m' < n ∧ ∃ i ys σc Hc, W i m' ys σc Hc ∧ Inv Y [] σc Hc s6 ∧ tn i s6.heap ∧ ∀ b ∈ fp, Hc b = none := fun {ys' H6 s6} J6 ⟨m', hm, w6⟩ => by
        refine ⟨m', hm, i + 1, ys', σ4, H6, w6, J6.unpinned, T.keep _ _ _ t3 fun b hb o e => (J6.pin (b, o) (List.mem_append_right _ (List.mem_append_right _ (mem_pinsAt hb e)))).1, fun b hb => ?_⟩
        obtain ⟨o, e, d⟩ := T.obj _ _ t3 b hb
        exact (J6.pin (b, o) (List.mem_append_right _ (List.mem_append_right _ (mem_pinsAt hb e)))).2.1
      cases b with
      | false =>
        rw [if_neg Bool.false_ne_true] at q5 ⊢
        exact again J5 (hN _ _ _ q5)
      | true =>
        rw [if_pos rfl] at q5 ⊢
        have k3 := heY _ s5 σ4 H5 _ J5 q5
        rw [eP, eW, eA, eE] at k3
        refine wpAny_mono k3 (fun v s6 ⟨y, H6, J6, r6, hD6, hl6, w6⟩ => ?_) (by rw [eX]; exact fun _ _ z => z.elim)
        have k4 := mt_append _ s6 σ4 H6 (.ref s.heap.objs.size) [y] (.ref s.heap.objs.size) [v] (fun _ H7 => H7 = upd H6 s.heap.objs.size (.lst (ys ++ [y]))) J6 rfl (.cons r6 .nil) ⟨_, ys, y, rfl, rfl, hD6, hl6, rfl⟩
        rw [eP, eW, eA] at k4
        refine wpAny_mono k4 (fun _ s7 ⟨_, H7, J7, _, e7⟩ => ?_) (by rw [eX]; exact fun _ _ z => z.elim)
        subst e7
        exact again J7 (hN _ _ _ w6)
  exact codeAny_compStart_list (loop _) (T.self _ 0 _ _ _ st1 (loop _))
theorem pe_comp (hc : X.calm = true) (O : CompOk X scope ts cs) (hp : PI X tg iter wi) (hg : InComp X scope ts cs fun Y => PG Y tg g) (hi : InComp X scope ts cs fun Y => PIfs Y ifs tc) (he : InComp X scope ts cs fun Y => PE Y elt te)
    (hs : ∀ x, foldedSetIterable iter X.env x = pure x := by intro _; rfl) : PE X (.ListComp elt [⟨tg, iter, ifs, 0⟩] scope pos) (tComp wi ts cs g tc te) := by
  intro pins s σ H Q I h
  rw [eval_ListComp]
  refine wpAny_comprehension_free (use := none) rfl hs (O.clos I) O.kind O.locs (thn (hp pins s σ H _ I h) fun v s1 h1 => thn h1 fun itv s2 h2 => ?_)
  obtain ⟨it, fp, tn, J, H2, e, I2, T, st2, f2, hb⟩ := h2
  subst e
  refine comp_block hc O hg hi he I2 T st2 f2 hb fun D C H' s' hC hL hCn hns fpc fin q => ?_
  obtain ⟨m, hm⟩ := hns
  refine ⟨m, hm, fun h' sb => ?_⟩
  obtain ⟨f0, f1, f2, f3, f4, f5⟩ := fpc
  exact ⟨.ref D, H', fin.turned (t' := s'.toks) (fun b o hb e => sb.extBut b o hb e) f0 f1 f3 f4 f5, rfl, q⟩
theorem ps_setc {i : Nat} {y : Str} {py spos : Pos} (hc : X.calm = true) (O : CompOk X scope ts cs) (hp : PI X tg iter wi) (hg : InComp X scope ts cs fun Y => PG Y tg g) (hi : InComp X scope ts cs fun Y => PIfs Y ifs tc) (he : InComp X scope ts cs fun Y => PE Y elt te)
    (hN : X.N.Nodup) (hy : X.N[i]? = some y) (hx : Loc X.env.scope y) (hf : X.fn y = true ∨ X.env.scope.names.lookup y = some .local := by first | exact .inl rfl | exact .inr rfl | assumption)
    (hsw : swapsWith (.ListComp elt [⟨tg, iter, ifs, 0⟩] scope pos) (some (.Name y py)) spos.line X.env = pure true := by rfl)
    (hs : ∀ x, foldedSetIterable iter X.env x = pure x := by intro _; rfl) : PS X (.Assign [.Name y py] (.ListComp elt [⟨tg, iter, ifs, 0⟩] scope pos) spos) (tAsg (tComp wi ts cs g tc te) (gName i)) := by
  intro pins s σ H D I h
  rw [exec_Assign_Name_used _ _ _ _ hsw]
  refine wpAny_bind (wpAny_standAt (wpAny_bind ?_))
  show wpAny _ X.A (do let _ ← comprehension (.ListComp elt [⟨tg, iter, ifs, 0⟩] scope pos) scope X.env _ (newList []) false (eval iter X.env) (some (assign (.Name y py) X.env))) _ _ s
  refine wpAny_bind (wpAny_mono (wpAny_comprehension_free (use := some (assign (.Name y py) X.env)) (Q := fun _ s' => SP X pins D .next s') rfl hs (O.clos I) O.kind O.locs (thn (hp pins s σ H _ I h) fun v s1 h1 => thn h1 fun itv s2 h2 => ?_)) (fun _ s' hq => wpAny_pure (wpAny_pure hq)) fun _ _ e => e)
  obtain ⟨it, fp, tn, J, H2, e, I2, T, st2, f2, hb⟩ := h2
  subst e
  refine comp_block hc O hg hi he I2 T st2 f2 hb fun D' C H' s' hC hL hCn hns fpc fin q => ?_
  obtain ⟨m, hm⟩ := hns
  obtain ⟨f0, f1, f2, f3, f4, f5⟩ := fpc
  obtain ⟨o, es, ep, ho, hd, hr⟩ := id hm
  have pinned : Inv X (pins ++ [(C, o)]) σ H' s' := fin.pins_of fun p hp => (List.mem_append.mp hp).elim (fun z => fin.pin p (List.mem_append_right _ z)) fun z => by
    rw [List.mem_singleton.mp z]
    exact ⟨ho, f0, f1, f2, fun v z => by rw [show o.data = _ from hd] at z; cases z⟩
  show wpAny _ X.A (assign (.Name y py) X.env (.ref D')) _ _ _
  refine thn (pg_name hN hy hx hf _ s' σ H' (.ref D') (.ref D') _ pinned rfl q) fun _ s'' ⟨σ2, H2', I2', q2⟩ => ?_
  have ho' := (I2'.pin (C, o) (List.mem_append_right _ (List.mem_append_right _ (List.mem_singleton.mpr rfl)))).1
  refine ⟨m, ⟨o, es, ep, ho', hd, hr⟩, fun h' sb => ?_⟩
  exact ⟨σ2, H2', I2'.unpinned.turned (t' := s''.toks) (fun b o hb e => sb.extBut b o hb e) (I2'.pin (C, o) (List.mem_append_right _ (List.mem_append_right _ (List.mem_singleton.mpr rfl)))).2.1 f1 f3 f4 f5, q2⟩
theorem pg_comp1 {x : Str} {px : Pos} (O : CompOk X scope [x] cs) : InComp X scope [x] cs fun Y => PG Y (.Name x px) (gName 0) := fun C fp pins s H =>
  pg_name (i := 0) O.nd rfl (.inl (lookup_relabel_local (O.tgt x (List.mem_singleton.mpr rfl)))) (.inr (lookup_relabel_local (O.tgt x (List.mem_singleton.mpr rfl))))
theorem pe_comp1 {x : Str} {px : Pos} (hc : X.calm = true) (O : CompOk X scope [x] cs) (hp : PI X (.Name x px) iter wi) (hi : InComp X scope [x] cs fun Y => PIfs Y ifs tc) (he : InComp X scope [x] cs fun Y => PE Y elt te)
    (hs : ∀ x, foldedSetIterable iter X.env x = pure x := by intro _; rfl) : PE X (.ListComp elt [⟨.Name x px, iter, ifs, 0⟩] scope pos) (tComp wi [x] cs (gName 0) tc te) := pe_comp hc O hp (pg_comp1 O) hi he hs
theorem ps_setc1 {i : Nat} {x y : Str} {px py spos : Pos} (hc : X.calm = true) (O : CompOk X scope [x] cs) (hp : PI X (.Name x px) iter wi) (hi : InComp X scope [x] cs fun Y => PIfs Y ifs tc) (he : InComp X scope [x] cs fun Y => PE Y elt te)
    (hN : X.N.Nodup) (hy : X.N[i]? = some y) (hx : Loc X.env.scope y) (hf : X.fn y = true ∨ X.env.scope.names.lookup y = some .local := by first | exact .inl rfl | exact .inr rfl | assumption)
    (hsw : swapsWith (.ListComp elt [⟨.Name x px, iter, ifs, 0⟩] scope pos) (some (.Name y py)) spos.line X.env = pure true := by rfl)
    (hs : ∀ x, foldedSetIterable iter X.env x = pure x := by intro _; rfl) : PS X (.Assign [.Name y py] (.ListComp elt [⟨.Name x px, iter, ifs, 0⟩] scope pos) spos) (tAsg (tComp wi [x] cs (gName 0) tc te) (gName i)) := ps_setc hc O hp (pg_comp1 O) hi he hN hy hx hf hsw hs
end
end L2
namespace L2
open PySem PySem.Spec PyProof.Rows
noncomputable abbrev D := PyData
mutual
noncomputable def Rep (H : Hp) : PyData → V → Prop
  | .none, v => v = .non
  | .bool b, v => v = .bl b
  | .int i, v => v = .int i
  | .str x, v => v = .str x
  | .list ds, v => ∃ a xs, v = .ref a ∧ H a = some (.lst xs) ∧ Reps H ds xs
  | .tuple ds, v => ∃ a xs, v = .ref a ∧ H a = some (.tup xs) ∧ Reps H ds xs
  | .dict _, _ => False
noncomputable def Reps (H : Hp) : List PyData → List V → Prop
  | [], xs => xs = []
  | d :: ds, xs => ∃ x r, xs = x :: r ∧ Rep H d x ∧ Reps H ds r
end
section
variable {H H' : Hp} {d e : PyData} {ds es : List PyData} {v x : V} {xs ys : List V} {a : Addr}
theorem rep_lst : Rep H (.list ds) v ↔ ∃ a xs, v = .ref a ∧ H a = some (.lst xs) ∧ Reps H ds xs := by rw [Rep]
theorem rep_tup : Rep H (.tuple ds) v ↔ ∃ a xs, v = .ref a ∧ H a = some (.tup xs) ∧ Reps H ds xs := by rw [Rep]
theorem rep_int {i : Int} : Rep H (.int i) v ↔ v = .int i := by rw [Rep]
theorem rep_str {i : Str} : Rep H (.str i) v ↔ v = .str i := by rw [Rep]
theorem rep_non : Rep H .none v ↔ v = .non := by rw [Rep]
theorem reps_nil : Reps H [] xs ↔ xs = [] := by rw [Reps]
theorem reps_cons : Reps H (d :: ds) xs ↔ ∃ x r, xs = x :: r ∧ Rep H d x ∧ Reps H ds r := by rw [Reps]
theorem reps_cc : Reps H (d :: ds) (x :: xs) ↔ Rep H d x ∧ Reps H ds xs := by
  rw [reps_cons]
  constructor
  · rintro ⟨y, r, e, h1, h2⟩
    injection e with e1 e2
    subst e1; subst e2
    exact ⟨h1, h2⟩
  · rintro ⟨h1, h2⟩
    exact ⟨x, xs, rfl, h1, h2⟩
theorem Reps.length : ∀ {ds : List PyData} {xs : List V}, Reps H ds xs → ds.length = xs.length
  | [], _, h => by rw [reps_nil] at h; subst h; rfl
  | d :: ds, _, h => by
    obtain ⟨x, r, rfl, _, h2⟩ := reps_cons.mp h
    simp [Reps.length h2]
theorem Reps.get : ∀ {ds : List PyData} {xs : List V} {i : Nat} {d : PyData}, Reps H ds xs → ds[i]? = some d → ∃ x, xs[i]? = some x ∧ Rep H d x
  | [], _, _, _, _, e => by simp at e
  | c :: ds, _, 0, d, h, e => by
    obtain ⟨x, r, rfl, h1, _⟩ := reps_cons.mp h
    simp at e
    subst e
    exact ⟨x, rfl, h1⟩
  | c :: ds, _, i + 1, d, h, e => by
    obtain ⟨x, r, rfl, _, h2⟩ := reps_cons.mp h
    obtain ⟨y, e1, e2⟩ := Reps.get h2 (i := i) (d := d) (by simpa using e)
    exact ⟨y, by simpa using e1, e2⟩
theorem Reps.got : ∀ {ds : List PyData} {xs : List V} {i : Nat} {x : V}, Reps H ds xs → xs[i]? = some x → ∃ d, ds[i]? = some d ∧ Rep H d x := fun {ds xs i x} h e => by
  have hl := h.length
  have hi : i < xs.length := (List.getElem?_eq_some_iff.mp e).1
  obtain ⟨y, e1, e2⟩ := h.get (i := i) (d := ds[i]) (List.getElem?_eq_getElem (by omega))
  rw [e] at e1
  cases e1
  exact ⟨_, List.getElem?_eq_getElem (by omega), e2⟩
theorem Reps.append : ∀ {ds es : List PyData} {xs ys : List V}, Reps H ds xs → Reps H es ys → Reps H (ds ++ es) (xs ++ ys)
  | [], _, _, _, h, k => by rw [reps_nil] at h; subst h; exact k
  | d :: ds, es, _, ys, h, k => by
    obtain ⟨x, r, rfl, h1, h2⟩ := reps_cons.mp h
    exact reps_cc.mpr ⟨h1, Reps.append h2 k⟩
mutual
theorem Rep.mono : ∀ {d : PyData} {v : V}, Rep H d v → Same H H' → Rep H' d v
  | .none, _, h, _ => by rw [Rep] at h ⊢; exact h
  | .bool _, _, h, _ => by rw [Rep] at h ⊢; exact h
  | .int _, _, h, _ => by rw [Rep] at h ⊢; exact h
  | .str _, _, h, _ => by rw [Rep] at h ⊢; exact h
  | .list ds, _, h, q => by
    obtain ⟨a, xs, rfl, h1, h2⟩ := rep_lst.mp h
    exact rep_lst.mpr ⟨a, xs, rfl, q _ _ h1, Reps.mono h2 q⟩
  | .tuple ds, _, h, q => by
    obtain ⟨a, xs, rfl, h1, h2⟩ := rep_tup.mp h
    exact rep_tup.mpr ⟨a, xs, rfl, q _ _ h1, Reps.mono h2 q⟩
  | .dict _, _, h, _ => by rw [Rep] at h; exact h.elim
theorem Reps.mono : ∀ {ds : List PyData} {xs : List V}, Reps H ds xs → Same H H' → Reps H' ds xs
  | [], _, h, _ => by rw [reps_nil] at h ⊢; exact h
  | d :: ds, _, h, q => by
    obtain ⟨x, r, rfl, h1, h2⟩ := reps_cons.mp h
    exact reps_cc.mpr ⟨Rep.mono h1 q, Reps.mono h2 q⟩
end
theorem Same.upd_new {o : HO} (h : H a = none) : Same H (upd H a o) := fun b u e => by rw [upd_ne (ne_of_none e h)]; exact e
theorem Same.upd_late {H0 : Hp} {o : HO} (s : Same H0 H) (h : H0 a = none) : Same H0 (upd H a o) := fun b u e => by rw [upd_ne (ne_of_none e h)]; exact s b u e
end
section
variable {X : Cx} {pins : List (Addr × Obj)} {σ : St} {H : Hp} {s : Shared}
mutual
theorem Rep.reads (I : Inv X pins σ H s) : ∀ {d : PyData} {v : V} {u : Value}, Rep H d v → RelV v u → ∃ as, Reads s.heap u d as
  | .none, _, _, h, r => by rw [Rep] at h; subst h; cases r; exact ⟨_, .none⟩
  | .bool b, _, _, h, r => by rw [Rep] at h; subst h; cases r; exact ⟨_, .bool b⟩
  | .int i, _, _, h, r => by rw [Rep] at h; subst h; obtain ⟨t, rfl⟩ := r; exact ⟨_, .int i t⟩
  | .str i, _, _, h, r => by rw [Rep] at h; subst h; obtain ⟨t, rfl⟩ := r; exact ⟨_, .str i t⟩
  | .list ds, _, _, h, r => by
    obtain ⟨a, xs, rfl, h1, h2⟩ := rep_lst.mp h
    cases r
    obtain ⟨its, v1, ⟨o, n, e, c, _, d⟩, _⟩ := I.list (SqL.of h1)
    obtain ⟨as, q⟩ := Reps.reads I h2 v1
    exact ⟨_, .list e c d (by simpa using q)⟩
  | .tuple ds, _, _, h, r => by
    obtain ⟨a, xs, rfl, h1, h2⟩ := rep_tup.mp h
    cases r
    obtain ⟨its, v1, ⟨o, e, c, n, d⟩, _⟩ := I.tuple (SqT.of h1)
    obtain ⟨as, q⟩ := Reps.reads I h2 v1
    exact ⟨_, .tuple e c d (by simpa using q)⟩
  | .dict _, _, _, h, _ => by rw [Rep] at h; exact h.elim
theorem Reps.reads (I : Inv X pins σ H s) : ∀ {ds : List PyData} {xs : List V} {us : List Value}, Reps H ds xs → Vals xs us → ∃ as, ReadsAll s.heap us ds as
  | [], _, _, h, r => by rw [reps_nil] at h; subst h; cases r; exact ⟨_, .nil⟩
  | d :: ds, _, _, h, r => by
    obtain ⟨x, xr, rfl, h1, h2⟩ := reps_cons.mp h
    cases r with
    | cons r1 r2 =>
      obtain ⟨as, q1⟩ := Rep.reads I h1 r1
      obtain ⟨bs, q2⟩ := Reps.reads I h2 r2
      exact ⟨_, .cons q1 q2⟩
end
noncomputable def rEqD : R2 := fun x y H Q => ∃ d e, Rep H d x ∧ Rep H e y ∧ SeqAt.shaped d = true ∧ SeqAt.shaped e = true ∧ Q (.bl (PyData.eqv d e)) H
noncomputable def rNeD : R2 := fun x y H Q => ∃ d e, Rep H d x ∧ Rep H e y ∧ SeqAt.shaped d = true ∧ SeqAt.shaped e = true ∧ Q (.bl (!PyData.eqv d e)) H
theorem op_eqD (hu : X.A.units + 64 < cLine) : OpR X (compareOp .Eq) rEqD := by
  intro pins s σ H x y v u Q I r1 r2 h
  obtain ⟨d, e, h1, h2, s1, s2, q⟩ := h
  obtain ⟨as, q1⟩ := h1.reads I r1
  obtain ⟨bs, q2⟩ := h2.reads I r2
  exact eq_dataH q1 q2 s1 s2 hu ⟨.bl _, H, I, rfl, q⟩
theorem op_neD (hu : X.A.units + 64 < cLine) : OpR X (compareOp .NotEq) rNeD := by
  intro pins s σ H x y v u Q I r1 r2 h
  obtain ⟨d, e, h1, h2, s1, s2, q⟩ := h
  obtain ⟨as, q1⟩ := h1.reads I r1
  obtain ⟨bs, q2⟩ := h2.reads I r2
  exact ne_dataH q1 q2 s1 s2 hu ⟨.bl _, H, I, rfl, q⟩
end
noncomputable def intsD (ns : List Int) : PyData := .list (ns.map .int)
noncomputable def ropeD (r : Int × Int × Int) : PyData := .tuple [.int r.1, .int r.2.1, .int r.2.2]
noncomputable def ropesD (rs : List (Int × Int × Int)) : PyData := .list (rs.map ropeD)
noncomputable def grps (G : List (List Int)) : PyData := .list (G.map intsD)
theorem eqvAll_ints : ∀ ns ms : List Int, PyData.eqvAll (ns.map .int) (ms.map .int) = decide (ns = ms)
  | [], [] => by simp [PyData.eqvAll]
  | [], _ :: _ => by simp [PyData.eqvAll]
  | _ :: _, [] => by simp [PyData.eqvAll]
  | a :: r, b :: t => by
    simp only [List.map_cons, PyData.eqvAll, PyData.eqv, eqvAll_ints r t]
    by_cases h : a = b <;> by_cases h' : r = t <;> simp [h, h']
theorem eqv_ints (ns ms : List Int) : PyData.eqv (intsD ns) (intsD ms) = decide (ns = ms) := by unfold intsD; rw [PyData.eqv]; exact eqvAll_ints ns ms
theorem lay_ints : ∀ ns : List Int, PyData.canLayAll0 (ns.map PyData.int) = true
  | [] => rfl
  | _ :: r => by simp [PyData.canLayAll0, PyData.canLay0, lay_ints r]
theorem dep_ints : ∀ ns : List Int, PyData.depthAll (ns.map PyData.int) = 0
  | [] => rfl
  | _ :: r => by simp [PyData.depthAll, PyData.depth, dep_ints r]
theorem sh_ints (ns : List Int) : SeqAt.shaped (intsD ns) = true := by simp [intsD, SeqAt.shaped, PyData.canLay0, PyData.depth, lay_ints, dep_ints]
section
variable {H H' : Hp} {v : V} {a : Addr}
theorem reps_ints : ∀ {ns : List Int} {xs : List V}, Reps H (ns.map .int) xs ↔ xs = ns.map V.int
  | [], xs => by rw [List.map_nil, reps_nil, List.map_nil]
  | n :: ns, xs => by
    rw [List.map_cons, reps_cons, List.map_cons]
    constructor
    · rintro ⟨x, r, rfl, h1, h2⟩
      rw [rep_int.mp h1, reps_ints.mp h2]
    · rintro rfl
      exact ⟨_, _, rfl, rep_int.mpr rfl, reps_ints.mpr rfl⟩
theorem rep_ints {ns : List Int} : Rep H (intsD ns) v ↔ ∃ a, v = .ref a ∧ H a = some (.lst (ns.map V.int)) := by
  unfold intsD
  rw [rep_lst]
  constructor
  · rintro ⟨a, xs, rfl, h1, h2⟩
    rw [reps_ints] at h2
    subst h2
    exact ⟨a, rfl, h1⟩
  · rintro ⟨a, rfl, h⟩
    exact ⟨a, _, rfl, h, reps_ints.mpr rfl⟩
theorem rep_rope {r : Int × Int × Int} : Rep H (ropeD r) v ↔ ∃ a, v = .ref a ∧ H a = some (.tup [.int r.1, .int r.2.1, .int r.2.2]) := by
  unfold ropeD
  rw [rep_tup]
  have e : ∀ xs, Reps H [.int r.1, .int r.2.1, .int r.2.2] xs ↔ xs = [.int r.1, .int r.2.1, .int r.2.2] := fun xs => reps_ints (ns := [r.1, r.2.1, r.2.2])
  constructor
  · rintro ⟨a, xs, rfl, h1, h2⟩
    rw [(e xs).mp h2] at h1
    exact ⟨a, rfl, h1⟩
  · rintro ⟨a, rfl, h⟩
    exact ⟨a, _, rfl, h, (e _).mpr rfl⟩
end
end L2
namespace L2
open PySem PySem.Spec PyProof.Rows
section
variable {X : Cx}
noncomputable def rngV (lo : Int) (n : Nat) : List V := (List.range n).map fun i : Nat => V.int (lo + i)
theorem call_rng1 : CallR X (.type "range") (fun xs H Q => ∃ j : Int, xs = [.int j] ∧ ∀ p, H p = none → Q (.ref p) (upd H p (.rng 0 j))) := by
  intro pins s σ H xs us Q I r h
  obtain ⟨j, rfl, q⟩ := h
  obtain ⟨u, rfl, ru⟩ := vals1 r
  obtain ⟨t, rfl⟩ := ru
  refine call_range_1 ⟨.ref s.heap.objs.size, _, I.laid (fun b o e => Heap.get?_push_of_some _ e) (Nat.le_refl _) ?_, rfl, q _ (I.hok.fresh (Nat.le_refl _))⟩
  exact ⟨_, _, _, Heap.get?_push_size _ rfl⟩
theorem call_list_rng (hc : X.calm = true) : CallR X (.type "list") (fun xs H Q => ∃ p lo hi, xs = [.ref p] ∧ H p = some (.rng lo hi) ∧ -(2 ^ 62) ≤ lo ∧ lo < 2 ^ 62 ∧ -(2 ^ 62) ≤ hi ∧ hi < 2 ^ 62 ∧ hi - lo ≤ 1000000 ∧
    ∀ l, H l = none → Q (.ref l) (upd H l (.lst (rngV lo (hi - lo).toNat)))) := by
  intro pins s σ H xs us Q I r h
  obtain ⟨p, lo, hi, rfl, hp, b1, b2, b3, b4, b5, q⟩ := h
  obtain ⟨u, rfl, ru⟩ := vals1 r
  cases ru
  obtain ⟨t, u, v, e⟩ := I.hok p _ hp
  have hn : Builtin.Range.rangeSize lo hi 1 = (((hi - lo).toNat : Nat) : Int) := by rw [rangeSize_one]; split <;> omega
  refine call_list_range (I.ok.hd hc) e (small_one b1 b2 b3 b4) hn (by omega) fun h' tk acc c' hk hS hit => ?_
  have hv : Vals (rngV lo (hi - lo).toNat) acc.toList := by
    have hl : (rngV lo (hi - lo).toNat).length = acc.toList.length := by
      unfold rngV
      rw [List.length_map, List.length_range, Array.length_toList, hit.1]
    have go : ∀ (xs : List V) (us : List Value), xs.length = us.length → (∀ (i : Nat) x u, xs[i]? = some x → us[i]? = some u → RelV x u) → Vals xs us := by
      intro xs
      induction xs with
      | nil => intro us hl _; cases us with | nil => exact .nil | cons _ _ => cases hl
      | cons x xs ih =>
        intro us hl h
        cases us with
        | nil => cases hl
        | cons u us => exact .cons (h 0 x u rfl rfl) (ih us (by simpa using hl) fun i y w e1 e2 => h (i + 1) y w (by simpa using e1) (by simpa using e2))
    refine go _ _ hl fun i x u e1 e2 => ?_
    obtain ⟨tk, rfl⟩ := hit.2 i u (by simpa using e2)
    unfold rngV at e1
    rw [List.getElem?_map] at e1
    cases z : (List.range (hi - lo).toNat)[i]? with
    | none => rw [z] at e1; cases e1
    | some k =>
      rw [z] at e1
      have hik : i < (hi - lo).toNat := by
        have := (List.getElem?_eq_some_iff.mp z).1
        simpa using this
      rw [List.getElem?_range hik] at z
      cases z
      have e1 : V.int (lo + ((i : Nat) : Int)) = x := Option.some.inj e1
      subst e1
      exact ⟨tk, by rw [Int.mul_one]⟩
  refine ⟨.ref s.heap.objs.size, _, I.laid (t' := tk) hk (Nat.le_refl _) ?_, rfl, q _ (I.hok.fresh (Nat.le_refl _))⟩
  refine ⟨?_, acc.toList, c', hv, by simpa using hS⟩
  unfold rngV
  rw [List.length_map, List.length_range]
  have : (1000000 : Nat) ≤ sizeLine := by decide
  omega
noncomputable def Itc (lo c : Int) (n : Nat) : It := ⟨fun i _ => i < n, fun i H x H' => H' = H ∧ x = .int (lo + i * c), fun i _ => n ≤ i⟩
theorem turn_rangeC {P : Program} {w : World} {K : PySem.W.Frag} {tg : Expr} (it : Addr) (lo c : Int) (n : Nat) : Turn P w K tg (Itc lo c n) [it] it (fun i h => IsRangeIter h it (lo + (i : Nat) * c) ((n : Int) - (i : Nat)) c) where
  mem := by simp
  obj := fun i h st b hb => by
    have e : b = it := by simpa using hb
    subst e
    exact ⟨_, st, fun v z => by
      have z' : Data.fields _ = Data.cell v := z
      cases z'⟩
  keep := fun i h h' st k => k it (by simp) _ st
  item := by
    intro X hP hw hK hc i pins s σ H E I hf st hg
    subst hP hw hK
    obtain ⟨f0, f1, f2, f3, f4, f5⟩ := hf it (by simp)
    have W := Walks.range (prog := X.prog) (w := X.w) (I.ok.hd hc) it lo c n
    refine W.item i s _ _ hg st fun v h' tk hv st' kk => ?_
    obtain ⟨t, rfl⟩ := hv
    have I1 : Inv X pins σ H { s with heap := h', toks := tk } := I.turned (fun b o hb e => kk b o (by simpa using hb) e) f0 f1 f3 f4 f5
    exact ⟨_, rfl, go_of (s := { s with heap := h', toks := tk }) (n := "range_iterator") st' rfl rfl (by decide) ⟨.int (lo + i * c), H, I1, ⟨t, rfl⟩, ⟨rfl, rfl⟩, st', fun b hb => (hf b hb).1⟩⟩
  done := by
    intro X hP hw hK hc i pins s σ H E I hf st hg
    subst hP hw hK
    obtain ⟨f0, f1, f2, f3, f4, f5⟩ := hf it (by simp)
    exact wpAny_pyNext_range_end (I.ok.hd hc) st (by have : n ≤ i := hg; omega) fun h' eb => ⟨rfl, I.turned (t' := s.toks) (fun b o hb e => eb b o hb e) f0 f1 f3 f4 f5⟩
  self := fun _ _ _ _ _ st h => wpAny_pyIter_rangeiter st h
theorem for_rangeC {lo c : Int} {n : Nat} {g : TG} {tb : TS} {D : Ends} {σ : St} {H : Hp} (Pv : Nat → St → Hp → Prop) (h0 : Pv 0 σ H)
    (hs : ∀ i σ H, i < n → Pv i σ H → g (.int (lo + i * c)) σ H fun σ2 H2 => tb { D with nx := Pv (i + 1), ct := Pv (i + 1), bk := D.nx } σ2 H2) (hd : ∀ σ H, Pv n σ H → D.nx σ H) :
    ∃ W : Nat → Nat → St → Hp → Prop, (∃ m, W 0 m σ H) ∧ ∀ i m σ H, W i m σ H →
      ((Itc lo c n).stop i H ∧ D.nx σ H) ∨ ((Itc lo c n).go i H ∧ ∃ N : St → Hp → Prop, (∀ σ' H', N σ' H' → ∃ m', m' < m ∧ W (i + 1) m' σ' H') ∧ ∀ x H', (Itc lo c n).yld i H x H' → g x σ H' fun σ2 H2 => tb { D with nx := N, ct := N, bk := D.nx } σ2 H2) := by
  refine ⟨fun i m σ H => m = n - i ∧ i ≤ n ∧ Pv i σ H, ⟨n, by simp, Nat.zero_le _, h0⟩, ?_⟩
  rintro i m σ H ⟨rfl, hi, p⟩
  by_cases hlt : i < n
  · refine .inr ⟨hlt, Pv (i + 1), fun σ' H' p' => ⟨n - (i + 1), by omega, rfl, hlt, p'⟩, fun x H' y => ?_⟩
    obtain ⟨e, y⟩ := y
    subst e y
    exact hs i σ _ hlt p
  · have e : i = n := by omega
    subst e
    exact .inl ⟨Nat.le_refl _, hd σ H p⟩
theorem call_isinst : CallR X (.builtin "isinstance") (fun xs H Q => ∃ x T t b, xs = [x, .ty T] ∧ TyOf X.K H x t ∧ PySem.W.kitOne X.K t (.type T) = some b ∧ Q (.bl b) H) := by
  intro pins s σ H xs us Q I r h
  obtain ⟨x, T, t, b, rfl, ty, e, q⟩ := h
  obtain ⟨u, w, rfl, ru, rw'⟩ := Vals.two r
  cases rw'
  exact isinst_ok I ru ty e fun tk => ⟨.bl b, H, I.tok tk, rfl, q⟩
end
section
variable {X : Cx} {st : Stmt} {t : TS}
noncomputable def tCut (t : TS) : TS := fun D σ H => ∃ J : St → Hp → Prop, t { D with nx := J } σ H ∧ ∀ σ' H', J σ' H' → D.nx σ' H'
theorem ps_cut (h : PS X st t) : PS X st (tCut t) := by
  intro pins s σ H D I hw
  obtain ⟨J, hw, hJ⟩ := hw
  refine thn (h pins s σ H { D with nx := J } I hw) fun f s1 q => ?_
  cases f with
  | next =>
    obtain ⟨σ', H', I', q⟩ := q
    exact ⟨σ', H', I', hJ _ _ q⟩
  | brk => exact q
  | cont => exact q
  | ret u => exact q
end
section
variable {X : Cx} {scope : Scope} {ts : List Str} {cs : List Nat} {C : Addr} {fp : List Addr} {pins : List (Addr × Obj)} {s : Shared} {H : Hp}
theorem ixc_list : IxR (cxComp X scope ts cs C fp pins s H) (rIxL X.K) := ix_list
theorem ixc_tup : IxR (cxComp X scope ts cs C fp pins s H) (rIxT X.K) := ix_tup
theorem opc_notIn_seq : OpR (cxComp X scope ts cs C fp pins s H) (compareOp .NotIn) (rIn X.K true) := op_notIn_seq
end
theorem bo_len : bootBuiltins "len" = some (.builtin "len") := by decide +kernel
theorem bo_int : bootBuiltins "int" = some (.type "int") := by decide +kernel
theorem bo_bool : bootBuiltins "bool" = some (.type "bool") := by decide +kernel
theorem bo_str : bootBuiltins "str" = some (.type "str") := by decide +kernel
theorem bo_list : bootBuiltins "list" = some (.type "list") := by decide +kernel
theorem bo_tuple : bootBuiltins "tuple" = some (.type "tuple") := by decide +kernel
theorem bo_range : bootBuiltins "range" = some (.type "range") := by decide +kernel
theorem bo_isinstance : bootBuiltins "isinstance" = some (.builtin "isinstance") := by decide +kernel
theorem bo_max : bootBuiltins "max" = some (.builtin "max") := by decide +kernel
theorem bo_sum : bootBuiltins "sum" = some (.builtin "sum") := by decide +kernel
theorem bo_sorted : bootBuiltins "sorted" = some (.builtin "sorted") := by decide +kernel
theorem bo_ValueError : bootBuiltins "ValueError" = some (.type "ValueError") := by decide +kernel
end L2
namespace L2
open PySem PySem.Spec PyProof.Rows
section
variable {K : PySem.W.Frag} {σ : St} {H H1 : Hp} {Q : VK} {QT : Bool → Hp → Prop} {QA : List V → Hp → Prop} {v x y : V} {i j : Int} {n : Nat} {ta tb tc te : TE} {tA tB' : TT} {t u : TS} {D : Ends} {g : TG} {r : R2} {p : Addr} {xs ys : List V}
theorem rv0 {s : St} : tVar 0 (some v :: s) H Q = Q v H := by
  show (∃ w, some (some v) = some (some w) ∧ Q w H) = _
  simp
theorem rvS {o : Option V} {s : St} : tVar (n + 1) (o :: s) H Q = tVar n s H Q := rfl
theorem rC : tC v σ H Q = Q v H := rfl
theorem rOp : tOp r ta tb σ H Q = ta σ H fun x H1 => tb σ H1 fun y H2 => r x y H2 Q := rfl
theorem rUn {f : V → Hp → VK → Prop} : tUn f ta σ H Q = ta σ H fun x H1 => f x H1 Q := rfl
theorem rTest : tTest te σ H QT = te σ H fun x H1 => ∃ k, x = .bl k ∧ QT k H1 := rfl
theorem rB : tB te σ H QT = te σ H fun x H1 => ∃ c, x = .bl c ∧ QT c H1 := rfl
theorem rBl {b : Bool} {P : Bool → Prop} : (∃ c, V.bl b = V.bl c ∧ P c) = P b := by simp
theorem rI0i {f : Int → Int → V} : rI0 f (.int i) (.int j) H Q = Q (f i j) H := by simp [rI0]
theorem rIi {C : Int → Int → Prop} {f : Int → Int → V} : rI C f (.int i) (.int j) H Q = (C i j ∧ Q (f i j) H) := by simp [rI]
theorem rUi {f : Int → V} : rU f (.int i) H Q = Q (f i) H := by simp [rU]
theorem rEqi : rEq (.int i) (.int j) H Q = Q (.bl (decide (i = j))) H := by simp [rEq, scal]
theorem rNei : rNe (.int i) (.int j) H Q = Q (.bl (!decide (i = j))) H := by simp [rNe, scal]
theorem rEqb {a b : Bool} : rEq (.bl a) (.bl b) H Q = Q (.bl (decide (a = b))) H := by simp [rEq, scal]
theorem rNeb {a b : Bool} : rNe (.bl a) (.bl b) H Q = Q (.bl (!decide (a = b))) H := by simp [rNe, scal]
theorem rNot : tNot tA σ H QT = tA σ H fun c H1 => QT (!c) H1 := rfl
theorem rAnd : tAnd tA tB' σ H QT = tA σ H fun c H1 => if c = true then tB' σ H1 QT else QT false H1 := rfl
theorem rOr : tOr tA tB' σ H QT = tA σ H fun c H1 => if c = true then QT true H1 else tB' σ H1 QT := rfl
theorem rAndV : tAndV ta tb σ H Q = ta σ H fun x H1 => ∃ c, x = .bl c ∧ if c = true then tb σ H1 Q else Q (.bl false) H1 := rfl
theorem rOrV : tOrV ta tb σ H Q = ta σ H fun x H1 => ∃ c, x = .bl c ∧ if c = true then Q (.bl true) H1 else tb σ H1 Q := rfl
theorem rNotV : tNotV ta σ H Q = ta σ H fun x H1 => ∃ c, x = .bl c ∧ Q (.bl (!c)) H1 := rfl
theorem rIf : tIf tA ta tb σ H Q = tA σ H fun c H1 => if c = true then ta σ H1 Q else tb σ H1 Q := rfl
theorem rSeq : tSeq t u D σ H = t { D with nx := u D } σ H := rfl
theorem rNext : tNext D σ H = D.nx σ H := rfl
theorem rDrop : tDrop te D σ H = te σ H fun _ H1 => D.nx σ H1 := rfl
theorem rRet : tRet te D σ H = te σ H D.rt := rfl
theorem rRetN : tRetN D σ H = D.rt .non H := rfl
theorem rIfS : tIfS tA t u D σ H = tA σ H fun b H1 => if b = true then t D σ H1 else u D σ H1 := rfl
theorem rAsg : tAsg te g D σ H = te σ H fun x H1 => g x σ H1 D.nx := rfl
theorem rName {f : St → Hp → Prop} : gName n v σ H f = f (σ.set n (some v)) H := rfl
theorem rNil : tNil σ H QA = QA [] H := rfl
theorem rCons {tr : TA} : tCons ta tr σ H QA = ta σ H fun x H1 => tr σ H1 fun xs H2 => QA (x :: xs) H2 := rfl
theorem rCB {f : List V → Hp → VK → Prop} {a : TA} : tCB f a σ H Q = a σ H fun vs H1 => f vs H1 Q := rfl
theorem rBM {T : String} {f : V → List V → Hp → VK → Prop} {a : TA} : tBM K T f te a σ H Q = te σ H fun x H1 => tyV K T x H1 ∧ a σ H1 fun xs H2 => f x xs H2 Q := rfl
theorem rCall {sp : Sp} {dvs : List V} {E : XK} {a : TA} : tCall sp dvs E a σ H Q = a σ H fun vs H1 => sp (vs ++ dvs) H1 Q E := rfl
theorem rTup {a : TA} : tTup a σ H Q = a σ H fun xs H1 => xs.length ≤ sizeLine ∧ ∀ p, H1 p = none → Q (.ref p) (upd H1 p (.tup xs)) := rfl
theorem rLst {a : TA} : tLst a σ H Q = a σ H fun xs H1 => xs.length ≤ sizeLine ∧ ∀ p, H1 p = none → Q (.ref p) (upd H1 p (.lst xs)) := rfl
theorem rSl {f : V → Option Int → Option Int → Hp → VK → Prop} {tl th : TO} : tSl f te tl th σ H Q = te σ H fun x H1 => tl σ H1 fun l H2 => th σ H2 fun u H3 => f x l u H3 Q := rfl
theorem rNoPart {f : Option Int → Hp → Prop} : tNoPart σ H f = f none H := rfl
theorem rPart {f : Option Int → Hp → Prop} : tPart te σ H f = te σ H fun x H1 => ∃ i, x = .int i ∧ f (some i) H1 := rfl
theorem rInt {P : Int → Prop} : (∃ k, V.int i = V.int k ∧ P k) = P i := by simp
theorem rK {CX : CXT} {P : Program} {w : World} {mg : Str → Option Value} {base : Heap} {N : List Str} {qual : Str} {scope : Scope} {f : Addr} {cd : Value} {A : Around} {outer : List Env} {s : Shared} {E : XK} : (cxOf CX P w K mg base N qual scope f cd A outer s H E).K = K := rfl
theorem rKn {X : Cx} : X.nox.K = X.K := rfl
theorem rKc {X : Cx} {scope : Scope} {ts : List Str} {cs : List Nat} {C : Addr} {fp : List Addr} {pins : List (Addr × Obj)} {s : Shared} : (cxComp X scope ts cs C fp pins s H).K = X.K := rfl
theorem rIList {tl : TE} {R : It → Hp → Prop} : iList K tl σ H R = tl σ H fun x H1 => ∃ a, x = .ref a ∧ (∃ xs, SqL K H1 a xs) ∧ R (Itl K a) H1 := rfl
theorem rITup {tl : TE} {R : It → Hp → Prop} : iTup K tl σ H R = tl σ H fun x H1 => ∃ a, x = .ref a ∧ (∃ xs, SqT K H1 a xs) ∧ R (Itt K a) H1 := rfl
theorem rIRng1 {a : TA} {R : It → Hp → Prop} : iRng1 a σ H R = a σ H fun vs H1 => ∃ j : Int, vs = [.int j] ∧ -(2 ^ 62) ≤ j ∧ j < 2 ^ 62 ∧ R (Itr 0 j.toNat) H1 := rfl
theorem rd_list {i : Int} (h : H p = some (.lst xs)) (e : atI xs i = some v) (q : Q v H) : rIxL K (.ref p) (.int i) H Q := ⟨p, xs, i, v, rfl, rfl, SqL.of h, e, q⟩
theorem rd_tup {i : Int} (h : H p = some (.tup xs)) (e : atI xs i = some v) (q : Q v H) : rIxT K (.ref p) (.int i) H Q := ⟨p, xs, i, v, rfl, rfl, SqT.of h, e, q⟩
end
noncomputable def CN (caps : St) (P : List V → Hp → Prop) (ys : List V) (σ : St) (H : Hp) : Prop := (∃ t, σ = t :: caps) ∧ P ys H
theorem cn {caps : St} {P : List V → Hp → Prop} {ys : List V} {t : Option V} {H : Hp} (h : P ys H) : CN caps P ys (t :: caps) H := ⟨⟨t, rfl⟩, h⟩
theorem comp_list {K : PySem.W.Frag} {a D : Addr} {xs : List V} {tc : TT} {te : TE} {caps : St} {H1 : Hp} {Q : VK} {o : Option V} (Pv : Nat → List V → Hp → Prop) (h0 : Pv 0 [] H1)
    (hl : ∀ i ys H, i ≤ xs.length → Pv i ys H → SqL K H a xs ∧ H D = some (.lst ys))
    (hs : ∀ i x ys H, xs[i]? = some x → Pv i ys H → tc (some x :: caps) H fun b H5 => if b = true then te (some x :: caps) H5 fun y H6 => H6 D = some (.lst ys) ∧ ys.length < sizeLine ∧ CN caps (Pv (i + 1)) (ys ++ [y]) (some x :: caps) (upd H6 D (.lst (ys ++ [y]))) else CN caps (Pv (i + 1)) ys (some x :: caps) H5)
    (hd : ∀ ys H, Pv xs.length ys H → Q (.ref D) H) : cBody (Itl K a) D (gName 0) tc te (o :: caps) H1 Q := by
  refine ⟨fun i m ys σc H => m = xs.length - i ∧ i ≤ xs.length ∧ CN caps (Pv i) ys σc H, ⟨xs.length, by simp, Nat.zero_le _, ⟨o, rfl⟩, h0⟩, ?_⟩
  rintro i m ys σc H ⟨rfl, hi, ⟨t, rfl⟩, p⟩
  obtain ⟨q, qd⟩ := hl i ys H hi p
  refine ⟨qd, ?_⟩
  by_cases hlt : i < xs.length
  · refine .inr ⟨⟨xs, xs[i], q, by simp [hlt]⟩, CN caps (Pv (i + 1)), fun ys' σ' H' c => ⟨xs.length - (i + 1), by omega, rfl, hlt, c⟩, fun x H' y => ?_⟩
    obtain ⟨e, y⟩ := y
    subst e
    exact hs i x ys _ (y xs q) p
  · have e : i = xs.length := by omega
    subst e
    exact .inl ⟨⟨xs, q, Nat.le_refl _⟩, hd ys H p⟩
theorem comp_range {lo : Int} {n : Nat} {D : Addr} {tc : TT} {te : TE} {caps : St} {H1 : Hp} {Q : VK} {o : Option V} (Pv : Nat → List V → Hp → Prop) (h0 : Pv 0 [] H1)
    (hl : ∀ i ys H, i ≤ n → Pv i ys H → H D = some (.lst ys))
    (hs : ∀ i ys H, i < n → Pv i ys H → tc (some (.int (lo + i)) :: caps) H fun b H5 => if b = true then te (some (.int (lo + i)) :: caps) H5 fun y H6 => H6 D = some (.lst ys) ∧ ys.length < sizeLine ∧ CN caps (Pv (i + 1)) (ys ++ [y]) (some (.int (lo + i)) :: caps) (upd H6 D (.lst (ys ++ [y]))) else CN caps (Pv (i + 1)) ys (some (.int (lo + i)) :: caps) H5)
    (hd : ∀ ys H, Pv n ys H → Q (.ref D) H) : cBody (Itr lo n) D (gName 0) tc te (o :: caps) H1 Q := by
  refine ⟨fun i m ys σc H => m = n - i ∧ i ≤ n ∧ CN caps (Pv i) ys σc H, ⟨n, by simp, Nat.zero_le _, ⟨o, rfl⟩, h0⟩, ?_⟩
  rintro i m ys σc H ⟨rfl, hi, ⟨t, rfl⟩, p⟩
  refine ⟨hl i ys H hi p, ?_⟩
  by_cases hlt : i < n
  · refine .inr ⟨hlt, CN caps (Pv (i + 1)), fun ys' σ' H' c => ⟨n - (i + 1), by omega, rfl, hlt, c⟩, fun x H' y => ?_⟩
    obtain ⟨e, y⟩ := y
    subst e y
    exact hs i ys _ hlt p
  · have e : i = n := by omega
    subst e
    exact .inl ⟨Nat.le_refl _, hd ys H p⟩
theorem rComp {wi : TI} {ts : List Str} {cs : List Nat} {g : TG} {tc : TT} {te : TE} {σ : St} {H : Hp} {Q : VK} : tComp wi ts cs g tc te σ H Q = wi σ H fun J H1 => ∀ D, H1 D = none → cBody J D g tc te (capS σ ts cs) (upd H1 D (.lst [])) Q := rfl
theorem atI_int {α : Type} {xs : List α} {k : Int} {v : α} (h0 : 0 ≤ k) (h : xs[k.toNat]? = some v) : atI xs k = some v := by
  have := atI_nat h
  rw [Int.toNat_of_nonneg h0] at this
  exact this
theorem take_snoc {α : Type} {xs : List α} {i : Nat} {x : α} (h : xs[i]? = some x) : xs.take (i + 1) = xs.take i ++ [x] := by
  rw [List.take_add_one, h]
  rfl
theorem big1000 : 1000 < sizeLine := by decide
theorem comp_gen_list {K : PySem.W.Frag} {a D : Addr} {xs : List V} {tc : TT} {te : TE} {caps : St} {H1 : Hp} {Q : VK} {o : Option V} (p : V → Bool) (f : V → V) (ha : H1 a = some (.lst xs)) (hD : H1 D = none) (hz : xs.length ≤ 1000)
    (hc : ∀ x ∈ xs, ∀ H (Q' : Bool → Hp → Prop), Same H1 H → Q' (p x) H → tc (some x :: caps) H Q') (he : ∀ x ∈ xs, p x = true → ∀ H (Q' : VK), Same H1 H → Q' (f x) H → te (some x :: caps) H Q')
    (hd : Q (.ref D) (upd H1 D (.lst ((xs.filter p).map f)))) : cBody (Itl K a) D (gName 0) tc te (o :: caps) (upd H1 D (.lst [])) Q := by
  have nD : a ≠ D := ne_of_none ha hD
  refine comp_list (xs := xs) (fun i ys H => ys = ((xs.take i).filter p).map f ∧ H = upd H1 D (.lst ys)) ⟨by simp, rfl⟩ ?_ ?_ ?_
  · rintro i ys H _ ⟨rfl, rfl⟩
    exact ⟨SqL.of (by rw [upd_ne nD]; exact ha), upd_same⟩
  · rintro i x ys H hx ⟨rfl, rfl⟩
    have m := List.mem_of_getElem? hx
    have sm : Same H1 (upd H1 D (.lst (((xs.take i).filter p).map f))) := Same.upd_new hD
    refine hc x m _ _ sm ?_
    have hlen : (((xs.take i).filter p).map f).length < sizeLine := by
      rw [List.length_map]
      have h1 := List.length_filter_le p (xs.take i)
      have h2 : (xs.take i).length ≤ xs.length := List.length_take_le' i xs
      have := big1000
      omega
    cases q : p x with
    | true =>
      rw [if_pos rfl]
      refine he x m q _ _ sm ⟨upd_same, hlen, cn ?_⟩
      refine ⟨?_, by rw [upd_upd]⟩
      rw [take_snoc hx, List.filter_append, List.map_append]
      simp [q]
    | false =>
      rw [if_neg Bool.false_ne_true]
      refine cn ⟨?_, rfl⟩
      rw [take_snoc hx, List.filter_append, List.map_append]
      simp [q]
  · rintro ys H ⟨rfl, rfl⟩
    rw [List.take_length]
    exact hd
theorem comp_grow_list {K : PySem.W.Frag} {a D : Addr} {xs : List V} {te : TE} {caps : St} {H1 : Hp} {Q : VK} {o : Option V} (f : V → V) (ha : H1 a = some (.lst xs)) (hD : H1 D = none) (hz : xs.length ≤ 1000)
    (he : ∀ x ∈ xs, ∀ H (Q' : VK), Same H1 H → (∀ H', Same H H' → Q' (f x) H') → te (some x :: caps) H Q')
    (hd : ∀ H', Same H1 H' → H' D = some (.lst (xs.map f)) → Q (.ref D) H') : cBody (Itl K a) D (gName 0) tYes te (o :: caps) (upd H1 D (.lst [])) Q := by
  have nD : a ≠ D := ne_of_none ha hD
  refine comp_list (xs := xs) (fun i ys H => ys = (xs.take i).map f ∧ Same H1 H ∧ H D = some (.lst ys)) ⟨by simp, Same.upd_new hD, upd_same⟩ ?_ ?_ ?_
  · rintro i ys H _ ⟨rfl, s1, hd⟩
    exact ⟨SqL.of (s1 _ _ ha), hd⟩
  · rintro i x ys H hx ⟨rfl, s1, hdd⟩
    unfold tYes
    refine iteT (he x (List.mem_of_getElem? hx) _ _ s1 fun H' s2 => ⟨s2 _ _ hdd, ?_, cn ⟨?_, (s1.trans s2).upd_late hD, upd_same⟩⟩)
    · rw [List.length_map, List.length_take]
      have := big1000
      omega
    · rw [take_snoc hx, List.map_append]
      rfl
  · rintro ys H ⟨rfl, s1, hdd⟩
    rw [List.take_length] at hdd
    exact hd H s1 hdd
theorem comp_map_list {K : PySem.W.Frag} {a D : Addr} {xs : List V} {te : TE} {caps : St} {H1 : Hp} {Q : VK} {o : Option V} (f : V → V) (ha : H1 a = some (.lst xs)) (hD : H1 D = none) (hz : xs.length ≤ 1000)
    (he : ∀ x ∈ xs, ∀ H (Q' : VK), Same H1 H → Q' (f x) H → te (some x :: caps) H Q') (hd : Q (.ref D) (upd H1 D (.lst (xs.map f)))) : cBody (Itl K a) D (gName 0) tYes te (o :: caps) (upd H1 D (.lst [])) Q :=
  comp_gen_list (fun _ => true) f ha hD hz (fun _ _ _ _ _ q => q) (fun x m _ => he x m) (by rw [List.filter_eq_self.mpr fun _ _ => rfl]; exact hd)
theorem comp_filter_list {K : PySem.W.Frag} {a D : Addr} {xs : List V} {tc : TT} {caps : St} {H1 : Hp} {Q : VK} {o : Option V} (p : V → Bool) (ha : H1 a = some (.lst xs)) (hD : H1 D = none) (hz : xs.length ≤ 1000)
    (hc : ∀ x ∈ xs, ∀ H (Q' : Bool → Hp → Prop), Same H1 H → Q' (p x) H → tc (some x :: caps) H Q') (hd : Q (.ref D) (upd H1 D (.lst (xs.filter p)))) : cBody (Itl K a) D (gName 0) tc (tVar 0) (o :: caps) (upd H1 D (.lst [])) Q :=
  comp_gen_list p id ha hD hz hc (fun x _ _ H Q' _ q => by rw [rv0]; exact q) (by rw [List.map_id]; exact hd)
theorem comp_map_range {lo : Int} {n : Nat} {D : Addr} {te : TE} {caps : St} {H1 : Hp} {Q : VK} {o : Option V} (f : Nat → V) (hD : H1 D = none) (hz : n ≤ 1000)
    (he : ∀ i, i < n → ∀ H (Q' : VK), Same H1 H → Q' (f i) H → te (some (.int (lo + i)) :: caps) H Q') (hd : Q (.ref D) (upd H1 D (.lst ((List.range n).map f)))) : cBody (Itr lo n) D (gName 0) tYes te (o :: caps) (upd H1 D (.lst [])) Q := by
  refine comp_range (fun i ys H => ys = (List.range i).map f ∧ H = upd H1 D (.lst ys)) ⟨by simp, rfl⟩ ?_ ?_ ?_
  · rintro i ys H _ ⟨rfl, rfl⟩
    exact upd_same
  · rintro i ys H hi ⟨rfl, rfl⟩
    unfold tYes
    refine iteT ?_
    refine he i hi _ _ (Same.upd_new hD) ⟨upd_same, ?_, cn ⟨?_, by rw [upd_upd]⟩⟩
    · rw [List.length_map, List.length_range]
      have := big1000
      omega
    · rw [List.range_succ, List.map_append]
      rfl
  · rintro ys H ⟨rfl, rfl⟩
    exact hd
end L2
namespace L2
open PySem PySem.Spec PyProof.Rows
theorem rChain {r r' : R2} {ta tb tc : TE} {σ : St} {H : Hp} {Q : VK} : tChain r r' ta tb tc σ H Q = ta σ H fun x H1 => tb σ H1 fun y H2 => r x y H2 fun z H3 => ∃ k, z = .bl k ∧ (if k = true then tc σ H3 fun w' H4 => r' y w' H4 Q else Q (.bl false) H3) := rfl
theorem ropes_at {H : Hp} {rs : List (Int × Int × Int)} {xs : List V} {k : Int} (h : Reps H (rs.map ropeD) xs) (h0 : 0 ≤ k) (h1 : k < rs.length) :
    ∃ p, atI xs k = some (.ref p) ∧ H p = some (.tup [.int (rs.getD k.toNat (0, 0, 0)).1, .int (rs.getD k.toNat (0, 0, 0)).2.1, .int (rs.getD k.toNat (0, 0, 0)).2.2]) := by
  have hi : k.toNat < rs.length := by omega
  obtain ⟨x, e1, e2⟩ := h.get (i := k.toNat) (d := ropeD rs[k.toNat]) (by rw [List.getElem?_map, List.getElem?_eq_getElem hi]; rfl)
  obtain ⟨p, rfl, hp⟩ := rep_rope.mp e2
  refine ⟨p, atI_int h0 e1, ?_⟩
  rw [List.getD_eq_getElem?_getD, List.getElem?_eq_getElem hi]
  exact hp
end L2
namespace RT
inductive Conn (es : List (Int × Int)) : Int → Int → Prop
  | refl (a : Int) : Conn es a a
  | step {a b c : Int} : Conn es a b → ((b, c) ∈ es ∨ (c, b) ∈ es) → Conn es a c
section
variable {es fs : List (Int × Int)} {a b c x y z : Int}
theorem Conn.edge (h : (a, b) ∈ es) : Conn es a b := .step (.refl a) (.inl h)
theorem Conn.trans (h : Conn es a b) (k : Conn es b c) : Conn es a c := by
  induction k with
  | refl => exact h
  | step _ e ih => exact .step ih e
theorem Conn.symm (h : Conn es a b) : Conn es b a := by
  induction h with
  | refl => exact .refl _
  | step _ e ih => exact Conn.trans (.step (.refl _) e.symm) ih
theorem Conn.mono (s : ∀ e, e ∈ es → e ∈ fs) (h : Conn es a b) : Conn fs a b := by
  induction h with
  | refl => exact .refl _
  | step _ e ih => exact .step ih (e.imp (s _) (s _))
theorem conn_nil : Conn [] x y ↔ x = y := by
  constructor
  · intro h
    cases h with
    | refl => rfl
    | step _ e => rcases e with e | e <;> exact absurd e (by simp)
  · rintro rfl
    exact .refl _
theorem conn_cons : Conn ((a, b) :: es) x y ↔ Conn es x y ∨ (Conn es x a ∧ Conn es b y) ∨ (Conn es x b ∧ Conn es a y) := by
  constructor
  · intro h
    induction h with
    | refl => exact .inl (.refl _)
    | @step q r h' e ih =>
      have key : (q = a ∧ r = b) ∨ (q = b ∧ r = a) ∨ Conn es q r := by
        rcases e with e | e
        · rcases List.mem_cons.mp e with e | e
          · injection e with e1 e2
            exact .inl ⟨e1, e2⟩
          · exact .inr (.inr (Conn.edge e))
        · rcases List.mem_cons.mp e with e | e
          · injection e with e1 e2
            exact .inr (.inl ⟨e2, e1⟩)
          · exact .inr (.inr (Conn.edge e).symm)
      rcases key with ⟨rfl, rfl⟩ | ⟨rfl, rfl⟩ | k
      · rcases ih with i | ⟨i, j⟩ | ⟨i, j⟩
        · exact .inr (.inl ⟨i, .refl _⟩)
        · exact .inr (.inl ⟨i, .refl _⟩)
        · exact .inl i
      · rcases ih with i | ⟨i, j⟩ | ⟨i, j⟩
        · exact .inr (.inr ⟨i, .refl _⟩)
        · exact .inl i
        · exact .inr (.inr ⟨i, .refl _⟩)
      · rcases ih with i | ⟨i, j⟩ | ⟨i, j⟩
        · exact .inl (i.trans k)
        · exact .inr (.inl ⟨i, j.trans k⟩)
        · exact .inr (.inr ⟨i, j.trans k⟩)
  · have up : ∀ {p q : Int}, Conn es p q → Conn ((a, b) :: es) p q := fun h => h.mono fun _ m => List.mem_cons.mpr (.inr m)
    have e : Conn ((a, b) :: es) a b := Conn.edge (List.mem_cons.mpr (.inl rfl))
    rintro (h | ⟨h, k⟩ | ⟨h, k⟩)
    · exact up h
    · exact ((up h).trans e).trans (up k)
    · exact ((up h).trans e.symm).trans (up k)
theorem conn_cons_same (h : Conn es a b) : Conn ((a, b) :: es) x y ↔ Conn es x y := by
  rw [conn_cons]
  constructor
  · rintro (k | ⟨k, l⟩ | ⟨k, l⟩)
    · exact k
    · exact (k.trans h).trans l
    · exact (k.trans h.symm).trans l
  · exact .inl
theorem conn_snoc : Conn (es ++ [(a, b)]) x y ↔ Conn ((a, b) :: es) x y := by
  constructor <;> exact Conn.mono fun e m => by simp at m ⊢; exact m.symm
theorem conn_congr (s : ∀ e, e ∈ es ↔ e ∈ fs) : Conn es x y ↔ Conn fs x y := ⟨Conn.mono fun e m => (s e).mp m, Conn.mono fun e m => (s e).mpr m⟩
end
noncomputable def First (es : List (Int × Int)) (a : Nat) : Prop := ∀ b : Nat, b < a → ¬ Conn es (b : Int) (a : Int)
noncomputable instance firstDec (es : List (Int × Int)) (a : Nat) : Decidable (First es a) := Classical.propDecidable _
noncomputable def comps (n : Nat) (es : List (Int × Int)) : Nat :=
  ((List.range n).filter fun a => decide (First es a)).length
theorem filter_len_le {α : Type} {p q : α → Bool} : ∀ {l : List α}, (∀ x ∈ l, p x = true → q x = true) → (l.filter p).length ≤ (l.filter q).length
  | [], _ => Nat.le_refl _
  | x :: l, h => by
    have ih := filter_len_le (l := l) fun y m => h y (List.mem_cons.mpr (.inr m))
    have hx := h x (List.mem_cons.mpr (.inl rfl))
    rw [List.filter_cons, List.filter_cons]
    by_cases e : p x = true
    · rw [if_pos e, if_pos (hx e)]
      simp only [List.length_cons]; omega
    · rw [if_neg e]
      split
      · simp only [List.length_cons]; omega
      · exact ih
theorem filter_len_eq {α : Type} {p q : α → Bool} {l : List α} (h : ∀ x ∈ l, p x = q x) : (l.filter p).length = (l.filter q).length :=
  Nat.le_antisymm (filter_len_le fun x m e => (h x m) ▸ e) (filter_len_le fun x m e => (h x m).symm ▸ e)
theorem filter_len_one {α : Type} {p q : α → Bool} {k : α} : ∀ {l : List α}, l.Nodup → k ∈ l → p k = true → q k = false → (∀ x ∈ l, x ≠ k → p x = q x) → (l.filter p).length = (l.filter q).length + 1
  | [], _, m, _, _, _ => absurd m (by simp)
  | x :: l, nd, m, hp, hq, h => by
    obtain ⟨n1, n2⟩ := List.nodup_cons.mp nd
    rw [List.filter_cons, List.filter_cons]
    by_cases e : x = k
    · subst e
      rw [if_pos hp, if_neg (by rw [hq]; decide)]
      have := filter_len_eq (p := p) (q := q) (l := l) fun y my => h y (List.mem_cons.mpr (.inr my)) fun z => n1 (z ▸ my)
      simp only [List.length_cons]; omega
    · have mk : k ∈ l := (List.mem_cons.mp m).resolve_left fun z => e z.symm
      have ih := filter_len_one (l := l) n2 mk hp hq fun y my ne => h y (List.mem_cons.mpr (.inr my)) ne
      rw [h x (List.mem_cons.mpr (.inl rfl)) e]
      split
      · simp only [List.length_cons]; omega
      · exact ih
section
variable {n : Nat} {es fs : List (Int × Int)} {a b : Int}
theorem comps_anti (h : ∀ x y, Conn es x y → Conn fs x y) : comps n fs ≤ comps n es := by
  unfold comps
  refine filter_len_le fun x _ e => ?_
  have e := of_decide_eq_true e
  exact decide_eq_true fun b hb c => e b hb (h _ _ c)
theorem comps_congr (h : ∀ x y, Conn es x y ↔ Conn fs x y) : comps n es = comps n fs :=
  Nat.le_antisymm (comps_anti fun x y => (h x y).mpr) (comps_anti fun x y => (h x y).mp)
theorem comps_nil : comps n [] = n := by
  unfold comps
  rw [List.filter_eq_self.mpr, List.length_range]
  intro x _
  exact decide_eq_true fun b hb c => by
    have := conn_nil.mp c
    omega
theorem least_of {P : Nat → Prop} : ∀ {m : Nat}, P m → ∃ k, P k ∧ k ≤ m ∧ ∀ j, j < k → ¬ P j := by
  intro m
  induction m using Nat.strongRecOn with
  | _ m ih =>
    intro hm
    by_cases h : ∃ j, j < m ∧ P j
    · obtain ⟨j, hj, pj⟩ := h
      obtain ⟨k, pk, kj, lk⟩ := ih j hj pj
      exact ⟨k, pk, by omega, lk⟩
    · exact ⟨m, hm, Nat.le_refl _, fun j hj pj => h ⟨j, hj, pj⟩⟩
theorem comps_join (ha : 0 ≤ a ∧ a < n) (hb : 0 ≤ b ∧ b < n) (h : ¬ Conn es a b) : comps n es = comps n ((a, b) :: es) + 1 := by
  obtain ⟨k, c1, k1, l1⟩ := least_of (P := fun j : Nat => Conn es (j : Int) a) (m := a.toNat) (by rw [Int.toNat_of_nonneg ha.1]; exact .refl _)
  obtain ⟨l, c2, k2, l2⟩ := least_of (P := fun j : Nat => Conn es (j : Int) b) (m := b.toNat) (by rw [Int.toNat_of_nonneg hb.1]; exact .refl _)
  have ne : k ≠ l := fun e => h (c1.symm.trans (e ▸ c2))
  have first1 : ∀ j : Nat, j < k → ¬ Conn es (j : Int) (k : Int) := fun j hj c => l1 j hj (c.trans c1)
  have first2 : ∀ j : Nat, j < l → ¬ Conn es (j : Int) (l : Int) := fun j hj c => l2 j hj (c.trans c2)
  have joined : Conn ((a, b) :: es) (k : Int) (l : Int) := conn_cons.mpr (.inr (.inl ⟨c1, c2.symm⟩))
  unfold comps
  refine filter_len_one (k := max k l) List.nodup_range (List.mem_range.mpr (by omega)) ?_ ?_ ?_
  · refine decide_eq_true fun j hj c => ?_
    rcases Nat.lt_or_gt_of_ne ne with q | q
    · rw [Nat.max_eq_right (Nat.le_of_lt q)] at hj c
      exact first2 j hj c
    · rw [Nat.max_eq_left (Nat.le_of_lt q)] at hj c
      exact first1 j hj c
  · refine decide_eq_false fun f => ?_
    rcases Nat.lt_or_gt_of_ne ne with q | q
    · rw [Nat.max_eq_right (Nat.le_of_lt q)] at f
      exact f k q joined
    · rw [Nat.max_eq_left (Nat.le_of_lt q)] at f
      exact f l q joined.symm
  · intro x _ nx
    have : First es x ↔ First ((a, b) :: es) x := by
      constructor
      · intro f j hj c
        rcases conn_cons.mp c with c | ⟨d1, d2⟩ | ⟨d1, d2⟩
        · exact f j hj c
        · have e1 : k ≤ j := Nat.le_of_not_lt fun q => l1 j q d1
          have e2 : l ≤ x := Nat.le_of_not_lt fun q => l2 x q d2.symm
          have e3 : ¬ l < x := fun q => f l q (c2.trans d2)
          exact nx (by omega)
        · have e1 : l ≤ j := Nat.le_of_not_lt fun q => l2 j q d1
          have e2 : k ≤ x := Nat.le_of_not_lt fun q => l1 x q d2.symm
          have e3 : ¬ k < x := fun q => f k q (c1.trans d2)
          exact nx (by omega)
      · intro f j hj c
        exact f j hj (conn_cons.mpr (.inl c))
    simp only [this]
end
noncomputable def Forest : List (Int × Int) → Prop
  | [] => True
  | e :: es => ¬ Conn es e.1 e.2 ∧ Forest es
noncomputable def Valid (n : Nat) (es : List (Int × Int)) : Prop := ∀ e ∈ es, (0 ≤ e.1 ∧ e.1 < n) ∧ 0 ≤ e.2 ∧ e.2 < n
section
variable {n : Nat} {es fs : List (Int × Int)}
theorem comps_le : ∀ {es : List (Int × Int)}, Valid n es → n ≤ comps n es + es.length
  | [], _ => by rw [comps_nil]; exact Nat.le_refl _
  | (a, b) :: es, v => by
    have ih := comps_le (es := es) fun e m => v e (List.mem_cons.mpr (.inr m))
    have va := v (a, b) (List.mem_cons.mpr (.inl rfl))
    by_cases c : Conn es a b
    · have := comps_congr (n := n) fun x y => conn_cons_same (x := x) (y := y) c
      simp only [List.length_cons]; omega
    · have : comps n es = comps n ((a, b) :: es) + 1 := comps_join (n := n) va.1 va.2 c
      simp only [List.length_cons]; omega
theorem forest_iff : ∀ {es : List (Int × Int)}, Valid n es → (Forest es ↔ comps n es + es.length = n)
  | [], _ => by rw [comps_nil]; exact ⟨fun _ => rfl, fun _ => trivial⟩
  | (a, b) :: es, v => by
    have v' : Valid n es := fun e m => v e (List.mem_cons.mpr (.inr m))
    have ih := forest_iff (es := es) v'
    have le := comps_le (n := n) v'
    have va := v (a, b) (List.mem_cons.mpr (.inl rfl))
    unfold Forest
    by_cases c : Conn es a b
    · have := comps_congr (n := n) fun x y => conn_cons_same (x := x) (y := y) c
      simp only [List.length_cons]
      exact ⟨fun h => absurd c h.1, fun h => by omega⟩
    · have : comps n es = comps n ((a, b) :: es) + 1 := comps_join (n := n) va.1 va.2 c
      simp only [List.length_cons]
      exact ⟨fun h => by have := ih.mp h.2; omega, fun h => ⟨c, ih.mpr (by omega)⟩⟩
end
end RT
namespace RT
noncomputable abbrev Rope := Int × Int × Int
noncomputable def rp (ropes : List Rope) (k : Int) : Rope := ropes.getD k.toNat (0, 0, 0)
noncomputable def e1 (ropes : List Rope) (k : Int) : Int × Int := ((rp ropes k).1, (rp ropes k).2.1)
noncomputable def ed (ropes : List Rope) (ns : List Int) : List (Int × Int) := ns.map (e1 ropes)
noncomputable def Okr (n : Nat) (ropes : List Rope) : Prop := ∀ r ∈ ropes, (0 ≤ r.1 ∧ r.1 < n) ∧ 0 ≤ r.2.1 ∧ r.2.1 < n
noncomputable def Okn (ropes : List Rope) (ns : List Int) : Prop := ∀ k ∈ ns, 0 ≤ k ∧ k < ropes.length
noncomputable def lab (g : List Int) (x : Int) : Int := g.getD x.toNat 0
noncomputable def relab (g : List Int) (p q : Int) : List Int := g.map fun x => if x = p then q else x
noncomputable def iota (n : Nat) : List Int := (List.range n).map fun i : Nat => (i : Int)
noncomputable def tstep (d : Bool) (ropes : List Rope) (st : List Int × List Int) (k : Int) : List Int × List Int :=
  if lab st.1 (rp ropes k).1 ≠ lab st.1 (rp ropes k).2.1 then
    (if d then relab st.1 (lab st.1 (rp ropes k).2.1) (lab st.1 (rp ropes k).1) else relab st.1 (lab st.1 (rp ropes k).1) (lab st.1 (rp ropes k).2.1), st.2 ++ [k])
  else st
noncomputable def run (d : Bool) (n : Nat) (ropes : List Rope) (order : List Int) : List Int × List Int := order.foldl (tstep d ropes) (iota n, [])
noncomputable def take (d : Bool) (n : Nat) (ropes : List Rope) (order : List Int) : List Int := (run d n ropes order).2
structure Lab (n : Nat) (g : List Int) (es : List (Int × Int)) : Prop where
  len : g.length = n
  iff : ∀ x y : Int, 0 ≤ x → x < n → 0 ≤ y → y < n → (lab g x = lab g y ↔ Conn es x y)
section
variable {n : Nat} {ropes : List Rope} {ns ms : List Int} {g : List Int} {es : List (Int × Int)} {a b p q : Int} {d : Bool}
theorem ed_snoc {k : Int} : ed ropes (ns ++ [k]) = ed ropes ns ++ [e1 ropes k] := List.map_append
theorem rp_mem {k : Int} (h : 0 ≤ k ∧ k < ropes.length) : rp ropes k ∈ ropes := by
  unfold rp
  have : k.toNat < ropes.length := by omega
  rw [List.getD_eq_getElem?_getD, List.getElem?_eq_getElem this]
  exact List.getElem_mem this
theorem Okr.at (v : Okr n ropes) {k : Int} (h : 0 ≤ k ∧ k < ropes.length) : (0 ≤ (rp ropes k).1 ∧ (rp ropes k).1 < n) ∧ 0 ≤ (rp ropes k).2.1 ∧ (rp ropes k).2.1 < n := v _ (rp_mem h)
theorem valid_ed (v : Okr n ropes) (h : Okn ropes ns) : Valid n (ed ropes ns) := fun e m => by
  obtain ⟨k, mk, rfl⟩ := List.mem_map.mp m
  exact v.at (h k mk)
theorem lab_eq {x : Int} (h0 : 0 ≤ x) (h1 : x < g.length) : g[x.toNat]? = some (lab g x) := by
  unfold lab
  have : x.toNat < g.length := by omega
  rw [List.getD_eq_getElem?_getD, List.getElem?_eq_getElem this]
  rfl
theorem lab_relab {x : Int} (h0 : 0 ≤ x) (h1 : x < g.length) : lab (relab g p q) x = if lab g x = p then q else lab g x := by
  have e := lab_eq (g := g) h0 h1
  show (relab g p q).getD x.toNat 0 = _
  unfold relab
  rw [List.getD_eq_getElem?_getD, List.getElem?_map, e]
  rfl
theorem lab_iota {x : Int} (h0 : 0 ≤ x) (h1 : x < n) : lab (iota n) x = x := by
  unfold lab iota
  have : x.toNat < n := by omega
  rw [List.getD_eq_getElem?_getD, List.getElem?_map, List.getElem?_range this]
  show ((x.toNat : Nat) : Int) = x
  omega
theorem Lab.init : Lab n (iota n) [] := ⟨by simp [iota], fun x y h0 h1 k0 k1 => by rw [lab_iota h0 h1, lab_iota k0 k1, conn_nil]⟩
theorem Lab.congr {fs : List (Int × Int)} (L : Lab n g es) (h : ∀ x y, Conn es x y ↔ Conn fs x y) : Lab n g fs :=
  ⟨L.len, fun x y h0 h1 k0 k1 => (L.iff x y h0 h1 k0 k1).trans (h x y)⟩
theorem Lab.join (L : Lab n g es) (ha : 0 ≤ a ∧ a < n) (hb : 0 ≤ b ∧ b < n) (ne : lab g a ≠ lab g b) : Lab n (relab g (lab g a) (lab g b)) ((a, b) :: es) := by
  refine ⟨by rw [relab, List.length_map]; exact L.len, fun x y h0 h1 k0 k1 => ?_⟩
  have hl : (g.length : Int) = n := by rw [L.len]
  rw [lab_relab h0 (by omega), lab_relab k0 (by omega), conn_cons]
  rw [← L.iff x y h0 h1 k0 k1, ← L.iff x a h0 h1 ha.1 ha.2, ← L.iff b y hb.1 hb.2 k0 k1, ← L.iff x b h0 h1 hb.1 hb.2, ← L.iff a y ha.1 ha.2 k0 k1]
  generalize lab g a = A at *
  generalize lab g b = B at *
  generalize lab g x = X at *
  generalize lab g y = Y at *
  split <;> split <;> omega
theorem conn_swap : ∀ {x y : Int}, Conn ((a, b) :: es) x y ↔ Conn ((b, a) :: es) x y := by
  intro x y
  rw [conn_cons, conn_cons]
  constructor <;> rintro (h | h | h) <;> simp [h]
theorem Lab.joinD (L : Lab n g es) (ha : 0 ≤ a ∧ a < n) (hb : 0 ≤ b ∧ b < n) (ne : lab g a ≠ lab g b) : Lab n (if d then relab g (lab g b) (lab g a) else relab g (lab g a) (lab g b)) ((a, b) :: es) := by
  split
  · exact (L.join hb ha ne.symm).congr fun _ _ => conn_swap
  · exact L.join ha hb ne
theorem forest_snoc {e : Int × Int} (v : Valid n (e :: es)) : Forest (es ++ [e]) ↔ Forest (e :: es) := by
  have v' : Valid n (es ++ [e]) := fun z m => v z (by simp at m ⊢; exact m.symm)
  rw [forest_iff v, forest_iff v', comps_congr (n := n) (fs := e :: es) fun x y => conn_snoc]
  simp
structure Took (n : Nat) (ropes : List Rope) (pre : List Int) (st : List Int × List Int) : Prop where
  lb : Lab n st.1 (ed ropes st.2)
  fo : Forest (ed ropes st.2)
  sp : ∀ x y, Conn (ed ropes st.2) x y ↔ Conn (ed ropes pre) x y
  sub : st.2.Sublist pre
theorem Took.init : Took n ropes [] (iota n, []) := ⟨Lab.init, trivial, fun _ _ => Iff.rfl, List.Sublist.refl _⟩
theorem conn_snoc_congr {fs : List (Int × Int)} {e : Int × Int} (h : ∀ x y, Conn es x y ↔ Conn fs x y) (x y : Int) : Conn (es ++ [e]) x y ↔ Conn (fs ++ [e]) x y := by
  obtain ⟨a, b⟩ := e
  rw [conn_snoc, conn_snoc, conn_cons, conn_cons, h, h, h, h, h]
theorem Took.step {pre : List Int} {st : List Int × List Int} {k : Int} (v : Okr n ropes) (hp : Okn ropes pre) (hk : 0 ≤ k ∧ k < ropes.length) (T : Took n ropes pre st) : Took n ropes (pre ++ [k]) (tstep d ropes st k) := by
  obtain ⟨va, vb⟩ := v.at hk
  have ok2 : Okn ropes st.2 := fun j m => hp j (T.sub.subset m)
  unfold tstep
  split
  · rename_i ne
    have nc : ¬ Conn (ed ropes st.2) (rp ropes k).1 (rp ropes k).2.1 := fun c => ne ((T.lb.iff _ _ va.1 va.2 vb.1 vb.2).mpr c)
    have vv : Valid n (e1 ropes k :: ed ropes st.2) := fun e m => by
      rcases List.mem_cons.mp m with rfl | m
      · exact ⟨va, vb⟩
      · exact valid_ed v ok2 e m
    refine ⟨?_, ?_, ?_, ?_⟩
    · show Lab n _ (ed ropes (st.2 ++ [k]))
      rw [ed_snoc]
      exact (T.lb.joinD va vb ne).congr fun _ _ => conn_snoc.symm
    · show Forest (ed ropes (st.2 ++ [k]))
      rw [ed_snoc, forest_snoc vv]
      exact ⟨nc, T.fo⟩
    · intro x y
      show Conn (ed ropes (st.2 ++ [k])) x y ↔ _
      rw [ed_snoc, ed_snoc]
      exact conn_snoc_congr T.sp x y
    · exact List.Sublist.append T.sub (List.Sublist.refl _)
  · rename_i ne
    have eq : lab st.1 (rp ropes k).1 = lab st.1 (rp ropes k).2.1 := Classical.byContradiction ne
    have c := (T.lb.iff _ _ va.1 va.2 vb.1 vb.2).mp eq
    refine ⟨T.lb, T.fo, fun x y => ?_, T.sub.trans (List.sublist_append_left _ _)⟩
    rw [ed_snoc, ← conn_snoc_congr T.sp]
    show _ ↔ Conn (ed ropes st.2 ++ [((rp ropes k).1, (rp ropes k).2.1)]) x y
    rw [conn_snoc, conn_cons_same c]
theorem Took.go (v : Okr n ropes) : ∀ {ks pre : List Int} {st : List Int × List Int}, Okn ropes pre → Okn ropes ks → Took n ropes pre st → Took n ropes (pre ++ ks) (ks.foldl (tstep d ropes) st)
  | [], pre, st, _, _, T => by rw [List.append_nil]; exact T
  | k :: ks, pre, st, hp, hk, T => by
    have h1 := hk k (List.mem_cons.mpr (.inl rfl))
    have T1 := T.step (d := d) v hp h1
    have ok1 : Okn ropes (pre ++ [k]) := fun j m => by
      rcases List.mem_append.mp m with m | m
      · exact hp j m
      · rw [List.mem_singleton.mp m]; exact h1
    have := Took.go v (ks := ks) ok1 (fun j m => hk j (List.mem_cons.mpr (.inr m))) T1
    rw [List.append_assoc] at this
    exact this
theorem took (v : Okr n ropes) (h : Okn ropes ns) : Took n ropes ns (run d n ropes ns) := by
  have := Took.go (d := d) v (ks := ns) (pre := []) (fun _ m => absurd m (by simp)) h Took.init
  exact this
theorem take_sub (v : Okr n ropes) (h : Okn ropes ns) : (take d n ropes ns).Sublist ns := (took v h).sub
theorem take_okn (v : Okr n ropes) (h : Okn ropes ns) : Okn ropes (take d n ropes ns) := fun k m => h k ((take_sub v h).subset m)
theorem take_len (v : Okr n ropes) (h : Okn ropes ns) : comps n (ed ropes ns) + (take d n ropes ns).length = n := by
  have T := took (d := d) v h
  have f := (forest_iff (n := n) (valid_ed v (take_okn v h))).mp T.fo
  rw [← comps_congr (n := n) T.sp, ← List.length_map (f := e1 ropes) (as := take d n ropes ns)]
  exact f
noncomputable def all (ropes : List Rope) : List Int := iota ropes.length
theorem okn_all : Okn ropes (all ropes) := fun k m => by
  obtain ⟨i, mi, rfl⟩ := List.mem_map.mp m
  have := List.mem_range.mp mi
  exact ⟨by omega, by omega⟩
theorem mem_all {k : Int} : k ∈ all ropes ↔ 0 ≤ k ∧ k < ropes.length := by
  refine ⟨okn_all k, fun h => List.mem_map.mpr ⟨k.toNat, List.mem_range.mpr (by omega), by omega⟩⟩
theorem ed_sub_all (h : Okn ropes ns) : ∀ e, e ∈ ed ropes ns → e ∈ ed ropes (all ropes) := fun e m => by
  obtain ⟨k, mk, rfl⟩ := List.mem_map.mp m
  exact List.mem_map.mpr ⟨k, mem_all.mpr (h k mk), rfl⟩
structure Tree (n : Nat) (ropes : List Rope) (ns : List Int) : Prop where
  ok : Okn ropes ns
  fo : Forest (ed ropes ns)
  sp : ∀ x y, Conn (ed ropes (all ropes)) x y → Conn (ed ropes ns) x y
theorem Tree.len (v : Okr n ropes) (T : Tree n ropes ns) : ns.length = (take d n ropes (all ropes)).length := by
  have L := take_len (d := d) v (okn_all (ropes := ropes))
  have f := (forest_iff (n := n) (valid_ed v T.ok)).mp T.fo
  have c := comps_congr (n := n) (es := ed ropes ns) (fs := ed ropes (all ropes)) fun x y => ⟨Conn.mono (ed_sub_all T.ok), T.sp x y⟩
  have : (ed ropes ns).length = ns.length := List.length_map ..
  omega
end
end RT
namespace RT
noncomputable def has (G : List (List Int)) (x : Int) : List (List Int) := G.filter fun g => g.contains x
structure Grp (n : Nat) (G : List (List Int)) (es : List (Int × Int)) : Prop where
  ok : ∀ g ∈ G, ∀ x ∈ g, 0 ≤ x ∧ x < n
  cov : ∀ x : Int, 0 ≤ x → x < n → ∃ g ∈ G, x ∈ g
  cls : ∀ g ∈ G, ∀ x ∈ g, ∀ y : Int, 0 ≤ y → y < n → (y ∈ g ↔ Conn es x y)
  un : ∀ g ∈ G, ∀ h ∈ G, ∀ x, x ∈ g → x ∈ h → g = h
  nd : G.Nodup
section
variable {n : Nat} {ropes : List Rope} {ns ms : List Int} {G : List (List Int)} {es : List (Int × Int)} {x y : Int}
end
end RT
namespace RT
noncomputable def cost (ropes : List Rope) (k : Int) : Int := (rp ropes k).2.2
noncomputable def Chp (ropes : List Rope) (i j : Int) : Prop := cost ropes i < cost ropes j ∨ (cost ropes i = cost ropes j ∧ i < j)
structure Ord (ropes : List Rope) (order : List Int) : Prop where
  mem : ∀ k, k ∈ order ↔ 0 ≤ k ∧ k < ropes.length
  srt : order.Pairwise (Chp ropes)
section
variable {n : Nat} {ropes : List Rope} {ns ms order : List Int} {i j k : Int} {d : Bool}
theorem Chp.irr : ¬ Chp ropes i i := by unfold Chp; omega
theorem Chp.trans (h : Chp ropes i j) (h' : Chp ropes j k) : Chp ropes i k := by unfold Chp at *; omega
theorem Chp.tri (h : i ≠ j) : Chp ropes i j ∨ Chp ropes j i := by unfold Chp; omega
theorem Ord.nodup (O : Ord ropes order) : order.Nodup := O.srt.imp fun h e => by subst e; exact Chp.irr h
theorem Ord.okn (O : Ord ropes order) : Okn ropes order := fun k m => (O.mem k).mp m
theorem take_tree (v : Okr n ropes) (h : Okn ropes ns) (hall : ∀ k : Int, 0 ≤ k → k < ropes.length → k ∈ ns) : Tree n ropes (take d n ropes ns) := by
  have T := took (d := d) v h
  refine ⟨take_okn v h, T.fo, fun x y c => (T.sp x y).mpr (c.mono fun e m => ?_)⟩
  obtain ⟨k, mk, rfl⟩ := List.mem_map.mp m
  have := mem_all.mp mk
  exact List.mem_map.mpr ⟨k, hall k this.1 this.2, rfl⟩
noncomputable def wo (ns : List Int) (e : Int) : List Int := ns.filter fun k => k != e
theorem mem_wo {e : Int} : k ∈ wo ns e ↔ k ∈ ns ∧ k ≠ e := by
  unfold wo
  rw [List.mem_filter, bne_iff_ne]
end
end RT
namespace RT
noncomputable def sumC (ropes : List Rope) (ns : List Int) : Int := (ns.map (cost ropes)).sum
section
variable {n : Nat} {ropes : List Rope} {ns ms order : List Int} {d : Bool}
theorem forest_nodup (v : Okr n ropes) : ∀ {ns : List Int}, Okn ropes ns → Forest (ed ropes ns) → ns.Nodup
  | [], _, _ => List.nodup_nil
  | k :: ns, ok, f => by
    have f : ¬ Conn (ed ropes ns) (rp ropes k).1 (rp ropes k).2.1 ∧ Forest (ed ropes ns) := f
    refine List.nodup_cons.mpr ⟨fun m => f.1 (Conn.edge (List.mem_map.mpr ⟨k, m, rfl⟩)), forest_nodup v (fun j m => ok j (List.mem_cons.mpr (.inr m))) f.2⟩
theorem Tree.nodup (v : Okr n ropes) (T : Tree n ropes ns) : ns.Nodup := forest_nodup v T.ok T.fo
end
end RT
namespace RT
section
variable {n : Nat} {ropes : List Rope} {ns : List Int} {G : List (List Int)} {k : Int}
end
end RT
namespace RT
theorem count_le {p q : Nat → Bool} : ∀ {l : List Nat}, (∀ x ∈ l, p x = true → q x = true) → l.countP p ≤ l.countP q
  | [], _ => Nat.le_refl _
  | x :: l, h => by
    have ih := count_le (l := l) fun y m => h y (List.mem_cons_of_mem _ m)
    rw [List.countP_cons, List.countP_cons]
    cases hp : p x with
    | false => simp only [Bool.false_eq_true, if_false]; omega
    | true => rw [h x List.mem_cons_self hp]; omega
theorem count_lt {p q : Nat → Bool} {a : Nat} : ∀ {l : List Nat}, (∀ x ∈ l, p x = true → q x = true) → a ∈ l → p a = false → q a = true → l.countP p < l.countP q
  | x :: l, h, m, hp, hq => by
    rw [List.countP_cons, List.countP_cons]
    have le := count_le (l := l) fun y m => h y (List.mem_cons_of_mem _ m)
    rcases List.mem_cons.mp m with rfl | m
    · rw [hp, hq]
      simp only [Bool.false_eq_true, if_false, if_true]
      omega
    · have ih := count_lt (l := l) (fun y m => h y (List.mem_cons_of_mem _ m)) m hp hq
      cases hx : p x with
      | false => simp only [Bool.false_eq_true, if_false]; omega
      | true => rw [h x List.mem_cons_self hx]; omega
noncomputable def chpB (ropes : List Rope) (i j : Nat) : Bool := decide (cost ropes i < cost ropes j ∨ (cost ropes i = cost ropes j ∧ i < j))
theorem chpB_iff {ropes : List Rope} {i j : Nat} : chpB ropes i j = true ↔ Chp ropes i j := by
  unfold chpB Chp
  rw [decide_eq_true_iff]
  omega
noncomputable def rank (ropes : List Rope) (i : Nat) : Int := ((List.range ropes.length).countP fun j => chpB ropes j i : Nat)
theorem rank_lt {ropes : List Rope} {i j : Nat} (hi : i < ropes.length) (h : Chp ropes i j) : rank ropes i < rank ropes j := by
  unfold rank
  have : (List.range ropes.length).countP (fun x => chpB ropes x i) < (List.range ropes.length).countP (fun x => chpB ropes x j) := by
    refine count_lt (a := i) (fun x _ e => chpB_iff.mpr ((chpB_iff.mp e).trans h)) (List.mem_range.mpr hi) ?_ (chpB_iff.mpr h)
    cases e : chpB ropes i i with
    | false => rfl
    | true => exact absurd (chpB_iff.mp e) Chp.irr
  omega
theorem rank_iff {ropes : List Rope} {i j : Nat} (hi : i < ropes.length) (hj : j < ropes.length) : rank ropes i < rank ropes j ↔ Chp ropes i j := by
  refine ⟨fun h => ?_, rank_lt hi⟩
  by_cases e : i = j
  · subst e; omega
  · rcases Chp.tri (ropes := ropes) (i := (i : Int)) (j := (j : Int)) (by omega) with z | z
    · exact z
    · have := rank_lt hj z
      omega
theorem rank_inj {ropes : List Rope} {i j : Nat} (hi : i < ropes.length) (hj : j < ropes.length) (e : rank ropes i = rank ropes j) : i = j := by
  refine Classical.byContradiction fun ne => ?_
  rcases Chp.tri (ropes := ropes) (i := (i : Int)) (j := (j : Int)) (by omega) with z | z
  · have := rank_lt hi z
    omega
  · have := rank_lt hj z
    omega
theorem ord_of {ropes : List Rope} {os : List Nat} (hp : os.Perm (List.range ropes.length)) (hs : os.Pairwise fun i j => rank ropes i < rank ropes j) : Ord ropes (os.map fun i : Nat => (i : Int)) where
  mem := fun k => by
    rw [List.mem_map]
    constructor
    · rintro ⟨i, m, rfl⟩
      have := List.mem_range.mp (hp.mem_iff.mp m)
      omega
    · rintro ⟨h1, h2⟩
      exact ⟨k.toNat, hp.mem_iff.mpr (List.mem_range.mpr (by omega)), by omega⟩
  srt := by
    rw [List.pairwise_map]
    refine hs.imp_of_mem fun {i j} mi mj h => ?_
    have h1 := List.mem_range.mp (hp.mem_iff.mp mi)
    have h2 := List.mem_range.mp (hp.mem_iff.mp mj)
    exact (rank_iff h1 h2).mp h
noncomputable def Least (n : Nat) (ropes : List Rope) (ns : List Int) : Prop := ∃ order, Ord ropes order ∧ ns.Perm (take true n ropes order) ∧ ns.Pairwise (· ≤ ·)
noncomputable def neg (ropes : List Rope) : List Rope := ropes.map fun r => (r.1, r.2.1, -r.2.2)
end RT
namespace RT
section
variable {n : Nat} {ropes : List Rope} {ns ms zs : List Int} {st : Int}
structure Side (n : Nat) (es : List (Int × Int)) (st : Int) (zs : List Int) : Prop where
  nd : zs.Nodup
  mst : st ∈ zs
  ok : ∀ x ∈ zs, 0 ≤ x ∧ x < n
  cn : ∀ x ∈ zs, Conn es st x
theorem nodup_le : ∀ {n : Nat} {zs : List Int}, zs.Nodup → (∀ x ∈ zs, 0 ≤ x ∧ x < n) → zs.length ≤ n
  | 0, zs, _, h => by
    cases zs with
    | nil => exact Nat.le_refl _
    | cons x zs => have := h x List.mem_cons_self; omega
  | n + 1, zs, nd, h => by
    have ih := nodup_le (n := n) (zs := zs.filter fun x => x != (n : Int)) (nd.sublist List.filter_sublist) fun x m => by
      rw [List.mem_filter] at m
      have h1 := h x m.1
      have h2 : x ≠ n := by simpa using m.2
      omega
    have : zs.length ≤ (zs.filter fun x => x != (n : Int)).length + 1 := by
      clear ih h
      induction zs with
      | nil => simp
      | cons x zs ih =>
        have nx := (List.nodup_cons.mp nd)
        by_cases e : x = (n : Int)
        · subst e
          rw [List.filter_cons_of_neg (by simp), List.filter_eq_self.mpr]
          · simp
          · intro y m
            have : y ≠ (n : Int) := fun z => nx.1 (z ▸ m)
            simpa using this
        · rw [List.filter_cons_of_pos (by simpa using e), List.length_cons, List.length_cons]
          have := ih nx.2
          omega
    omega
noncomputable def ins (zs : List Int) (x : Int) : List Int := if x ∈ zs then zs else zs ++ [x]
theorem sorted_eq : ∀ {l m : List Int}, l.Perm m → l.Pairwise (· ≤ ·) → m.Pairwise (· ≤ ·) → l = m
  | [], m, h, _, _ => by rw [List.nil_perm.mp h]
  | a :: l, [], h, _, _ => by have := h.length_eq; simp at this
  | a :: l, b :: m, h, h1, h2 => by
    have ha := List.pairwise_cons.mp h1
    have hb := List.pairwise_cons.mp h2
    have e : a = b := by
      have m1 : a ∈ b :: m := h.mem_iff.mp List.mem_cons_self
      have m2 : b ∈ a :: l := h.mem_iff.mpr List.mem_cons_self
      rcases List.mem_cons.mp m1 with e | m1
      · exact e
      · rcases List.mem_cons.mp m2 with e | m2
        · exact e.symm
        · have := ha.1 b m2
          have := hb.1 a m1
          omega
    subst e
    rw [sorted_eq (List.perm_cons a |>.mp h) ha.2 hb.2]
end
end RT
namespace RT
section
variable {n : Nat} {ropes : List Rope} {ns ms : List Int}
theorem ed_mem (h : ns.Perm ms) (e : Int × Int) : e ∈ ed ropes ns ↔ e ∈ ed ropes ms := (h.map _).mem_iff
theorem Tree.perm (v : Okr n ropes) (h : ns.Perm ms) (T : Tree n ropes ms) : Tree n ropes ns := by
  have ok : Okn ropes ns := fun k m => T.ok k (h.mem_iff.mp m)
  have cc : ∀ x y, Conn (ed ropes ns) x y ↔ Conn (ed ropes ms) x y := fun x y => conn_congr fun e => ed_mem h e
  refine ⟨ok, ?_, fun x y c => (cc x y).mpr (T.sp x y c)⟩
  refine (forest_iff (n := n) (valid_ed v ok)).mpr ?_
  have f := (forest_iff (n := n) (valid_ed v T.ok)).mp T.fo
  have l : (ed ropes ns).length = (ed ropes ms).length := (h.map _).length_eq
  rw [comps_congr (n := n) cc, l]
  exact f
theorem Least.tree (v : Okr n ropes) (L : Least n ropes ns) : Tree n ropes ns := by
  obtain ⟨order, O, hp, _⟩ := L
  exact Tree.perm v hp (take_tree v O.okn fun k h0 h1 => (O.mem k).mpr ⟨h0, h1⟩)
end
end RT
namespace RT
theorem Least.len {n : Nat} {ropes : List Rope} {ns : List Int} (v : Okr n ropes) (L : Least n ropes ns) : ns.length ≤ ropes.length := by
  obtain ⟨order, O, hp, _⟩ := L
  rw [hp.length_eq]
  exact Nat.le_trans (take_sub v O.okn).length_le (nodup_le O.nodup O.okn)
end RT
namespace RT
section
variable {n : Nat} {ropes : List Rope} {ns ms : List Int} {k : Int}
end
end RT
namespace RT
section
variable {n : Nat} {ropes : List Rope} {ns ms ks ps : List Int} {a b c k e f : Int}
noncomputable def Joins (ropes : List Rope) (k b c : Int) : Prop := e1 ropes k = (b, c) ∨ e1 ropes k = (c, b)
inductive Lead (ropes : List Rope) (a : Int) : List Int → Int → List Int → Prop
  | nil : Lead ropes a [] a [a]
  | snoc {ks ps : List Int} {b k c : Int} : Lead ropes a ks b ps → Joins ropes k b c → c ∉ ps → Lead ropes a (ks ++ [k]) c (ps ++ [c])
theorem wo_perm (nd : ns.Nodup) (m : k ∈ ns) : ns.Perm (k :: wo ns k) := by
  induction ns with
  | nil => cases m
  | cons x xs ih =>
    obtain ⟨nx, nd'⟩ := List.nodup_cons.mp nd
    by_cases e : x = k
    · subst e
      have : wo (x :: xs) x = xs := by
        unfold wo
        rw [List.filter_cons, if_neg (by simp)]
        exact List.filter_eq_self.mpr fun y my => by rw [bne_iff_ne]; exact fun z => nx (z ▸ my)
      rw [this]
    · have mk : k ∈ xs := by
        rcases List.mem_cons.mp m with z | z
        · exact absurd z.symm e
        · exact z
      have : wo (x :: xs) k = x :: wo xs k := by
        unfold wo
        rw [List.filter_cons, if_pos (by rw [bne_iff_ne]; exact e)]
      rw [this]
      exact ((ih nd' mk).cons x).trans (List.Perm.swap k x _)
theorem wo_len (nd : ns.Nodup) (m : k ∈ ns) : (wo ns k).length + 1 = ns.length := by
  have := (wo_perm nd m).length_eq
  rw [List.length_cons] at this
  omega
end
end RT
namespace RT
section
variable {n : Nat} {ropes : List Rope} {ns ms ks ps zs os : List Int} {a b c k e f st : Int}
theorem ord_eq : ∀ {l m : List Int}, l.Perm m → l.Pairwise (Chp ropes) → m.Pairwise (Chp ropes) → l = m
  | [], m, h, _, _ => h.nil_eq
  | x :: l, [], h, _, _ => absurd h.length_eq (by simp)
  | x :: l, y :: m, h, p1, p2 => by
    obtain ⟨q1, r1⟩ := List.pairwise_cons.mp p1
    obtain ⟨q2, r2⟩ := List.pairwise_cons.mp p2
    have e : x = y := by
      refine Classical.byContradiction fun ne => ?_
      have a := q1 y (by
        rcases List.mem_cons.mp (h.mem_iff.mpr (List.mem_cons.mpr (.inl rfl)) : y ∈ x :: l) with z | z
        · exact absurd z.symm ne
        · exact z)
      have b := q2 x (by
        rcases List.mem_cons.mp (h.mem_iff.mp (List.mem_cons.mpr (.inl rfl)) : x ∈ y :: m) with z | z
        · exact absurd z ne
        · exact z)
      exact Chp.irr (a.trans b)
    subst e
    rw [ord_eq (List.Perm.cons_inv h) r1 r2]
theorem Ord.uniq (O : Ord ropes ns) (P : Ord ropes ms) : ns = ms :=
  ord_eq ((List.perm_ext_iff_of_nodup O.nodup P.nodup).mpr fun k => by rw [O.mem, P.mem]) O.srt P.srt
theorem Least.uniq (L : Least n ropes ns) (M : Least n ropes ms) : ns = ms := by
  obtain ⟨o, O, p, s⟩ := L
  obtain ⟨o', O', p', s'⟩ := M
  have := O.uniq O'
  subst this
  exact sorted_eq (p.trans p'.symm) s s'
structure Ways (n : Nat) (ropes : List Rope) (ns : List Int) (st : Int) (W : List (Int × List Int)) : Prop where
  nd : (W.map (·.1)).Nodup
  ok : ∀ p ∈ W, 0 ≤ p.1 ∧ p.1 < n
  one : (st, []) ∈ W
  way : ∀ p ∈ W, ∃ ps, Lead ropes st p.2 p.1 ps ∧ (∀ k ∈ p.2, k ∈ ns) ∧ ∀ x ∈ ps, x ∈ W.map (·.1)
variable {W : List (Int × List Int)}
end
end RT
namespace RT
section
variable {n : Nat} {ropes : List Rope} {ns ms ks ps zs os order : List Int} {a b c k e f st : Int}
theorem Tree.lens (v : Okr n ropes) (T : Tree n ropes ns) (S : Tree n ropes ms) : ns.length = ms.length := by
  rw [T.len (d := true) v, S.len (d := true) v]
theorem Tree.other (v : Okr n ropes) (T : Tree n ropes ns) (S : Tree n ropes ms) (h : ¬ ns.Perm ms) : ∃ e ∈ ns, e ∉ ms := by
  refine Classical.byContradiction fun z => h ?_
  have sub : ∀ e ∈ ns, e ∈ ms := fun e m => Classical.byContradiction fun q => z ⟨e, m, q⟩
  have go : ∀ {l m : List Int}, l.Nodup → m.Nodup → (∀ e ∈ l, e ∈ m) → l.length = m.length → l.Perm m := by
    intro l
    induction l with
    | nil => intro m _ _ _ hl; rw [List.length_eq_zero_iff.mp hl.symm]
    | cons x l ih =>
      intro m nd nm sub hl
      have mx := sub x (List.mem_cons.mpr (.inl rfl))
      have p := wo_perm nm mx
      have nd' := List.nodup_cons.mp nd
      refine ((ih nd'.2 (List.Nodup.sublist List.filter_sublist nm : (wo m x).Nodup) (fun e me => mem_wo.mpr ⟨sub e (List.mem_cons.mpr (.inr me)), fun q => nd'.1 (q ▸ me)⟩) ?_).cons x).trans p.symm
      have := wo_len nm mx
      rw [List.length_cons] at hl
      omega
  exact go (T.nodup v) (S.nodup v) sub (Tree.lens v T S)
end
end RT
namespace RT
section
variable {n : Nat} {ropes : List Rope} {one other tree ns ms ks ps : List Int} {a b c k o : Int}
noncomputable def walk (one : List Int) (st : List (Int × Int)) : List Int := st.foldl (fun t s => wo t s.1 ++ [s.2]) one
noncomputable def Good (n : Nat) (ropes : List Rope) (one : List Int) (st : List (Int × Int)) : Prop := ∀ (i : Nat) s, st[i]? = some s → s.1 ∈ walk one (st.take i) ∧ s.2 ∉ walk one (st.take i) ∧ Tree n ropes (walk one (st.take (i + 1)))
structure Mid (n : Nat) (ropes : List Rope) (one other : List Int) (i : Nat) (st : List (Int × Int)) : Prop where
  tr : Tree n ropes (walk one st)
  good : Good n ropes one st
  keep : ∀ k ∈ one, k ∈ other → k ∈ walk one st
  got : ∀ k ∈ other.take i, k ∈ walk one st
  only : ∀ k ∈ walk one st, k ∈ one ∨ k ∈ other.take i
  cnt : st.length = ((other.take i).filter fun k => decide (k ∉ one)).length
theorem take_succ_of {α : Type} {l : List α} {i : Nat} {x : α} (h : l[i]? = some x) : l.take (i + 1) = l.take i ++ [x] := by
  rw [List.take_add_one, h]
  rfl
end
end RT
namespace RT
section
variable {n : Nat} {ropes : List Rope} {ns ms ks pre : List Int} {k : Int} {d d' : Bool}
theorem run_snoc : run d n ropes (pre ++ [k]) = tstep d ropes (run d n ropes pre) k := by unfold run; rw [List.foldl_append]; rfl
theorem tstep_snd {st : List Int × List Int} : (tstep d ropes st k).2 = if lab st.1 (rp ropes k).1 ≠ lab st.1 (rp ropes k).2.1 then st.2 ++ [k] else st.2 := by
  unfold tstep
  split <;> rfl
theorem take_dir (v : Okr n ropes) (h : Okn ropes ns) : take d n ropes ns = take d' n ropes ns := by
  have go : ∀ m : Nat, take d n ropes (ns.take m) = take d' n ropes (ns.take m) := by
    intro m
    induction m with
    | zero => rfl
    | succ m ih =>
      cases e : ns[m]? with
      | none =>
        have : ns.take (m + 1) = ns.take m := by rw [List.take_add_one, e]; simp
        rw [this]
        exact ih
      | some k =>
        have hk := h k (List.mem_of_getElem? e)
        have ok : Okn ropes (ns.take m) := fun j mj => h j (List.mem_of_mem_take mj)
        rw [take_succ_of e]
        have T1 := took (d := d) v ok
        have T2 := took (d := d') v ok
        have va := v.at hk
        have i1 := T1.lb.iff _ _ va.1.1 va.1.2 va.2.1 va.2.2
        have i2 := T2.lb.iff _ _ va.1.1 va.1.2 va.2.1 va.2.2
        unfold take at ih ⊢
        rw [run_snoc, run_snoc, tstep_snd, tstep_snd]
        rw [ih] at i1
        by_cases c : Conn (ed ropes (run d' n ropes (ns.take m)).2) (rp ropes k).1 (rp ropes k).2.1
        · rw [if_neg (fun z => z (i1.mpr c)), if_neg (fun z => z (i2.mpr c)), ih]
        · rw [if_pos (fun z => c (i1.mp z)), if_pos (fun z => c (i2.mp z)), ih]
  have := go ns.length
  rwa [List.take_length] at this
theorem least_of_take (v : Okr n ropes) {order : List Int} (O : Ord ropes order) (p : ns.Perm (take d n ropes order)) (s : ns.Pairwise (· ≤ ·)) : Least n ropes ns := ⟨order, O, by rw [take_dir (d' := d) v O.okn]; exact p, s⟩
variable {a b : Int} {ps : List Int}
end
end RT
namespace RT
section
variable {n : Nat} {ropes : List Rope} {ns ms ks : List Int} {e f k : Int}
end
end RT
namespace RT
section
variable {n : Nat} {es : List (Int × Int)} {ropes : List Rope} {zs ns : List Int} {p x y : Int}
open Classical in
noncomputable def sideL (n : Nat) (es : List (Int × Int)) (p : Int) : List Int := (iota n).filter fun x => decide (Conn es p x)
open Classical in
noncomputable def grps (n : Nat) (es : List (Int × Int)) (i : Nat) : List (List Int) := ((iota i).filter fun p => decide ((sideL n es p).head? = some p)).map (sideL n es)
end
end RT
namespace RT
section
variable {n : Nat} {ropes : List Rope} {ms : List Int}
end
end RT
namespace RT
section
variable {n : Nat} {rs : List Rope} {ns ms : List Int} {k c j : Int}
open Classical in
noncomputable def lt (n : Nat) (rs : List Rope) : List Int := if h : ∃ ns, Least n rs ns then h.choose else []
theorem lt_eq (L : Least n rs ns) : lt n rs = ns := by
  unfold lt
  have h : ∃ ns, Least n rs ns := ⟨ns, L⟩
  rw [dif_pos h]
  exact h.choose_spec.uniq L
noncomputable def recst (rs : List Rope) (k c : Int) : List Rope := rs.set k.toNat ((rp rs k).1, (rp rs k).2.1, c)
theorem len_recst : (recst rs k c).length = rs.length := by unfold recst; exact List.length_set
theorem e1_recst : e1 (recst rs k c) j = e1 rs j := by
  unfold e1 rp recst
  simp only [List.getD_eq_getElem?_getD, List.getElem?_set]
  by_cases h : k.toNat = j.toNat
  · rw [if_pos h]
    by_cases h2 : k.toNat < rs.length
    · rw [if_pos h2]
      simp [rp, h]
    · rw [if_neg h2]
      have : rs[j.toNat]? = none := List.getElem?_eq_none (by omega)
      rw [this]
  · rw [if_neg h]
theorem ed_recst : ed (recst rs k c) ns = ed rs ns := by
  unfold ed
  exact List.map_congr_left fun j _ => e1_recst
theorem all_recst : all (recst rs k c) = all rs := by unfold all; rw [len_recst]
theorem Tree.recst (T : Tree n (recst rs k c) ns) : Tree n rs ns :=
  ⟨fun j m => by have := T.ok j m; rwa [len_recst] at this, by have := T.fo; rwa [ed_recst] at this, fun x y h => by
    have := T.sp x y
    rw [ed_recst, ed_recst, all_recst] at this
    exact this h⟩
theorem okr_recst (v : Okr n rs) (hk : 0 ≤ k ∧ k < rs.length) : Okr n (RT.recst rs k c) := fun r m => by
  unfold RT.recst at m
  rcases List.mem_or_eq_of_mem_set m with m | rfl
  · exact v r m
  · have h2 : k.toNat < rs.length := by omega
    have mr : rp rs k ∈ rs := by
      unfold rp
      rw [List.getD_eq_getElem?_getD, List.getElem?_eq_getElem h2]
      exact List.getElem_mem h2
    have := v (rp rs k) mr
    exact this
theorem both_ways (v : Okr n rs) (hk : 0 ≤ k ∧ k < rs.length) (L : Least n rs ns) (M : Least n (RT.recst rs k c) ms) (h : ∃ e ∈ ns, e ∉ ms) : ∃ f ∈ ms, f ∉ ns := by
  obtain ⟨e, m, nm⟩ := h
  exact Tree.other v (M.tree (okr_recst v hk)).recst (L.tree v) fun p => nm (p.mem_iff.mpr m)
theorem least_none : Least n [] [] := ⟨[], ⟨fun k => ⟨fun m => by simp at m, fun h => by simp at h; omega⟩, List.Pairwise.nil⟩, List.Perm.refl _, List.Pairwise.nil⟩
theorem least_one : Least 3 [(0, 2, 5)] [0] := ⟨[0], ⟨fun k => by simp; omega, by simp⟩, by decide, by simp⟩
theorem least_two : Least 3 [(0, 2, 5), (2, 1, 4)] [0, 1] := ⟨[1, 0], ⟨fun k => by simp; omega, by simp [Chp, cost, rp]⟩, by decide, by simp⟩
noncomputable def miss (a b : List Int) : Option Int := (a.filter fun k => !b.contains k).head?
theorem miss_none (h : miss ns ms = none) : ∀ k ∈ ns, k ∈ ms := fun k m => by
  unfold miss at h
  have := List.head?_eq_none_iff.mp h
  have z := List.filter_eq_nil_iff.mp this k m
  simpa using z
theorem miss_some (h : miss ns ms = some k) : k ∈ ns ∧ k ∉ ms := by
  unfold miss at h
  have := List.mem_of_mem_head? (Option.mem_def.mpr h)
  obtain ⟨a, b⟩ := List.mem_filter.mp this
  exact ⟨a, by simpa using b⟩
theorem miss_back (v : Okr n rs) (hk : 0 ≤ k ∧ k < rs.length) (L : Least n rs ns) (M : Least n (RT.recst rs k c) ms) (h : miss ns ms = some j) : ∃ i, miss ms ns = some i := by
  obtain ⟨m1, m2⟩ := miss_some h
  obtain ⟨f, f1, f2⟩ := both_ways v hk L M ⟨j, m1, m2⟩
  cases e : miss ms ns with
  | none => exact absurd (miss_none e f f1) f2
  | some i => exact ⟨i, rfl⟩
end
end RT
namespace L2
open PySem PySem.Spec PyProof.Rows
theorem rng_iota (n : Nat) : rngV 0 n = (RT.iota n).map V.int := by
  unfold rngV RT.iota
  rw [List.map_map]
  refine List.map_congr_left fun i _ => ?_
  show V.int (0 + (i : Int)) = V.int (i : Int)
  rw [Int.zero_add]
theorem ints_got {ns : List Int} {i : Nat} {x : V} (h : (ns.map V.int)[i]? = some x) : ∃ z, ns[i]? = some z ∧ x = .int z := by
  rw [List.getElem?_map] at h
  cases e : ns[i]? with
  | none => rw [e] at h; cases h
  | some z => rw [e] at h; exact ⟨z, rfl, (Option.some.inj h).symm⟩
theorem lab_at {g : List Int} {x : Int} (h0 : 0 ≤ x) (h1 : x < g.length) : atI (g.map V.int) x = some (.int (RT.lab g x)) := by
  refine atI_int h0 ?_
  rw [List.getElem?_map, RT.lab_eq h0 h1]
  rfl
theorem relab_map (g : List Int) (p q : Int) : ((g.map V.int).map fun x => if x = .int p then .int q else x) = (RT.relab g p q).map V.int := by
  unfold RT.relab
  rw [List.map_map, List.map_map]
  refine List.map_congr_left fun x _ => ?_
  show (if V.int x = V.int p then V.int q else V.int x) = V.int (if x = p then q else x)
  by_cases h : x = p
  · simp [h]
  · simp [h]
theorem ropes_upd {H : Hp} {q : Addr} {o : HO} {ys : List V} (hq : H q = some (.lst ys)) : ∀ {rs : List (Int × Int × Int)} {xs : List V}, Reps H (rs.map ropeD) xs → Reps (upd H q o) (rs.map ropeD) xs
  | [], _, h => by rw [List.map_nil, reps_nil] at h ⊢; exact h
  | r :: rs, _, h => by
    rw [List.map_cons] at h
    obtain ⟨x, xr, rfl, h1, h2⟩ := reps_cons.mp h
    obtain ⟨p, rfl, hp⟩ := rep_rope.mp h1
    have ne : p ≠ q := ne_of hp hq (by intro z; cases z)
    exact reps_cc.mpr ⟨rep_rope.mpr ⟨p, rfl, by rw [upd_ne ne]; exact hp⟩, ropes_upd hq h2⟩
theorem pick_at {ns : List Int} {i : Int} (h0 : 0 ≤ i) (h1 : i < ns.length) : ∃ z ∈ ns, atI (ns.map V.int) i = some (.int z) := by
  have hi : i.toNat < ns.length := by omega
  refine ⟨ns[i.toNat], List.getElem_mem hi, atI_int h0 ?_⟩
  rw [List.getElem?_map, List.getElem?_eq_getElem hi]
  rfl
theorem cell_at {ns : List Int} {i : Int} (h0 : 0 ≤ i) (h1 : i < ns.length) : atI (ns.map V.int) i = some (.int (ns.getD i.toNat 0)) := by
  have hi : i.toNat < ns.length := by omega
  refine atI_int h0 ?_
  rw [List.getElem?_map, List.getElem?_eq_getElem hi, List.getD_eq_getElem?_getD, List.getElem?_eq_getElem hi]
  rfl
theorem cut_ints (ns : List Int) (lo hi : Option Int) : ∃ ms : List Int, cutV (ns.map V.int) lo hi = ms.map V.int ∧ ms.length ≤ ns.length ∧ ∀ k ∈ ms, k ∈ ns := by
  unfold cutV
  refine ⟨(ns.drop (HT.sIx (ns.map V.int).length 0 lo)).take (HT.sIx (ns.map V.int).length (ns.map V.int).length hi - HT.sIx (ns.map V.int).length 0 lo), ?_, ?_, fun k m => List.mem_of_mem_drop (List.mem_of_mem_take m)⟩
  · rw [List.map_take, List.map_drop]
  · rw [List.length_take, List.length_drop]
    omega
theorem inV_ints (v : Int) (g : List Int) : inV (.int v) (g.map V.int) = g.contains v := by
  unfold inV
  rw [List.any_map, List.contains_eq_any_beq]
  congr 1
  funext x
  show eqV (V.int x) (V.int v) = (v == x)
  show (x == v) = (v == x)
  exact BEq.comm
theorem flat_ints (g : List Int) : (g.map V.int).all flatV = true := by
  rw [List.all_map, List.all_eq_true]
  intro x _
  rfl
end L2
namespace L2
open PySem PySem.Spec PyProof.Rows PySem.W
noncomputable def kRun {α : Type} (c : Nat → Nat → Bool) : KasT α → α
  | .ret a => a
  | .ask i j k => kRun c (k (c i j))
theorem kRun_bind {α β : Type} {c : Nat → Nat → Bool} {f : α → KasT β} : ∀ t : KasT α, kRun c (t.bind f) = kRun c (f (kRun c t))
  | .ret _ => rfl
  | .ask i j k => by
    show kRun c ((k (c i j)).bind f) = _
    exact kRun_bind _
noncomputable def Asks {α : Type} (N : Nat) : KasT α → Prop
  | .ret _ => True
  | .ask i j k => i < N ∧ j < N ∧ ∀ b, Asks N (k b)
noncomputable def AsksR {α : Type} (N : Nat) (P : α → Prop) : KasT α → Prop
  | .ret a => P a
  | .ask i j k => i < N ∧ j < N ∧ ∀ b, AsksR N P (k b)
theorem AsksR.asks {α : Type} {N : Nat} {P : α → Prop} : ∀ {t : KasT α}, AsksR N P t → Asks N t
  | .ret _, _ => trivial
  | .ask _ _ k, h => ⟨h.1, h.2.1, fun b => (h.2.2 b).asks⟩
theorem AsksR.bind {α β : Type} {N : Nat} {P : α → Prop} {Q : β → Prop} {f : α → KasT β} (hf : ∀ a, P a → AsksR N Q (f a)) : ∀ {t : KasT α}, AsksR N P t → AsksR N Q (t.bind f)
  | .ret a, h => hf a h
  | .ask i j k, h => ⟨h.1, h.2.1, fun b => AsksR.bind hf (h.2.2 b)⟩
theorem kasWp_run {α : Type} {cmp : Nat → Nat → (Bool → Shared → Prop) → Shared → Prop} {c : Nat → Nat → Bool} {N : Nat} {C : Shared → Prop} (hc : ∀ i j (Q : Bool → Shared → Prop) s, i < N → j < N → C s → (∀ s', C s' → Q (c i j) s') → cmp i j Q s) {Q : α → Shared → Prop} :
    ∀ (t : KasT α) (s : Shared), Asks N t → C s → (∀ s', C s' → Q (kRun c t) s') → t.kasWp cmp Q s
  | .ret a, s, _, h, q => q s h
  | .ask i j k, s, ha, h, q => hc i j _ s ha.1 ha.2.1 h fun s' h' => kasWp_run hc (k (c i j)) s' (ha.2.2 _) h' q
section
variable {N : Nat} {r : Nat → Int}
structure Prm (N : Nat) (p : Array Nat) : Prop where
  perm : p.Perm (List.toArray (List.range N))
theorem Prm.size {p : Array Nat} (h : Prm N p) : p.size = N := by
  have := h.perm.size_eq
  simpa using this
theorem Prm.lt {p : Array Nat} (h : Prm N p) (hN : 0 < N) (i : Nat) : p.getD i 0 < N := by
  rw [Array.getD_eq_getD_getElem?]
  cases e : p[i]? with
  | none => exact hN
  | some v =>
    have m : v ∈ p := Array.mem_of_getElem? e
    have := h.perm.mem_iff.mp m
    simpa using this
theorem Prm.inj {p : Array Nat} (h : Prm N p) {i j : Nat} (hi : i < N) (hj : j < N) (e : p.getD i 0 = p.getD j 0) : i = j := by
  have hs := h.size
  have nd : p.toList.Nodup := by
    have : p.toList.Perm (List.range N) := by
      have := Array.perm_iff_toList_perm.mp h.perm
      simpa using this
    exact this.nodup_iff.mpr List.nodup_range
  rw [Array.getD_eq_getD_getElem?, Array.getD_eq_getD_getElem?, Array.getElem?_eq_getElem (by omega), Array.getElem?_eq_getElem (by omega)] at e
  have e : p[i] = p[j] := e
  have a1 : p.toList[i]'(by simpa using (by omega : i < p.size)) = p[i] := by simp
  have a2 : p.toList[j]'(by simpa using (by omega : j < p.size)) = p[j] := by simp
  have i1 : p.toList[i]? = p.toList[j]? := by
    rw [List.getElem?_eq_getElem (by simpa using (by omega : i < p.size)), List.getElem?_eq_getElem (by simpa using (by omega : j < p.size)), a1, a2, e]
  exact (List.getElem?_inj (by simpa using (by omega : i < p.size)) nd).mp i1
theorem Prm.rev {p : Array Nat} (h : Prm N p) (i j : Nat) : Prm N (kas_rev p i j) := ⟨(mirror_perm ..).trans h.perm⟩
theorem Prm.bub {p : Array Nat} (h : Prm N p) (i j : Nat) : Prm N (bubble p i j) := ⟨(bubble_perm ..).trans h.perm⟩
theorem Prm.start : Prm N (List.toArray (List.range N)) := ⟨Array.Perm.refl _⟩
noncomputable def Up (r : Nat → Int) (p : Array Nat) (k : Nat) : Prop := ∀ i j, i < j → j < k → r (p.getD i 0) < r (p.getD j 0)
noncomputable def Dn (r : Nat → Int) (p : Array Nat) (k : Nat) : Prop := ∀ i j, i < j → j < k → r (p.getD j 0) < r (p.getD i 0)
noncomputable def Inj (N : Nat) (r : Nat → Int) : Prop := ∀ i j, i < N → j < N → r i = r j → i = j
noncomputable abbrev ck (r : Nat → Int) : Nat → Nat → Bool := fun i j => decide (r i < r j)
theorem asc_step {p : Array Nat} {f n : Nat} : kRun (ck r) (kas_asc p (f + 1) n) = if r (p.getD n 0) < r (p.getD (n - 1) 0) then n else kRun (ck r) (kas_asc p f (n + 1)) := by
  show kRun (ck r) (if decide (r (p.getD n 0) < r (p.getD (n - 1) 0)) = true then .ret n else kas_asc p f (n + 1)) = _
  by_cases c : r (p.getD n 0) < r (p.getD (n - 1) 0)
  · rw [if_pos (decide_eq_true c), if_pos c]; rfl
  · rw [if_neg (by rw [decide_eq_false c]; simp), if_neg c]
theorem asc_run {p : Array Nat} (h : Prm N p) (hN : 0 < N) (hr : Inj N r) : ∀ (f n : Nat), 1 ≤ n → n + f ≤ N → Up r p n → ∃ m, kRun (ck r) (kas_asc p f n) = m ∧ n ≤ m ∧ m ≤ n + f ∧ Up r p m ∧ (m = n + f ∨ r (p.getD m 0) < r (p.getD (m - 1) 0))
  | 0, n, h1, h2, u => ⟨n, rfl, Nat.le_refl _, Nat.le_refl _, u, .inl rfl⟩
  | f + 1, n, h1, h2, u => by
    rw [asc_step]
    by_cases c : r (p.getD n 0) < r (p.getD (n - 1) 0)
    · rw [if_pos c]
      exact ⟨n, rfl, Nat.le_refl _, by omega, u, .inr c⟩
    · rw [if_neg c]
      have ne : r (p.getD n 0) ≠ r (p.getD (n - 1) 0) := fun e => by
        have := h.inj (by omega) (by omega) (hr _ _ (h.lt hN _) (h.lt hN _) e)
        omega
      have u' : Up r p (n + 1) := fun i j hij hj => by
        by_cases e : j = n
        · subst e
          by_cases e2 : i = j - 1
          · subst e2; omega
          · have := u i (j - 1) (by omega) (by omega)
            omega
        · exact u i j hij (by omega)
      obtain ⟨m, e, a, b, c, d⟩ := asc_run h hN hr f (n + 1) (by omega) (by omega) u'
      exact ⟨m, e, by omega, by omega, c, d.elim (fun d => .inl (by omega)) .inr⟩
theorem desc_step {p : Array Nat} {f n : Nat} : kRun (ck r) (kas_desc (f + 1) p n 0) = if r (p.getD n 0) < r (p.getD (n - 1) 0) then kRun (ck r) (kas_desc f p (n + 1) 0) else if r (p.getD (n - 1) 0) < r (p.getD n 0) then (p, n, 0) else kRun (ck r) (kas_desc f p (n + 1) (0 + 1)) := by
  show kRun (ck r) (if decide (r (p.getD n 0) < r (p.getD (n - 1) 0)) = true then (if 0 > 0 then kas_desc f (kas_rev p (n - (0 + 1)) n) (n + 1) 0 else kas_desc f p (n + 1) 0)
      else .ask (p.getD (n - 1) 0) (p.getD n 0) fun d => if d = true then .ret (p, n, 0) else kas_desc f p (n + 1) (0 + 1)) = _
  by_cases c : r (p.getD n 0) < r (p.getD (n - 1) 0)
  · rw [if_pos (decide_eq_true c), if_pos c, if_neg (by omega)]
  · rw [if_neg (by rw [decide_eq_false c]; simp), if_neg c]
    show kRun (ck r) (if decide (r (p.getD (n - 1) 0) < r (p.getD n 0)) = true then .ret (p, n, 0) else kas_desc f p (n + 1) (0 + 1)) = _
    by_cases d : r (p.getD (n - 1) 0) < r (p.getD n 0)
    · rw [if_pos (decide_eq_true d), if_pos d]; rfl
    · rw [if_neg (by rw [decide_eq_false d]; simp), if_neg d]
theorem desc_run {p : Array Nat} (h : Prm N p) (hN : 0 < N) (hr : Inj N r) : ∀ (f n : Nat), 1 ≤ n → n + f ≤ N → Dn r p n → ∃ m, kRun (ck r) (kas_desc f p n 0) = (p, m, 0) ∧ n ≤ m ∧ m ≤ n + f ∧ Dn r p m
  | 0, n, h1, h2, u => ⟨n, rfl, Nat.le_refl _, Nat.le_refl _, u⟩
  | f + 1, n, h1, h2, u => by
    rw [desc_step]
    by_cases c : r (p.getD n 0) < r (p.getD (n - 1) 0)
    · rw [if_pos c]
      have u' : Dn r p (n + 1) := fun i j hij hj => by
        by_cases e : j = n
        · subst e
          by_cases e2 : i = j - 1
          · subst e2; exact c
          · have := u i (j - 1) (by omega) (by omega)
            omega
        · exact u i j hij (by omega)
      obtain ⟨m, a, b, d, e⟩ := desc_run h hN hr f (n + 1) (by omega) (by omega) u'
      exact ⟨m, a, by omega, by omega, e⟩
    · rw [if_neg c]
      have ne : r (p.getD n 0) ≠ r (p.getD (n - 1) 0) := fun e => by
        have := h.inj (by omega) (by omega) (hr _ _ (h.lt hN _) (h.lt hN _) e)
        omega
      rw [if_pos (by omega)]
      exact ⟨n, rfl, Nat.le_refl _, by omega, u⟩
theorem getD_rev {p : Array Nat} {m : Nat} (hm : m ≤ p.size) (k : Nat) : (kas_rev p 0 m).getD k 0 = if k < m then p.getD (m - 1 - k) 0 else p.getD k 0 := by
  unfold kas_rev
  rw [Array.getD_eq_getD_getElem?, getElem?_mirror_all (i := 0) hm k]
  by_cases h : k < m
  · rw [if_pos ⟨Nat.zero_le _, h⟩, if_pos h, Nat.zero_add, ← Array.getD_eq_getD_getElem?]
  · rw [if_neg (fun z => h z.2), if_neg h, ← Array.getD_eq_getD_getElem?]
theorem tail3_run {p : Array Nat} {m : Nat} (h : Prm N p) (hN : 0 < N) (hr : Inj N r) (h1 : 1 ≤ m) (hm : m ≤ N) (d : Dn r p m) : ∃ q, kRun (ck r) (kas_tail3 m N p) = q ∧ 1 ≤ q.1 ∧ q.1 ≤ N ∧ Prm N q.2 ∧ Up r q.2 q.1 := by
  unfold kas_tail3
  rw [kRun_bind]
  have hs := h.size
  have u : Up r (kas_rev p 0 m) m := fun i j hij hj => by
    rw [getD_rev (by omega), getD_rev (by omega), if_pos (by omega), if_pos hj]
    exact d _ _ (by omega) (by omega)
  obtain ⟨k, e, a, b, c, _⟩ := asc_run (h.rev 0 m) hN hr (N - m) m h1 (by omega) u
  rw [e]
  exact ⟨(k, kas_rev p 0 m), rfl, by show 1 ≤ k; omega, by show k ≤ N; omega, h.rev 0 m, c⟩
theorem count_run {p : Array Nat} (h : Prm N p) (hN : 2 ≤ N) (hr : Inj N r) : ∃ q, kRun (ck r) (kas_count N p) = q ∧ 1 ≤ q.1 ∧ q.1 ≤ N ∧ Prm N q.2 ∧ Up r q.2 q.1 := by
  unfold kas_count
  rw [kRun_bind]
  obtain ⟨m, e0, a, b, c, d⟩ := asc_run h (by omega) hr (N - 1) 1 (by omega) (by omega) (fun i j _ _ => by omega)
  rw [e0]
  by_cases e : m = N
  · rw [if_pos (by simpa using e)]
    exact ⟨(m, p), rfl, a, by show m ≤ N; omega, h, c⟩
  · rw [if_neg (by simpa using e)]
    by_cases e2 : m > 1
    · rw [if_pos e2]
      refine ⟨(m, p), ?_, a, by show m ≤ N; omega, h, c⟩
      show kRun (ck r) (if decide (r (p.getD 0 0) < r (p.getD (m - 1) 0)) = true then .ret (m, p) else kas_descPart m N (kas_rev p 0 m)) = _
      rw [if_pos (decide_eq_true (c 0 (m - 1) (by omega) (by omega)))]
      rfl
    · rw [if_neg e2]
      have e3 : m = 1 := by omega
      subst e3
      have d : r (p.getD 1 0) < r (p.getD 0 0) := by
        rcases d with d | d
        · omega
        · exact d
      unfold kas_descPart
      rw [kRun_bind]
      obtain ⟨m, e1, b1, b2, b3⟩ := desc_run h (by omega) hr (N - (1 + 1)) (1 + 1) (by omega) (by omega) (fun i j hij hj => by
        have i0 : i = 0 := by omega
        have j1 : j = 1 := by omega
        rw [i0, j1]
        exact d)
      rw [e1]
      rw [if_neg (show ¬ (0 : Nat) > 0 by omega)]
      exact tail3_run (m := m) h (by omega) hr (by omega) (by omega) b3
theorem place_step {p : Array Nat} {k f l b : Nat} : kRun (ck r) (kas_place p k (f + 1) l b) = if l ≥ b then l else if r (p.getD k 0) < r (p.getD ((l + b) / 2) 0) then kRun (ck r) (kas_place p k f l ((l + b) / 2)) else kRun (ck r) (kas_place p k f ((l + b) / 2 + 1) b) := by
  show kRun (ck r) (if l ≥ b then .ret l else .ask (p.getD k 0) (p.getD ((l + b) / 2) 0) fun c => if c = true then kas_place p k f l ((l + b) / 2) else kas_place p k f ((l + b) / 2 + 1) b) = _
  by_cases e : l ≥ b
  · rw [if_pos e, if_pos e]; rfl
  · rw [if_neg e, if_neg e]
    show kRun (ck r) (if decide (r (p.getD k 0) < r (p.getD ((l + b) / 2) 0)) = true then kas_place p k f l ((l + b) / 2) else kas_place p k f ((l + b) / 2 + 1) b) = _
    by_cases c : r (p.getD k 0) < r (p.getD ((l + b) / 2) 0)
    · rw [if_pos (decide_eq_true c), if_pos c]
    · rw [if_neg (by rw [decide_eq_false c]; simp), if_neg c]
theorem place_run {p : Array Nat} {k : Nat} (h : Prm N p) (hr : Inj N r) (hk : k < N) (u : Up r p k) : ∀ (f l b : Nat), b ≤ k → b - l ≤ f → l ≤ b → (∀ i, i < l → r (p.getD i 0) < r (p.getD k 0)) → (∀ i, b ≤ i → i < k → r (p.getD k 0) < r (p.getD i 0)) →
    ∃ m, kRun (ck r) (kas_place p k f l b) = m ∧ m ≤ k ∧ (∀ i, i < m → r (p.getD i 0) < r (p.getD k 0)) ∧ ∀ i, m ≤ i → i < k → r (p.getD k 0) < r (p.getD i 0)
  | 0, l, b, hb, hf, hl, lo, hi => ⟨l, rfl, by omega, lo, fun i h1 h2 => hi i (by omega) h2⟩
  | f + 1, l, b, hb, hf, hl, lo, hi => by
    rw [place_step]
    by_cases e : l ≥ b
    · rw [if_pos e]
      exact ⟨l, rfl, by omega, lo, fun i h1 h2 => hi i (by omega) h2⟩
    · rw [if_neg e]
      have hN : 0 < N := by omega
      by_cases c : r (p.getD k 0) < r (p.getD ((l + b) / 2) 0)
      · rw [if_pos c]
        refine place_run h hr hk u f l ((l + b) / 2) (by omega) (by omega) (by omega) lo fun i h1 h2 => ?_
        by_cases e2 : i = (l + b) / 2
        · subst e2; exact c
        · have := u ((l + b) / 2) i (by omega) h2
          omega
      · rw [if_neg c]
        have ne : r (p.getD k 0) ≠ r (p.getD ((l + b) / 2) 0) := fun z => by
          have := h.inj hk (by omega) (hr _ _ (h.lt hN _) (h.lt hN _) z)
          omega
        refine place_run h hr hk u f ((l + b) / 2 + 1) b hb (by omega) (by omega) (fun i h1 => ?_) hi
        by_cases e2 : i = (l + b) / 2
        · subst e2; omega
        · have := u i ((l + b) / 2) (by omega) (by omega)
          omega
theorem getD_bub {p : Array Nat} {k d : Nat} (hk : k < p.size) (hd : d ≤ k) (i : Nat) : (bubble p k d).getD i 0 = if i = k - d then p.getD k 0 else if k - d < i ∧ i ≤ k then p.getD (i - 1) 0 else p.getD i 0 := by
  rw [Array.getD_eq_getD_getElem?, getElem?_bubble hk d hd i]
  by_cases h1 : i = k - d
  · rw [if_pos h1, if_pos h1, ← Array.getD_eq_getD_getElem?]
  · rw [if_neg h1, if_neg h1]
    by_cases h2 : k - d < i ∧ i ≤ k
    · rw [if_pos h2, if_pos h2, ← Array.getD_eq_getD_getElem?]
    · rw [if_neg h2, if_neg h2, ← Array.getD_eq_getD_getElem?]
theorem bin_run (hr : Inj N r) : ∀ (f k : Nat) (p : Array Nat), Prm N p → k + f ≤ N → Up r p k → ∃ q, kRun (ck r) (kas_bin f p k) = q ∧ Prm N q ∧ Up r q (k + f)
  | 0, k, p, h, _, u => ⟨p, rfl, h, u⟩
  | f + 1, k, p, h, hk, u => by
    have hs := h.size
    show ∃ q, kRun (ck r) ((kas_place p k k 0 k).bind fun l => kas_bin f (bubble p k (k - l)) (k + 1)) = q ∧ Prm N q ∧ Up r q (k + (f + 1))
    rw [kRun_bind]
    obtain ⟨l, e0, a, lo, hi⟩ := place_run h hr (by omega) u k 0 k (Nat.le_refl _) (by omega) (by omega) (fun i hi => by omega) (fun i h1 h2 => by omega)
    rw [e0]
    have u' : Up r (bubble p k (k - l)) (k + 1) := fun i j hij hj => by
      rw [getD_bub (by omega) (by omega), getD_bub (by omega) (by omega)]
      have e : k - (k - l) = l := by omega
      rw [e]
      by_cases i1 : i = l
      · rw [if_pos i1, if_neg (by omega), if_pos (by omega)]
        exact hi _ (by omega) (by omega)
      · rw [if_neg i1]
        by_cases i2 : l < i ∧ i ≤ k
        · rw [if_pos i2, if_neg (by omega), if_pos (by omega)]
          exact u _ _ (by omega) (by omega)
        · rw [if_neg i2]
          by_cases j1 : j = l
          · rw [if_pos j1]
            exact lo _ (by omega)
          · rw [if_neg j1]
            by_cases j2 : l < j ∧ j ≤ k
            · rw [if_pos j2]
              exact u _ _ (by omega) (by omega)
            · rw [if_neg j2]
              exact u _ _ hij (by omega)
    have := bin_run hr f (k + 1) _ (h.bub k (k - l)) (by omega) u'
    have e2 : k + 1 + f = k + (f + 1) := by omega
    rw [e2] at this
    exact this
theorem sort_run (hN : 2 ≤ N) (hr : Inj N r) : Prm N (kRun (ck r) (kas_sort N)) ∧ Up r (kRun (ck r) (kas_sort N)) N := by
  unfold kas_sort
  rw [kRun_bind]
  obtain ⟨t, e0, a, b, c, d⟩ := count_run (Prm.start (N := N)) hN hr
  rw [e0]
  by_cases e : t.1 < N
  · rw [if_pos e]
    have m : max t.1 1 = t.1 := by omega
    rw [m]
    obtain ⟨q, e1, q1, q2⟩ := bin_run hr (N - t.1) t.1 t.2 c (by omega) d
    rw [e1]
    rw [show t.1 + (N - t.1) = N by omega] at q2
    exact ⟨q1, q2⟩
  · rw [if_neg e]
    have : t.1 = N := by omega
    rw [this] at d
    exact ⟨c, d⟩
theorem asc_asks {p : Array Nat} (h : Prm N p) (hN : 0 < N) : ∀ (f n : Nat), AsksR N (fun _ => True) (kas_asc p f n)
  | 0, _ => trivial
  | f + 1, n => ⟨h.lt hN _, h.lt hN _, fun b => by
    show AsksR N _ (if b = true then .ret n else kas_asc p f (n + 1))
    split
    · trivial
    · exact asc_asks h hN f (n + 1)⟩
theorem desc_asks (hN : 0 < N) : ∀ (f n q : Nat) (p : Array Nat), Prm N p → AsksR N (fun t => Prm N t.1) (kas_desc f p n q)
  | 0, n, q, p, h => h
  | f + 1, n, q, p, h => ⟨h.lt hN _, h.lt hN _, fun b => by
    show AsksR N _ (if b = true then (if q > 0 then kas_desc f (kas_rev p (n - (q + 1)) n) (n + 1) 0 else kas_desc f p (n + 1) 0)
      else .ask (p.getD (n - 1) 0) (p.getD n 0) fun d => if d = true then .ret (p, n, q) else kas_desc f p (n + 1) (q + 1))
    split
    · split
      · exact desc_asks hN f _ _ _ (h.rev _ _)
      · exact desc_asks hN f _ _ _ h
    · refine ⟨h.lt hN _, h.lt hN _, fun d => ?_⟩
      show AsksR N _ (if d = true then .ret (p, n, q) else kas_desc f p (n + 1) (q + 1))
      split
      · exact h
      · exact desc_asks hN f _ _ _ h⟩
theorem tail3_asks {p : Array Nat} {n m : Nat} (h : Prm N p) (hN : 0 < N) : AsksR N (fun t : Nat × Array Nat => Prm N t.2) (kas_tail3 n m p) := by
  unfold kas_tail3
  refine AsksR.bind (P := fun _ => True) (fun k _ => ?_) (asc_asks (h.rev 0 n) hN _ _)
  exact h.rev 0 n
theorem descPart_asks {p : Array Nat} {n m : Nat} (h : Prm N p) (hN : 0 < N) : AsksR N (fun t => Prm N t.2) (kas_descPart n m p) := by
  refine AsksR.bind (fun t ht => ?_) (desc_asks hN _ _ _ p h)
  split
  · exact tail3_asks (ht.rev _ _) hN
  · exact tail3_asks ht hN
theorem count_asks {p : Array Nat} {m : Nat} (h : Prm N p) (hN : 0 < N) : AsksR N (fun t => Prm N t.2) (kas_count m p) := by
  refine AsksR.bind (fun n _ => ?_) (asc_asks h hN _ _)
  split
  · exact h
  · split
    · refine ⟨h.lt hN _, h.lt hN _, fun b => ?_⟩
      show AsksR N _ (if b = true then .ret (n, p) else kas_descPart n m (kas_rev p 0 n))
      split
      · exact h
      · exact descPart_asks (h.rev 0 n) hN
    · exact descPart_asks h hN
theorem place_asks {p : Array Nat} {k : Nat} (h : Prm N p) (hN : 0 < N) : ∀ (f l b : Nat), AsksR N (fun _ => True) (kas_place p k f l b)
  | 0, _, _ => trivial
  | f + 1, l, b => by
    show AsksR N _ (if l ≥ b then .ret l else .ask (p.getD k 0) (p.getD ((l + b) / 2) 0) fun c => if c = true then kas_place p k f l ((l + b) / 2) else kas_place p k f ((l + b) / 2 + 1) b)
    split
    · trivial
    · refine ⟨h.lt hN _, h.lt hN _, fun c => ?_⟩
      show AsksR N _ (if c = true then kas_place p k f l ((l + b) / 2) else kas_place p k f ((l + b) / 2 + 1) b)
      split
      · exact place_asks h hN f _ _
      · exact place_asks h hN f _ _
theorem bin_asks (hN : 0 < N) : ∀ (f k : Nat) (p : Array Nat), Prm N p → AsksR N (fun t => Prm N t) (kas_bin f p k)
  | 0, _, p, h => h
  | f + 1, k, p, h => AsksR.bind (fun l _ => bin_asks hN f (k + 1) _ (h.bub _ _)) (place_asks h hN _ _ _)
theorem sort_asks (hN : 0 < N) : Asks N (kas_sort N) := by
  refine AsksR.asks (P := fun t => Prm N t) (AsksR.bind (fun t ht => ?_) (count_asks Prm.start hN))
  split
  · exact bin_asks hN _ _ _ ht
  · exact ht
end
end L2
namespace L2
open PySem PySem.Spec PyProof.Rows PySem.W
noncomputable def Bm (mg : Str → Option Value) (h : Heap) : Prop :=
  ∃ bm ob, mg "__builtins__" = some (.ref bm) ∧ bm ≠ builtinsNs ∧ h.get? bm = some ob ∧ ob.cls = .type "module" ∧ ob.dict = some builtinsNs ∧ ob.data = .plain
theorem among_snoc {pos pos' : Pos} {c v : Value} (l : List Value) (h : TriplesOk l) (e : codeAmong pos' (l ++ [rawInt pos.line, rawInt pos.col, c]) = some v) : codeAmong pos' l = some v ∨ v = c := by
  fun_induction TriplesOk l with
  | case1 =>
    simp only [List.nil_append, codeAmong, rawInt] at e
    split at e
    · cases e; exact .inr rfl
    · cases e
  | case2 a t b u d rest ih =>
    simp only [List.cons_append, codeAmong] at e ⊢
    split
    · rename_i q
      rw [if_pos q] at e
      exact .inl e
    · rename_i q
      rw [if_neg q] at e
      exact ih h e
  | case3 => exact h.elim
section
variable {X : Cx} {pins : List (Addr × Obj)} {σ : St} {H : Hp} {s : Shared} {scope : Scope} {ts : List Str} {cs : List Nat}
noncomputable def LamO (X : Cx) (q : Addr) (params : Arguments) (body : Expr) (scope : Scope) (c' : Addr) (ctv : Value) : HO :=
  .ext fun h => h.get? q = some (kla_obj "<lambda>" (X.env.qual ++ "<lambda>") params body scope (closGo X.env.cells scope.names []) ((X.mg "__name__").getD .none) c' ctv)
theorem lam_make {M : Model} {E : Value → Shared → Prop} {Q : Value → Shared → Prop} {params : Arguments} {body : Expr} {pos : Pos} {c P : Addr} (I : Inv X pins σ H s) (O : CompOk X scope ts cs)
    (hcode : X.env.code = .ref c) (C : CodeHd X.base c P) (B : Bm X.mg X.base) (hP : H P = some (.ctab (X.env.qual ++ "<lambda>"))) (hdef : defaultsOf params X.env = ([], []))
    (h : ∀ q c' ctv H' s', Inv X pins σ H' s' → Same H H' → H q = none → H' q = some (LamO X q params body scope c' ctv) → H' c' = some (.cod (X.env.qual ++ "<lambda>")) → Q (.ref q) s') :
    wpAny M X.A (eval (.Lambda params body scope pos) X.env) Q E s := by
  refine kla_eval hdef ?_
  obtain ⟨ps, eP, tr, al⟩ := I.hok P _ hP
  have hg : s.heap.Ns mainGlobals X.mg := I.ok.mod.glob.keeps I.bk
  have C' : CodeHd s.heap c P := C.keeps I.bk
  have nP : ∀ b o, X.base.get? b = some o → b ≠ P := fun b o e z => by
    have q := (I.bs b o e).2
    rw [z, hP] at q
    cases q
  have hgP : mainGlobals ≠ P := by
    obtain ⟨o, es, ep, e, _⟩ := I.ok.mod.glob
    exact nP _ _ e
  have hb : s.heap.BuiltinsAt X.mg P := by
    obtain ⟨bm, ob, b1, b2, b3, b4, b5, b6⟩ := B
    refine ⟨bm, ob, b1, b2, fun q => ?_, nP _ _ b3, I.bk _ _ b3, b4, b5, b6⟩
    obtain ⟨o, es, ep, e, hd, _⟩ := I.ok.mod.glob
    rw [q, e] at b3
    cases b3
    rw [hd] at b6
    cases b6
  have hcl := O.clos I
  cases hn : codeAmong pos ps.toList with
  | none =>
    refine kla_makeFunction (mg := X.mg) hcl I.ok.glob hg hcode C' eP tr hn hgP hb fun c' ctv h' tk hx hge hlt hrec htb => ?_
    have hc0 : H c' = none := I.hok.fresh hge
    have hq0 : H h'.objs.size = none := I.hok.fresh (Nat.le_trans hge (Nat.le_of_lt hlt))
    have ncq : c' ≠ h'.objs.size := Nat.ne_of_lt hlt
    have hcP : c' ≠ P := fun z => by rw [z, hP] at hc0; cases hc0
    generalize hf : (kla_obj "<lambda>" (X.env.qual ++ "<lambda>") params body scope (closGo X.env.cells scope.names []) ((X.mg "__name__").getD .none) c' ctv) = fo
    have sm : Same H (upd (upd H c' (.cod (X.env.qual ++ "<lambda>"))) h'.objs.size (LamO X h'.objs.size params body scope c' ctv)) := fun b u e => by
      rw [upd_ne (ne_of_none e hq0), upd_ne (ne_of_none e hc0)]; exact e
    have keep : ∀ b o, b ≠ P → s.heap.get? b = some o → (h'.push fo).get? b = some o := fun b o hb e => Heap.get?_push_of_some _ (hx b o hb e)
    have nb : ∀ b, H b = none → b ≠ P := fun b n z => by rw [z, hP] at n; cases n
    have hq : (h'.push fo).get? h'.objs.size = some fo := Heap.get?_push_size _ (by rw [← hf]; rfl)
    have hokN : HOk X.prog X.w (upd (upd H c' (.cod (X.env.qual ++ "<lambda>"))) h'.objs.size (LamO X h'.objs.size params body scope c' ctv)) (h'.push fo) := by
      intro b u e
      by_cases hbq : b = h'.objs.size
      · subst hbq
        rw [upd_same] at e
        cases e
        refine ⟨?_, ⟨_, hq⟩, fun h1 h2 e1 k => k _ e1⟩
        exact hq.trans (congrArg some hf.symm)
      · rw [upd_ne hbq] at e
        by_cases hbc : b = c'
        · subst hbc
          rw [upd_same] at e
          cases e
          exact hrec.push _
        · rw [upd_ne hbc] at e
          by_cases hbP : b = P
          · subst hbP
            rw [hP] at e
            cases e
            refine ⟨_, Heap.get?_push_of_some _ htb, ?_, fun pos' v z => ?_⟩
            · rw [Array.toList_append]
              exact TriplesOk_snoc _ _ _ _ tr
            · rw [Array.toList_append] at z
              rcases among_snoc _ tr z with z | z
              · obtain ⟨c2, e1, e2⟩ := al pos' v z
                exact ⟨c2, e1, sm _ _ e2⟩
              · exact ⟨c', z, by rw [upd_ne ncq, upd_same]⟩
          · refine (I.hok b u e).stay (fun c2 v hc2 q => keep c2 v ?_ q) (fun c2 q => sm _ _ q) (fun c2 xs q => sm _ _ q) fun c2 xs q => sm _ _ q
            rcases hc2 with z | z
            · rw [z]; exact hbP
            · intro z2
              rw [z2, hP] at z
              cases z
    refine h _ c' ctv _ _ (I.un (t' := tk) (h' := h'.push fo) ⟨fun b o e n _ _ => keep b o (nb b n) e, fun b o e n _ _ => ⟨o.slots, keep b o (nb b n) e⟩, fun b o e n _ => ?_, fun b o e _ => ?_, fun b xs e => sm _ _ e, fun b o u e => sm _ _ e, fun b ps e => ⟨#[], by rw [sm _ _ e]; simp⟩⟩ hokN) sm hq0 upd_same (by rw [upd_ne ncq, upd_same])
    · have l := Heap.lt_size e
      rw [upd_ne (Nat.ne_of_lt (Nat.lt_of_lt_of_le l (Nat.le_trans hge (Nat.le_of_lt hlt)))), upd_ne (Nat.ne_of_lt (Nat.lt_of_lt_of_le l hge))]
      exact n
    · by_cases hb : b = P
      · exact ⟨_, by rw [hb]; exact Heap.get?_push_of_some _ htb⟩
      · exact ⟨o, keep b o hb e⟩
  | some cv =>
    obtain ⟨c', rfl, hc'⟩ := al pos cv hn
    refine kla_makeFunctionHit (mg := X.mg) hcl I.ok.glob hg hcode C' eP tr hn hb fun ctv h' tk hk hsz => ?_
    have hq0 : H h'.objs.size = none := I.hok.fresh hsz
    have sm : Same H (upd H h'.objs.size (LamO X h'.objs.size params body scope c' ctv)) := Same.upd_new hq0
    refine h _ c' ctv _ _ (I.laid (t' := tk) (fun b o e => Heap.get?_push_of_some _ (hk b o e)) hsz ?_) sm hq0 upd_same (sm _ _ hc')
    exact ⟨Heap.get?_push_size _ rfl, ⟨_, Heap.get?_push_size _ rfl⟩, fun h1 h2 e1 k => k _ e1⟩
noncomputable def cxLam (X : Cx) (A' : Around) (qual : Str) (scope : Scope) (x : Str) (cs : List Nat) (f : Addr) (cd : Value) (s : Shared) (H : Hp) : Cx where
  prog := X.prog
  w := X.w
  K := X.K
  mg := X.mg
  base := X.base
  A := A'.deeper (envX qual scope s.heap.objs.size f cd (closGo X.env.cells scope.names []))
  N := capN X.N [x] cs
  s₀ := s
  H₀ := H
  env := envX qual scope s.heap.objs.size f cd (closGo X.env.cells scope.names [])
  outer := X.stack
  stack := envX qual scope s.heap.objs.size f cd (closGo X.env.cells scope.names []) :: X.stack
  ex := []
  fn := fun _ => false
  calm := true
  pn := []
  xe := fun _ _ => False
noncomputable def capL (v : V) (σ : St) (cs : List Nat) : St := some v :: cs.map fun i => σ.getD i none
theorem lam_start {A' : Around} {qual : Str} {x : Str} {f : Addr} {cd : Value} {h1 : Heap} {tk : Nat} {v : V} {u : Value} (O : CompOk X scope [x] cs) (I : Inv X pins σ H s) (hd : A'.handled = none) (hA : A'.frames = X.A.frames)
    (hn : h1.Ns s.heap.objs.size (fun y => [(x, u)].reverse.lookup y)) (old : ∀ b o, s.heap.get? b = some o → h1.get? b = some o) (r : RelV v u) :
    Inv (cxLam X A' qual scope x cs f cd s H) [] (capL v σ cs) H { s with heap := h1, toks := tk } := by
  have hx : scope.names.lookup x = some .local := O.tgt x (List.mem_singleton.mpr rfl)
  have nof : ∀ b, b ∉ (cxLam X A' qual scope x cs f cd s H).ex := fun b z => nomatch z
  have ok : (cxLam X A' qual scope x cs f cd s H).Ok :=
    { mod := I.ok.mod, kind := O.kind, glob := rfl, blt := rfl, above := Nat.le_refl _
      inj := fun x y c h1 h2 => I.ok.inj x y c (closGo_lookup h1) (closGo_lookup h2)
      has := fun y hy => by
        have hy : scope.names.lookup y = some .cell ∨ scope.names.lookup y = some .free := hy
        rcases hy with hy | hy
        · exact absurd rfl (O.nocell _ (PySem.mem_of_lookup hy))
        · have m := PySem.mem_of_lookup hy
          obtain ⟨c, hc⟩ := I.ok.has y (O.fre _ m rfl)
          exact ⟨c, closGo_has hc m⟩
      cab := fun _ _ h => nomatch h
      hd := fun _ => hd
      frames := Around.frames_deeper (hA.trans I.ok.frames)
      stk := .inr ⟨rfl, rfl⟩
      exf := fun b z => nomatch z
      bs := I.bs
      bsz := Nat.le_trans I.ok.bsz I.sz
      noex := fun b _ _ => nof b
      exfs := fun b z => nomatch z
      funs := I.stack
      frf := I.stkFree }
  refine ⟨ok, rfl, I.bare, Un.kept old, ⟨_, hn, fun i y w e1 e2 e3 => ?_⟩, fun y c h => ?_, I.hok.fresh (Nat.le_refl _), fun y c h => I.freeC y c (closGo_lookup h), fun p hp => absurd (show p ∈ ([] : List (Addr × Obj)) from hp) (by simp), I.hok.kept old, ?_⟩
  · have e1 : (capN X.N [x] cs)[i]? = some y := e1
    cases i with
    | zero =>
      have e1 : x = y := by simpa [capN] using e1
      have e2 : v = w := by simpa [capL] using e2
      subst e1; subst e2
      exact ⟨u, r, .inl ⟨hx, by simp⟩⟩
    | succ i =>
      have e1 : (cs.map fun i => X.N.getD i "")[i]? = some y := by simpa [capN] using e1
      have e2 : (cs.map fun i => σ.getD i none)[i]? = some (some w) := by simpa [capL] using e2
      rw [List.getElem?_map] at e1 e2
      cases q : cs[i]? with
      | none => rw [q] at e1; cases e1
      | some j =>
        rw [q] at e1 e2
        have e1 : X.N.getD j "" = y := Option.some.inj e1
        have e2 : σ.getD j none = some w := Option.some.inj e2
        obtain ⟨y', n1, n2, n3⟩ := O.cap j (List.mem_of_getElem? q)
        have ey : y' = y := n2.symm.trans e1
        subst ey
        have e2' : σ[j]? = some (some w) := by
          rw [List.getD_eq_getElem?_getD] at e2
          cases z : σ[j]? with
          | none => rw [z] at e2; cases e2
          | some z2 => rw [z] at e2; rw [show z2 = some w from e2]
        obtain ⟨m, _, hl⟩ := I.loc
        have m3 := PySem.mem_of_lookup n3
        have kn := O.fre _ m3 rfl
        obtain ⟨u2, r2, lk⟩ := hl j y' w n1 e2' (kn.elim (fun z => .inr (.inl z)) fun z => .inr (.inr z))
        refine ⟨u2, r2, .inr ⟨.inr n3, ?_⟩⟩
        rcases lk with ⟨k, _⟩ | ⟨_, c, hc, hv⟩
        · rcases kn with z | z
          · rw [k] at z; cases z
          · rw [k] at z; cases z
        · obtain ⟨o, ho, hd⟩ := hv
          exact ⟨c, closGo_has hc m3, ⟨o, old _ _ ho, hd⟩⟩
  · obtain ⟨v2, o, ho, hd⟩ := I.cell y c (closGo_lookup h)
    exact ⟨v2, o, old _ _ ho, hd⟩
  · show (capL v σ cs).length = (capN X.N [x] cs).length
    simp [capL, capN]
theorem lam_call {A' : Around} {E : Value → Shared → Prop} {x : Str} {q c' : Addr} {params : Arguments} {body : Expr} {ctv u : Value} {v : V} {te : TE} {Q : VK} (O : CompOk X scope [x] cs) (I : Inv X pins σ H s) (hd : A'.handled = none) (hA : A'.frames = X.A.frames) (room : A'.depth < recursionLimit)
    (hq : H q = some (LamO X q params body scope c' ctv)) (hc : H c' = some (.cod (X.env.qual ++ "<lambda>"))) (r : RelV v u)
    (hbind : ∀ fd : FuncData, fd.params = params → fd.defaults = .none → fd.kwdefaults = .none → bindArgs fd ⟨[u], []⟩ = pure [(x, u)])
    (hco : scope.isCoroutine = false) (hgen : scope.isGenerator = false)
    (he : ∀ cd s H, PE (cxLam X A' (X.env.qual ++ "<lambda>") scope x cs q cd s H) body te) (h : te (capL v σ cs) H Q) :
    wpAny (model X.prog X.w) A' (call (.ref q) [u]) (EP X pins σ Q) E s := by
  refine wpAny_call ?_
  obtain ⟨eq, _⟩ := I.hok q _ hq
  have hcd : s.heap.CodeRec (.ref c') (X.env.qual ++ "<lambda>") := I.hok c' _ hc
  refine kla_callFunE room eq rfl hco hgen rfl hcd ?_
  rw [hbind _ rfl rfl rfl]
  refine wpAny_pure (wpAny_newFunctionEnv O.nocell (fun y hy => by rw [List.mem_singleton.mp hy]; exact O.tgt x (List.mem_singleton.mpr rfl)) (fun h₁ hns hsb => ⟨?_, ?_⟩) O.kind)
  · exact (I.nolimit).fresh _ hsb
  · have old : ∀ b o, s.heap.get? b = some o → h₁.get? b = some o := fun b o e => hsb.extBut b o (Nat.ne_of_lt (Heap.lt_size e)) (Heap.get?_push_of_some _ e)
    have J := lam_start (A' := A') (qual := X.env.qual ++ "<lambda>") (f := q) (cd := .ref c') (tk := s.toks + [(x, u)].length) O I hd hA hns old r
    refine kla_codeExpr ?_
    refine wpAny_mono (he (.ref c') s H [] _ _ H Q J h) (fun w' s' hw => ?_) fun _ _ z => z.elim
    obtain ⟨v', H', J', rv, q'⟩ := hw
    exact ⟨v', H', I.call' (ch := []) J'.os J'.base J'.hok J'.bare (fun b z => absurd z (by simp)), rv, q'⟩
end
end L2
namespace L2
open PySem PySem.Spec PyProof.Rows PySem.W
section
variable {prog : Program} {w : World} {A : Around} {E : Value → Shared → Prop} {s : Shared}
theorem collect_range {r : Addr} {a b c : Int} {t u v : Tok} {n : Nat} {Q : List Value → Shared → Prop} (hh : A.handled = none) (hr : IsRange s.heap r a b c t u v) (hsmall : Builtin.Range.small a b c = true) (hn : Builtin.Range.rangeSize a b c = n) (hlen : n ≤ 2 ^ 24)
    (h : ∀ h' tk (acc : Array Value), (∀ b o, s.heap.get? b = some o → h'.get? b = some o) → ItemsOf (fun i v => ∃ t, v = .int (a + i * c) t) acc n → Q acc.toList { s with heap := h', toks := tk }) :
    wpAny (model prog w) A (collect (.ref r)) Q E s := by
  unfold collect
  refine wpAny_bind (wpAny_runValue (codeAny_builtin entry_proto_collect' ?_))
  show wpAny _ _ (do again (.builtin "list.__iadd__" ⟨[← newList [], .ref r], []⟩)) _ _ s
  refine wpAny_bind (wpAny_newList (wpAny_pure ⟨Code.quiet_builtin _ (by decide +kernel), codeAny_builtin entry_list_iadd' ?_⟩))
  refine wpAny_extend_range (A := A) (R := fun r s' => match r with | .ok (.ret v) => wpAny (model prog w) A (match v with | .ref a => (do match (← load a).data with | .seq xs _ => pure xs.toList | _ => unsupported "internal:collect") | _ => unsupported "internal:collect") Q E s' | .ok _ => False | .error e => E e s') (s := { s with heap := s.heap.push (seqObj "list" #[] 0) }) hh (Heap.get?_push_of_some _ hr) hsmall hn hlen s.heap.objs.size _ 0 (Heap.get?_push_size _ rfl) fun h' tk acc c' hk hS hit => ?_
  refine wpAny_bind (wpAny_load hS ?_)
  exact wpAny_pure (h h' tk acc (fun b o e => hk b o (Nat.ne_of_lt (Heap.lt_size e)) (Heap.get?_push_of_some _ e)) hit)
theorem ints_of_vals : ∀ {ns : List Int} {us : List Value}, Vals (ns.map V.int) us → IntsAre us ns
  | [], _, .nil => .nil
  | n :: ns, _, .cons r t => by
    obtain ⟨tk, rfl⟩ := r
    exact .cons n tk (ints_of_vals t)
theorem lex_ask {b fin : Bool} {Q : Bool → Shared → Prop} : ∀ {xs ys : List Int} {us vs : List Value} {i : Nat}, IntsAre us xs → IntsAre vs ys → fin = decide (xs.length < ys.length) → Q (HT.lexLt xs ys) s → KatLex prog w A b fin Q (us.zip vs) i s
  | _, _, _, _, _, .nil, .nil, hf, h => by
    subst hf
    exact kat_nil h
  | _, _, _, _, _, .nil, .cons _ _ _, hf, h => by
    subst hf
    rw [List.zip_nil_left]
    exact kat_nil (by simpa [HT.lexLt] using h)
  | _, _, _, _, _, .cons _ _ _, .nil, hf, h => by
    subst hf
    rw [List.zip_nil_right]
    exact kat_nil (by simpa [HT.lexLt] using h)
  | _, _, _, _, i, .cons (ns := xs) x t hx, .cons (ns := ys) y u hy, hf, h => by
    rw [List.zip_cons_cons]
    rw [HT.lexLt_cons] at h
    refine kat_cons (wpAny_eqBool_int (kat_go (fun e => ?_) fun e => ?_))
    · have e : x = y := by simpa using e
      rw [if_pos e] at h
      exact kat_yes (lex_ask hx hy (by rw [hf]; simp) h)
    · have e : x ≠ y := by simpa using e
      rw [if_neg e] at h
      refine kat_no ?_
      cases (b && i == 0) with
      | true => exact oneLt_int h
      | false => exact kat_one _ _ (PyProof.Rows.lt_int h)
theorem tup_ask {b : Bool} {Q : Bool → Shared → Prop} {x y : Addr} {us vs : List Value} {xs ys : List Int} (hx : IsTup s.heap x us.toArray) (hy : IsTup s.heap y vs.toArray) (ix : IntsAre us xs) (iy : IntsAre vs ys) (h : Q (HT.lexLt xs ys) s) :
    wpAny (model prog w) A (keyLt' (tuples' b) (.ref x) (.ref y)) Q E s := by
  obtain ⟨ox, ex, _, nx, dx⟩ := hx
  obtain ⟨oy, ey, _, ny, dy⟩ := hy
  refine kat_lt ex dx ey dy ?_
  exact lex_ask ix iy (by rw [List.size_toArray, List.size_toArray, ix.length, iy.length]) h
noncomputable def Keys (h : Heap) (ks : List Value) (kl : Nat → List Int) : Prop := ∀ i, i < ks.length → ∃ a its, ks.getD i .none = .ref a ∧ IsTup h a its.toArray ∧ IntsAre its (kl i) ∧ kl i ≠ []
theorem keys_tups {h : Heap} : ∀ {ks : List Value} {kl : Nat → List Int}, Keys h ks kl → ∃ fs, KatTups h ks fs ∧ fs.length = ks.length ∧ ∀ f ∈ fs, ∃ n t, f = .int n t
  | [], _, _ => ⟨[], .nil, rfl, fun _ z => nomatch z⟩
  | k :: ks, kl, H => by
    obtain ⟨fs, t, hl, hf⟩ := keys_tups (ks := ks) (kl := fun i => kl (i + 1)) fun i hi => by
      obtain ⟨a, its, e, r⟩ := H (i + 1) (by simp; omega)
      exact ⟨a, its, by simpa using e, r⟩
    obtain ⟨a, its, e, ⟨o, ho, hc, n, hd⟩, hi, hn⟩ := H 0 (by simp)
    have e : k = .ref a := by simpa using e
    subst e
    generalize kl 0 = l0 at hi hn
    cases hi with
    | nil => exact absurd rfl hn
    | cons m tk r =>
      exact ⟨.int m tk :: fs, .cons ho hc hd (by simp) t, by simp [hl], fun f hm => (List.mem_cons.mp hm).elim (fun z => ⟨m, tk, z⟩) (hf f)⟩
theorem up_pairs {r : Nat → Int} {N : Nat} {p : Array Nat} (hp : Prm N p) (u : Up r p N) : p.toList.Perm (List.range N) ∧ p.toList.Pairwise fun i j => r i < r j := by
  refine ⟨by simpa using Array.perm_iff_toList_perm.mp hp.perm, ?_⟩
  rw [List.pairwise_iff_getElem]
  intro i j hi hj hij
  have hs := hp.size
  have hi' : i < p.size := by simpa using hi
  have hj' : j < p.size := by simpa using hj
  have q := u i j hij (by omega)
  have e1 : p.getD i 0 = p[i] := by simp [Array.getD, hi']
  have e2 : p.getD j 0 = p[j] := by simp [Array.getD, hj']
  rw [e1, e2] at q
  simpa using q
theorem end_any {ks vs : List Value} {kl : Nat → List Int} {r : Nat → Int} {a : Addr} {e1 : Nat} {kS : Value} {P : PySem.Fin → Shared → Prop} (hl : ks.length = vs.length) (h64 : vs.length < 64) (hk : Keys s.heap ks kl)
    (hr : ∀ i j, i < vs.length → j < vs.length → HT.lexLt (kl i) (kl j) = decide (r i < r j)) (hi : Inj vs.length r)
    (h : ∀ (st : SortSt) (os : List Nat), os.Perm (List.range vs.length) → os.Pairwise (fun i j => r i < r j) → (arrOf st).map (·.2) = List.toArray (os.map fun i => vs.getD i .none) → failedOf st = none → wpAny (model prog w) A (ksk_tail a false e1 kS st) P E s) :
    wpAny (model prog w) A (ksk_end a false vs.toArray e1 kS ks.toArray) P E s := by
  unfold ksk_end
  simp only [Bool.false_eq_true, if_false]
  by_cases h2 : vs.length < 2
  · have hn2 : vs.toArray.size < 2 := by rw [List.size_toArray]; exact h2
    rw [if_pos hn2, if_pos hn2]
    refine wpAny_bind (wpAny_pure (wpAny_bind (wpAny_pure ?_)))
    refine h _ (List.range vs.length) (List.Perm.refl _) ?_ ?_ rfl
    · match vs, h2 with
      | [], _ => exact .nil
      | [_], _ => exact List.pairwise_singleton _ _
      | _ :: _ :: _, h2 => simp at h2; omega
    · show (ks.toArray.zip vs.toArray).map (·.2) = _
      match ks, vs, hl, h2 with
      | [], [], _, _ => simp
      | [_], [_], _, _ => simp
      | _, _ :: _ :: _, _, h2 => simp at h2; omega
      | _ :: _ :: _, [_], hl, _ => simp at hl
  · have h2 : 2 ≤ vs.length := by omega
    have hn2 : ¬ vs.toArray.size < 2 := by rw [List.size_toArray]; omega
    rw [if_neg hn2, if_neg hn2]
    obtain ⟨fs, t, lf, hf⟩ := keys_tups hk
    refine wpAny_bind (kat_kind (T := .type "int") t (by omega) (fun v hv => ?_) rfl ?_)
    · obtain ⟨n, tk, rfl⟩ := hf v hv
      exact Looks.of_pure rfl
    · have hsr := sort_run (N := vs.length) (r := r) h2 hi
      refine wpAny_bind (wpAny_mono (kat_run (Q := fun st' s' => s' = s ∧ ∃ os : List Nat, os.Perm (List.range vs.length) ∧ os.Pairwise (fun i j => r i < r j) ∧ (arrOf st').map (·.2) = List.toArray (os.map fun i => vs.getD i .none) ∧ failedOf st' = none)
        (G := fun p s' => s' = s ∧ p = kRun (ck r) (kas_sort vs.length)) hl h2 h64 (fun p st' s' a1 a2 a3 a4 => ?_) ?_) ?_ fun _ _ z => z)
      · obtain ⟨e, rfl⟩ := a4
        obtain ⟨b1, b2⟩ := up_pairs hsr.1 hsr.2
        exact ⟨e, _, b1, b2, kat_snds hl a2, a3⟩
      · refine kasWp_run (c := ck r) (N := vs.length) (C := fun s' => s' = s) (fun i j Q s' h1 h2 hs hq => ?_) (kas_sort vs.length) s (sort_asks (by omega)) rfl fun s' hs => ⟨hs, rfl⟩
        subst hs
        unfold kas_ask
        obtain ⟨x, us, ex, tx, ix, _⟩ := hk i (by omega)
        obtain ⟨y, ws, ey, ty, iy, _⟩ := hk j (by omega)
        rw [ex, ey]
        refine tup_ask tx ty ix iy ?_
        rw [hr i j h1 h2]
        exact hq _ rfl
      · rintro ⟨⟨⟩, st'⟩ s' ⟨rfl, os, o1, o2, o3, o4⟩
        exact h st' os o1 o2 o3 o4
end
section
variable {X : Cx} {pins : List (Addr × Obj)} {σ : St} {H : Hp} {s : Shared}
theorem Inv.adopt {D : Addr} {h' : Heap} {o : HO} {t' : Nat} (I : Inv X pins σ H s) (hD : H D = none) (hL : D ≠ X.env.locals) (h1 : X.s₀.heap.objs.size ≤ D) (h2 : ∀ x c, X.env.cells.lookup x = some c → c ≠ D) (h3 : ∀ p ∈ X.pn ++ pins, p.1 ≠ D)
    (k : ∀ b u, b ≠ D → s.heap.get? b = some u → h'.get? b = some u) (new : ObjOk X.prog X.w (upd H D o) h' D o) : Inv X pins σ (upd H D o) { s with heap := h', toks := t' } := by
  have sm : Same H (upd H D o) := Same.upd_new hD
  have hn : ∀ b u, H b = some u → b ≠ D := fun b u e z => by rw [z, hD] at e; cases e
  refine I.step (g' := s.gens) (d' := s.drawn) (ch := [D]) (fun b hb => ?_) (fun b u _ _ hc e _ => k b u (fun z => hc (by simp [z])) e) (fun b u _ _ hc e _ => ⟨u.slots, k b u (fun z => hc (by simp [z])) e⟩) (fun b u hc e n => ?_)
    (fun b u hc e => ⟨u, k b u (fun z => hc (by simp [z])) e⟩) (fun b xs e => sm _ _ e) (fun b u xs e => sm _ _ e) (fun b ps e => ⟨#[], by rw [sm _ _ e]; simp⟩) (fun m hm => ?_) (fun b u e => ?_) I.bare
  · have e : b = D := by simpa using hb
    subst e
    exact ⟨.inr h1, hL, h2, h3⟩
  · have : b ≠ D := fun z => hc (by simp [z])
    rw [upd_ne this]
    exact n
  · obtain ⟨o', es, ep, ho, r⟩ := hm
    exact ⟨o', es, ep, k _ o' (Ne.symm hL) ho, r⟩
  · by_cases hb : b = D
    · subst hb
      rw [upd_same] at e
      cases e
      exact new
    · rw [upd_ne hb] at e
      refine (I.hok b u e).stay (fun c v hc q => k c v ?_ q) (fun _ q => sm _ _ q) (fun _ _ q => sm _ _ q) fun _ _ q => sm _ _ q
      rcases hc with z | z
      · rw [z]; exact hb
      · exact hn c _ z
end
section
variable {X : Cx} {pins : List (Addr × Obj)} {σ : St} {H : Hp} {s : Shared} {scope : Scope} {cs : List Nat} {x : Str} {q c' p : Addr} {params : Arguments} {body : Expr} {ctv : Value} {te : TE} {Q : VK} {lo hi : Int} {k : Nat → List Int} {r : Nat → Int}
theorem vals_refs : ∀ (ks : List Addr), Vals (ks.map V.ref) (ks.map Value.ref)
  | [] => .nil
  | _ :: ks => .cons rfl (vals_refs ks)
theorem vals_refs_eq : ∀ {ks : List Addr} {us : List Value}, Vals (ks.map V.ref) us → us = ks.map Value.ref
  | [], _, .nil => rfl
  | _ :: ks, _, .cons e t => by
    have e : _ = Value.ref _ := e
    rw [e, vals_refs_eq t]
    rfl
theorem vals_rng {n : Nat} {acc : Array Value} (hit : ItemsOf (fun i v => ∃ t, v = .int (lo + i * 1) t) acc n) : Vals (rngV lo n) acc.toList := by
  have hl : (rngV lo n).length = acc.toList.length := by
    unfold rngV
    rw [List.length_map, List.length_range, Array.length_toList, hit.1]
  have go : ∀ (xs : List V) (us : List Value), xs.length = us.length → (∀ (i : Nat) x u, xs[i]? = some x → us[i]? = some u → RelV x u) → Vals xs us := by
    intro xs
    induction xs with
    | nil => intro us hl _; cases us with | nil => exact .nil | cons _ _ => cases hl
    | cons x xs ih =>
      intro us hl h
      cases us with
      | nil => cases hl
      | cons u us => exact .cons (h 0 x u rfl rfl) (ih us (by simpa using hl) fun i y w e1 e2 => h (i + 1) y w (by simpa using e1) (by simpa using e2))
  refine go _ _ hl fun i x u e1 e2 => ?_
  obtain ⟨tk, rfl⟩ := hit.2 i u (by simpa using e2)
  unfold rngV at e1
  rw [List.getElem?_map] at e1
  cases z : (List.range n)[i]? with
  | none => rw [z] at e1; cases e1
  | some k =>
    rw [z] at e1
    have hik : i < n := by
      have := (List.getElem?_eq_some_iff.mp z).1
      simpa using this
    rw [List.getElem?_range hik] at z
    cases z
    have e1 : V.int (lo + ((i : Nat) : Int)) = x := Option.some.inj e1
    subst e1
    exact ⟨tk, by rw [Int.mul_one]⟩
theorem vals_pick {n : Nat} {vs : List Value} (h : Vals (rngV lo n) vs) : ∀ os : List Nat, (∀ i ∈ os, i < n) → Vals (os.map fun i : Nat => V.int (lo + i)) (os.map fun i => vs.getD i Value.none)
  | [], _ => .nil
  | i :: os, hm => by
    refine .cons ?_ (vals_pick h os fun j m => hm j (List.mem_cons_of_mem _ m))
    have hi := hm i List.mem_cons_self
    have e1 : (rngV lo n)[i]? = some (.int (lo + (i : Nat))) := by
      unfold rngV
      rw [List.getElem?_map, List.getElem?_range hi]
      rfl
    obtain ⟨u, e2, r2⟩ := h.get e1
    show RelV (V.int (lo + (i : Nat))) (vs.getD i Value.none)
    rw [List.getD_eq_getElem?_getD, e2]
    exact r2
theorem sortK_call (I : Inv X pins σ H s) (hcalm : X.calm = true) (room : X.A.depth < recursionLimit) (O : CompOk X scope [x] cs)
    (hp : H p = some (.rng lo hi)) (b1 : -(2 ^ 62) ≤ lo) (b2 : lo < 2 ^ 62) (b3 : -(2 ^ 62) ≤ hi) (b4 : hi < 2 ^ 62) (h64 : (hi - lo).toNat < 64)
    (hq : H q = some (LamO X q params body scope c' ctv)) (hc : H c' = some (.cod (X.env.qual ++ "<lambda>")))
    (hbind : ∀ (u : Value) (fd : FuncData), fd.params = params → fd.defaults = .none → fd.kwdefaults = .none → bindArgs fd ⟨[u], []⟩ = pure [(x, u)])
    (hco : scope.isCoroutine = false) (hgen : scope.isGenerator = false)
    (he : ∀ A' cd s H, PE (cxLam X A' (X.env.qual ++ "<lambda>") scope x cs q cd s H) body te)
    (hne : ∀ i, k i ≠ [])
    (hk : ∀ i, i < (hi - lo).toNat → ∀ H1, Same H H1 → ∀ Q' : VK, (∀ kp H2, Same H1 H2 → H1 kp = none → H2 kp = some (.tup ((k i).map V.int)) → Q' (.ref kp) H2) → te (capL (.int (lo + i)) σ cs) H1 Q')
    (hr : ∀ i j, i < (hi - lo).toNat → j < (hi - lo).toNat → HT.lexLt (k i) (k j) = decide (r i < r j)) (hinj : Inj (hi - lo).toNat r)
    (fin : ∀ D H' (os : List Nat), Same H H' → H D = none → os.Perm (List.range (hi - lo).toNat) → os.Pairwise (fun i j => r i < r j) → H' D = some (.lst (os.map fun i : Nat => V.int (lo + i))) → Q (.ref D) H') {E : Value → Shared → Prop} :
    wpAny (model X.prog X.w) X.A (call (.builtin "sorted") [.ref p] [(Str.ofString "key", .ref q)]) (EP X pins σ Q) E s := by
  obtain ⟨t, u, v, e⟩ := I.hok p _ hp
  have hn : Builtin.Range.rangeSize lo hi 1 = (((hi - lo).toNat : Nat) : Int) := by rw [rangeSize_one]; split <;> omega
  refine call_function_entry_kw kind_sorted plain_sorted entry_sorted (ksk_s1 _ _) ?_
  unfold Builtin.«sorted»
  refine wpAny_bind (m := checkCount "sorted" 1 1 _) (wpAny_pure ?_)
  refine wpAny_bind (collect_range (A := X.A.in1) (I.ok.hd hcalm) e (small_one b1 b2 b3 b4) hn (by omega) fun h0 tk acc hk0 hit => ?_)
  have lacc : acc.toList.length = (hi - lo).toNat := by rw [Array.length_toList]; exact hit.1
  refine wpAny_bind (wpAny_newList ?_ (by rw [lacc, sizeLine_eq]; omega))
  have I0 : Inv X pins σ H { s with heap := h0, toks := tk } := I.kept hk0
  have hD0 : H h0.objs.size = none := I0.hok.fresh (Nat.le_refl _)
  have hDs : X.s₀.heap.objs.size ≤ h0.objs.size := I0.sz
  have hDL : h0.objs.size ≠ X.env.locals := Nat.ne_of_gt I0.lt
  have hDc : ∀ y c, X.env.cells.lookup y = some c → c ≠ h0.objs.size := fun y c z => by
    obtain ⟨v, o, ho, _⟩ := I0.cell y c z
    exact Nat.ne_of_lt (Heap.lt_size ho)
  have hDp : ∀ p ∈ X.pn ++ pins, p.1 ≠ h0.objs.size := fun p hp => Nat.ne_of_lt (Heap.lt_size (I0.pin p hp).1)
  have hDf : h0.objs.size ∉ X.fs := I0.nofs (Nat.le_refl _)
  have hvi : Vals (rngV lo (hi - lo).toNat) acc.toList := vals_rng hit
  generalize hvs : acc.toList = vs at lacc hvi ⊢
  have ho1 : (h0.push (seqObj "list" vs.toArray 0)).get? h0.objs.size = some (seqObj "list" vs.toArray 0) := Heap.get?_push_size _ rfl
  refine wpAny_bind (wpAny_holding (wpAny_call_entry_kw slot_list_sort ⟨_, ho1, rfl⟩ entry_list_sort ?body (ksk_l1 _ _)))
  show wpAny (model X.prog X.w) X.A.in1.in1 (Builtin.«list.sort» ⟨[.ref h0.objs.size], [(Str.ofString "key", .ref q)]⟩) _ _ _
  rw [ksk_t1]
  unfold ksk_tree
  have ho2 := get?_update_seq ho1 (fun _ => (#[] : Array Value))
  generalize hep : (if ((fun _ => (#[] : Array Value)) vs.toArray).size == vs.toArray.size then 0 else 0 + 1) = e1 at ho2
  refine wpAny_bind (listItems_at ho1 rfl ?_)
  refine wpAny_bind (listUpdate_at ho1 rfl ?_ (by rw [List.size_toArray, sizeLine_eq]; omega) (Nat.zero_le _))
  refine wpAny_bind (seqEpoch_at ho2 rfl ?_)
  have I1 : Inv X pins σ H { s with heap := (h0.push (seqObj "list" vs.toArray 0)).update h0.objs.size (Obj.mapSeq fun _ => (#[] : Array Value)), toks := tk } :=
    I0.kept (t' := tk) fun b o e => ((Heap.SameBut.update _ _ _).2 b (Nat.ne_of_lt (Heap.lt_size e))).trans (Heap.get?_push_of_some _ e)
  have I2 : Inv X (pins ++ [(h0.objs.size, seqObj "list" #[] e1)]) σ H { s with heap := (h0.push (seqObj "list" vs.toArray 0)).update h0.objs.size (Obj.mapSeq fun _ => (#[] : Array Value)), toks := tk } :=
    I1.pins_of fun p hp => (List.mem_append.mp hp).elim (fun z => I1.pin p (List.mem_append_right _ z)) fun z => by
      rw [List.mem_singleton.mp z]
      exact ⟨ho2, hD0, hDL, hDf, fun v z => nomatch z⟩
  generalize hh2 : (h0.push (seqObj "list" vs.toArray 0)).update h0.objs.size (Obj.mapSeq fun _ => (#[] : Array Value)) = h2 at ho2 I1 I2 ⊢
  refine wpAny_bind (wpAny_newTuple ?_ (by show vs.length ≤ _; rw [sizeLine_eq]; omega))
  refine wpAny_bind (wpAny_newList ?_ (Nat.zero_le _))
  refine wpAny_holding ?_
  have I3 := I2.kept (t' := tk) (h' := h2.push (seqObj "tuple" vs.toArray 0)) fun b o e => Heap.get?_push_of_some _ e
  show wpAny (model X.prog X.w) X.A.in1.in1 (ksk_rest h0.objs.size (.ref q) false vs.toArray e1 (.ref (h2.push (seqObj "tuple" vs.toArray 0)).objs.size)) _ _ { s with heap := (h2.push (seqObj "tuple" vs.toArray 0)).push (seqObj "list" #[] 0), toks := tk }
  generalize hh3 : h2.push (seqObj "tuple" vs.toArray 0) = h3 at I3 ⊢
  have I4 := I3.laid (t' := tk) (h' := h3.push (seqObj "list" #[] 0)) (a := h3.objs.size) (o := .lst []) (fun b o e => Heap.get?_push_of_some _ e) (Nat.le_refl _) ⟨Nat.zero_le _, [], 0, .nil, Heap.get?_push_size _ rfl⟩
  have hS0 : H h3.objs.size = none := I3.hok.fresh (Nat.le_refl _)
  generalize h3.objs.size = kS at I4 hS0 ⊢
  generalize h0.objs.size = D at I2 I3 I4 hD0 hDs hDL hDc hDp hDf ⊢
  unfold ksk_rest
  refine wpAny_bind (wpAny_rule ?_)
  first
    | rw [List.forIn_toArray]
    | (rw [← Array.forIn_toList]; simp only [List.toList_toArray])
    | rw [← Array.forIn_toList]
  refine wpAny_bind (ksk_fold (fun i s' => ∃ H' ks, Inv X (pins ++ [(D, seqObj "list" #[] e1)]) σ H' s' ∧ Same H H' ∧ H' kS = some (.lst (ks.map V.ref)) ∧ ks.length = i ∧ ∀ (j : Nat) kp, ks[j]? = some kp → H' kp = some (.tup ((k j).map V.int)))
    vs 0 _ ⟨_, [], I4, Same.upd_new hS0, upd_same, rfl, fun j kp z => by simp at z⟩ (fun j y s' hy hJ => ?_) fun s' hJ => ?_)
  · rw [Nat.zero_add] at hJ ⊢
    obtain ⟨H', ks, J, sm, hkS, lks, kk⟩ := hJ
    have hjN : j < (hi - lo).toNat := by rw [← lacc]; exact (List.getElem?_eq_some_iff.mp hy).1
    have ry : RelV (.int (lo + (j : Nat))) y := by
      have e1 : (rngV lo (hi - lo).toNat)[j]? = some (.int (lo + (j : Nat))) := by
        unfold rngV
        rw [List.getElem?_map, List.getElem?_range hjN]
        rfl
      obtain ⟨u2, e2, r2⟩ := hvi.get e1
      rw [hy] at e2
      cases e2
      exact r2
    refine wpAny_bind (wpAny_attempt (wpAny_mono (lam_call (A' := X.A.in1.in1) (E := fun _ _ => False) (Q := fun v H2 => ∃ kp, v = .ref kp ∧ Same H' H2 ∧ H' kp = none ∧ H2 kp = some (.tup ((k j).map V.int))) O J (I.ok.hd hcalm) rfl room (sm _ _ hq) (sm _ _ hc) ry (hbind y) hco hgen (fun cd s H => he _ cd s H)
      (hk j hjN H' sm _ fun kp H2 s2 n2 e2 => ⟨kp, rfl, s2, n2, e2⟩)) (fun u2 s2 hu => ?_) fun _ _ hF => hF.elim))
    obtain ⟨v2, H2, J2, rv, kp, rfl, sm2, nkp, ekp⟩ := hu
    obtain rfl : u2 = Value.ref kp := rv
    have hkS2 := sm2 _ _ hkS
    obtain ⟨z, its, nn, vi, gS⟩ := J2.hok kS _ hkS2
    obtain rfl := vals_refs_eq vi
    have gS : s2.heap.get? kS = some (seqObj "list" (ks.map Value.ref).toArray nn) := gS
    have l1 : ((ks.map Value.ref).toArray).size < 64 := by rw [List.size_toArray, List.length_map]; omega
    try dsimp only
    refine wpAny_bind (listUpdate_at gS rfl ?_ (by rw [sizeLine_eq]; omega) (Nat.le_trans (Nat.le_of_eq (Array.size_push ..)) (by rw [sizeLine_eq]; omega)))
    have ea : (ks.map Value.ref).toArray.push (Value.ref kp) = ((ks ++ [kp]).map Value.ref).toArray := by simp
    have gS' := get?_update_seq gS (·.push (Value.ref kp))
    have J3 := J2.write (t' := s2.toks) (x := kS) (e := kS) (o := .lst ((ks ++ [kp]).map V.ref)) (h' := s2.heap.update kS (Obj.mapSeq (·.push (Value.ref kp)))) (by rw [hkS2]; trivial) (.inl rfl) (fun b o hb e => ((Heap.SameBut.update _ _ _).2 b hb).trans e) ⟨_, gS'⟩
      ⟨by rw [List.length_map, List.length_append, List.length_singleton, sizeLine_eq]; omega, (ks ++ [kp]).map Value.ref, _, vals_refs _, by rw [gS', ea]⟩
    have nkS : ∀ b xs, H2 b = some (.tup xs) → b ≠ kS := fun b xs e z => by rw [z, hkS2] at e; cases e
    refine wpAny_pure ⟨rfl, _, ks ++ [kp], J3, (sm.trans sm2).upd_late hS0, upd_same, by simp [lks], fun j' kp' ej => ?_⟩
    by_cases hj' : j' < ks.length
    · rw [List.getElem?_append_left hj'] at ej
      have := sm2 _ _ (kk j' kp' ej)
      rw [upd_ne (nkS _ _ this)]
      exact this
    · have lt := (List.getElem?_eq_some_iff.mp ej).1
      have ej2 : j' = j := by simp at lt; omega
      subst ej2
      rw [List.getElem?_append_right (by omega), show j' - ks.length = 0 by omega] at ej
      have ej : kp = kp' := by simpa using ej
      subst ej
      rw [upd_ne (nkS _ _ ekp)]
      exact ekp
  · rw [Nat.zero_add] at hJ
    obtain ⟨H', ks, J, sm, hkS, lks, kk⟩ := hJ
    obtain ⟨z, its, nn, vi, gS⟩ := J.hok kS _ hkS
    obtain rfl := vals_refs_eq vi
    have gS : s'.heap.get? kS = some (seqObj "list" (ks.map Value.ref).toArray nn) := gS
    refine wpAny_bind (listItems_at gS rfl ?_)
    refine end_any (kl := k) (r := r) (by rw [List.length_map]; exact lks) (by omega) (fun i hi' => ?_) (by rw [lacc]; exact hr) (by rw [lacc]; exact hinj) fun st os o1 o2 o3 o4 => ?_
    · rw [List.length_map] at hi'
      obtain ⟨_, its, vi, ti⟩ := J.hok _ _ (kk i ks[i] (List.getElem?_eq_getElem hi'))
      refine ⟨ks[i], its, ?_, ti, ints_of_vals vi, hne i⟩
      simp [hi']
    · have mD : (D, seqObj "list" #[] e1) ∈ X.pn ++ (pins ++ [(D, seqObj "list" #[] e1)]) := List.mem_append_right _ (List.mem_append_right _ (List.mem_singleton.mpr rfl))
      have gS' := get?_update_seq gS (fun _ => (#[] : Array Value))
      have J1 := J.write (t' := s'.toks) (x := kS) (e := kS) (o := .lst []) (h' := s'.heap.update kS (Obj.mapSeq fun _ => (#[] : Array Value))) (by rw [hkS]; trivial) (.inl rfl) (fun b o hb e => ((Heap.SameBut.update _ _ _).2 b hb).trans e) ⟨_, gS'⟩
        ⟨Nat.zero_le _, [], _, .nil, gS'⟩
      have gD := (J1.pin _ mD).1
      have nD := (J1.pin _ mD).2.1
      have lo' : os.length = vs.length := by have := o1.length_eq; simpa using this
      have l1 : ((ks.map Value.ref).toArray).size < 64 := by rw [List.size_toArray, List.length_map]; omega
      have hsz : (List.toArray (os.map fun i => vs.getD i .none)).size < 64 := by rw [List.size_toArray, List.length_map, lo', lacc]; exact h64
      have gD' := get?_update_seq gD (fun _ => List.toArray (os.map fun i => vs.getD i Value.none))
      have hos : ∀ i ∈ os, i < (hi - lo).toNat := fun i hm => by
        have := o1.mem_iff.mp hm
        rw [lacc] at this
        simpa using this
      have J2 : Inv X pins σ _ _ := J1.pins_of fun p hp => J1.pin p (List.mem_append_right _ (List.mem_append_left _ hp))
      have J3 := J2.adopt (t' := s'.toks) (D := D) (o := .lst (os.map fun i : Nat => V.int (lo + i))) (h' := (s'.heap.update kS (Obj.mapSeq fun _ => (#[] : Array Value))).update D (Obj.mapSeq fun _ => List.toArray (os.map fun i => vs.getD i Value.none))) nD hDL hDs hDc hDp
        (fun b o hb e => ((Heap.SameBut.update _ _ _).2 b hb).trans e) ⟨by rw [List.length_map, sizeLine_eq]; omega, os.map fun i => vs.getD i .none, _, vals_pick hvi os hos, gD'⟩
      unfold ksk_tail
      try dsimp only
      rw [o3]
      simp only [Bool.false_eq_true, if_false]
      refine wpAny_bind (listUpdate_at gS rfl ?_ (by rw [sizeLine_eq]; omega) (Nat.zero_le _))
      refine wpAny_bind (wpAny_letGo ?_)
      refine wpAny_bind (seqEpoch_at gD rfl ?_)
      refine wpAny_bind (listUpdate_at gD rfl ?_ (Nat.zero_le _) (Nat.le_of_lt (Nat.lt_of_lt_of_le hsz (by rw [sizeLine_eq]; omega))))
      rw [o4]
      simp only [bne_self_eq_false, Bool.false_eq_true, if_false]
      rw [lacc] at o1
      exact wpAny_pure ⟨_, rfl, wpAny_pure ⟨_, rfl, .ref D, _, J3, rfl, fin D _ os ((sm.upd_late hS0).upd_late hD0) hD0 o1 o2 upd_same⟩⟩
end
end L2
namespace L2
open PySem PySem.Spec PyProof.Rows PySem.W
noncomputable def tSortK (P : Addr) (qual : Str) (cs : List Nat) (ta : TA) (te : TE) : TE := fun σ H Q => ta σ H fun vs H1 => ∃ (p : Addr) (lo hi : Int) (k : Nat → List Int) (r : Nat → Int), vs = [.ref p] ∧ H1 p = some (.rng lo hi) ∧ (-(2 ^ 62) ≤ lo ∧ lo < 2 ^ 62 ∧ -(2 ^ 62) ≤ hi ∧ hi < 2 ^ 62) ∧
  (hi - lo).toNat < 64 ∧ H1 P = some (.ctab qual) ∧ (∀ i, k i ≠ []) ∧
  (∀ i, i < (hi - lo).toNat → ∀ H2, Same H1 H2 → ∀ Q' : VK, (∀ kp H3, Same H2 H3 → H2 kp = none → H3 kp = some (.tup ((k i).map V.int)) → Q' (.ref kp) H3) → te (capL (.int (lo + i)) σ cs) H2 Q') ∧
  (∀ i j, i < (hi - lo).toNat → j < (hi - lo).toNat → HT.lexLt (k i) (k j) = decide (r i < r j)) ∧ Inj (hi - lo).toNat r ∧
  (∀ D H' (os : List Nat), Same H1 H' → H1 D = none → os.Perm (List.range (hi - lo).toNat) → os.Pairwise (fun i j => r i < r j) → H' D = some (.lst (os.map fun i : Nat => V.int (lo + i))) → Q (.ref D) H')
theorem pe_sortK {X : Cx} {scope : Scope} {cs : List Nat} {x : Str} {c P : Addr} {params : Arguments} {body e : Expr} {te : TE} {ta : TA} {p pos lpos kpos : Pos} (hcalm : X.calm = true) (room : X.A.depth < recursionLimit) (hcode : X.env.code = .ref c) (hC : codeHdIn X.K c P = true) (B : Bm X.mg X.base)
    (O : CompOk X scope [x] cs) (hg : Gl X "sorted") (hm : X.mg "sorted" = none) (ha : PA X [e] ta) (he : ∀ A' q cd s H, PE (cxLam X A' (X.env.qual ++ "<lambda>") scope x cs q cd s H) body te)
    (hs : backTo pos (starEach [e] X.env) = (false, eval e X.env) :: backTo pos (starEach [] X.env) := by rfl) (hpl : (backTo pos (starEach [e] X.env)).any (·.1) = false := by rfl)
    (hdef : defaultsOf params X.env = ([], []) := by rfl)
    (hbind : ∀ (u : Value) (fd : FuncData), fd.params = params → fd.defaults = .none → fd.kwdefaults = .none → bindArgs fd ⟨[u], []⟩ = pure [(x, u)] := by intro u fd h1 h2 h3; cases fd; cases h1; cases h2; cases h3; rfl)
    (hco : scope.isCoroutine = false := by rfl) (hgen : scope.isGenerator = false := by rfl) :
    PE X (.Call (.Name "sorted" p) [e] [⟨some "key", .Lambda params body scope lpos, kpos⟩] pos) (tSortK P (X.env.qual ++ "<lambda>") cs ta te) := by
  intro pins s σ H Q I h
  refine wpAny_Call_Name_kw (ld_blt I hg hm boot_sorted ?_)
  refine callWith_kw (thn (ha pos pins s σ H _ I h) fun us s1 ⟨vs, H1, I1, r1, q1⟩ => ?_) hs hpl
  obtain ⟨a, lo, hi, k, r, rfl, hp, ⟨b1, b2, b3, b4⟩, h64, hP, hne, hk, hr, hinj, fin⟩ := q1
  obtain ⟨u, rfl, ru⟩ := vals1 r1
  cases ru
  show wpAny _ _ (evalAll [(do let v ← eval (.Lambda params body scope lpos) X.env; standAt pos; pure v)]) _ _ s1
  refine wpAny_evalAll_cons (wpAny_bind (lam_make I1 O hcode (codeHd_of_K I1.ok.mod.kin hC) B hP hdef fun q c' ctv H2 s2 I2 sm nq eq ec => wpAny_bind (wpAny_standAt (wpAny_pure (wpAny_evalAll_nil ?_)))))
  exact sortK_call I2 hcalm room O (sm _ _ hp) b1 b2 b3 b4 h64 eq ec hbind hco hgen (fun A' cd s H => he A' q cd s H) hne (fun i hi' H3 s3 => hk i hi' H3 (sm.trans s3)) hr hinj
    fun D H' os s' n' o1 o2 e' => fin D H' os (sm.trans s') (sm.free n') o1 o2 e'
end L2
namespace L2
open PySem PySem.Spec PyProof.Rows PySem.W
theorem call_sortedI {X : Cx} : CallR X (.builtin "sorted") (fun xs H Q => ∃ (a : Addr) (ns : List Int), xs = [.ref a] ∧ H a = some (.lst (ns.map V.int)) ∧ ns.length < 64 ∧ ∀ D (ns' : List Int), ns'.Perm ns → ns'.Pairwise (· ≤ ·) → H D = none → Q (.ref D) (upd H D (.lst (ns'.map V.int)))) := by
  intro pins s σ H xs us Q I r h
  obtain ⟨a, ns, rfl, ha, hl, q⟩ := h
  obtain ⟨u, rfl, ru⟩ := vals1 r
  cases ru
  obtain ⟨_, its, nn, vi, e⟩ := I.hok a _ ha
  have ii := ints_of_vals vi
  have hz : its.length = ns.length := by rw [ii.length]
  refine sorted_ints (vs := its) (ns := ns) ⟨_, e, rfl, _, rfl⟩ ii (by omega) fun out ns' hi hp hs => ?_
  obtain ⟨ep, eo⟩ := sortedAll_at s.heap its out
  have lo := hi.length
  have lp := hp.length_eq
  refine ⟨.ref (s.heap.objs.size + 1), _, I.laid (a := s.heap.objs.size + 1) (o := .lst (ns'.map V.int)) (t' := s.toks) (fun b o e => sortedAll_old e) (Nat.le_succ _) ⟨?_, out.toList, ep, vals_ints hi, by simpa using eo⟩, rfl, q _ ns' hp hs (I.hok.fresh (Nat.le_succ _))⟩
  rw [List.length_map, sizeLine_eq]
  omega
end L2
namespace L2
open PySem PySem.Spec PyProof.Rows PySem.W
theorem Fun.okC {P : Program} {w : World} {K : PySem.W.Frag} {mg : Str → Option Value} {base : Heap} {x qual : Str} {st : Stmt} {f c : Addr} {fd : FuncData} {N ps : List Str} {k : Nat} {sp : Sp} (F : Fun K x qual st f fd) (hc : fd.code = .ref c) (S : FnScope N ps (defScope st))
    (len : ∀ vs H Q E, sp vs H Q E → vs.length = ps.length)
    (hbody : ∀ (A : Around) (outer : List Env) (s : Shared) (H : Hp) (vs : List V) (Q : VK) (E : XK), Room k (A.deeper (envOfC qual (defScope st) s.heap.objs.size f (.ref c))) → sp vs H Q E →
      ∃ t, PSs (cxOf CX0 P w K mg base N qual (defScope st) f (.ref c) A outer s H E).nox (defBody st) t ∧ t { nx := fun _ H' => Q .non H', rt := Q } (start N vs) H) : FnOk P w K mg base CX0 (k + 1) f fd ps sp := by
  obtain ⟨oc, od, kV, doc, pm, an, cdv, ct, osl, rfl, lk, hcd⟩ := F.ex
  obtain rfl : cdv = .ref c := hc
  refine fn_of lk hcd S len fun A outer s H vs Q E hr hsp => ?_
  obtain ⟨t, h, q⟩ := hbody A outer s H vs Q E hr hsp
  exact ⟨t, h.nox, q⟩
section
variable {X : Cx} {A' : Around} {qual : Str} {scope : Scope} {x : Str} {cs : List Nat} {f : Addr} {cd : Value} {s : Shared} {H : Hp}
theorem ixl_list : IxR (cxLam X A' qual scope x cs f cd s H) (rIxL X.K) := ix_list
theorem ixl_tup : IxR (cxLam X A' qual scope x cs f cd s H) (rIxT X.K) := ix_tup
end
theorem law_callT {P : Program} {w : World} {K : PySem.W.Frag} {mg mb : Str → Option Value} {CX : CXT} {k : Nat} {fa a : Addr} {fd : FuncData} {x : Str} {sp : Sp} {s₁ : Shared} {vs : List Value} {ns : List Int} (tb : Addr → Option Str)
    (KX : K.In s₁.heap) (hns : s₁.heap.Ns mainGlobals mg) (hb : s₁.heap.Ns builtinsNs mb) (hbb : ∀ x : Str, x ≠ "__name__" → mb x = bootBuiltins x) (hlim : s₁.heap.NoLimit) (hg : s₁.gens = #[]) (hbm : Bm mg s₁.heap)
    (hT : ∀ T q, tb T = some q → s₁.heap.get? T = some (tabObj #[]) ∧ K.lookup T = none ∧ ∃ c, CodeHd s₁.heap c T)
    (ha : s₁.heap.get? a = some { cls := .type "list", data := .seq vs.toArray }) (hi : IntsAre vs ns) (hl : ns.length ≤ sizeLine) (hr : Room k callerA)
    (F : ∀ base : Heap, K.In base → base.Ns mainGlobals mg → Bm mg base → FnOk P w K mg base CX k fa fd [x] sp) (hbind : ∀ (s : Shared) (u : Value), BindsTo s fd ⟨[u], []⟩ [(x, u)])
    (hsp : ∀ H : Hp, (∀ T q, tb T = some q → H T = some (.ctab q)) → SqL K H a (ns.map V.int) → sp [.ref a] H (fun v H' => v = .bl true ∧ ∀ T q, tb T = some q → H' T = some (.ctab q)) fun _ _ _ => False)
    (hCX : ∀ H e s', CX [] H s₁ (fun _ _ _ => False) e s' → False) :
    codeAny (model P w) callerA (.call (.ref fa) ⟨[.ref a], []⟩) (fun r s' => r = .ok (.ret (.bool true)) ∧ OldK s₁.heap s'.heap ∧ s'.os = s₁.os ∧ AllBare s'.gens) s₁ := by
  have rv := vals_ints hi
  have lenV := hi.length
  have nta : tb a = none := by
    cases e : tb a with
    | none => rfl
    | some q =>
      have := (hT a q e).1
      rw [ha] at this
      cases this
  have core : ∀ H : Hp, (∀ b u, H b = some u → (∃ q, tb b = some q ∧ u = .ctab q) ∨ (b = a ∧ ∃ o xs, u = .frz o (.lst xs))) → (∀ T q, tb T = some q → H T = some (.ctab q)) → SqL K H a (ns.map V.int) → HOk P w H s₁.heap → (H a ≠ none → K.lookup a = none) →
      codeAny (model P w) callerA (.call (.ref fa) ⟨[.ref a], []⟩) (fun r s' => r = .ok (.ret (.bool true)) ∧ OldK s₁.heap s'.heap ∧ s'.os = s₁.os ∧ AllBare s'.gens) s₁ := by
    intro H hO hTb hS hok hK
    have base_of : ∀ {b : Addr} {o : Obj}, s₁.heap.get? b = some o → H b = none → (hidT s₁.heap H).get? b = some o := fun e n => hidT_get e n
    have noA : ∀ {b : Addr} {o : Obj}, s₁.heap.get? b = some o → (∀ xs n, o.data ≠ .seq xs n) → (∀ xs, o.data ≠ .fields xs) → H b = none := fun {b o} e d1 d2 => by
      cases q : H b with
      | none => rfl
      | some u =>
        rcases hO b u q with ⟨q', e', _⟩ | ⟨e', _⟩
        · have := (hT b q' e').1
          rw [e] at this
          cases this
          exact absurd rfl (d2 _)
        · subst e'
          rw [ha] at e
          cases e
          exact absurd rfl (d1 _ _)
    have nsK : ∀ {b : Addr} {m : Str → Option Value}, s₁.heap.Ns b m → (hidT s₁.heap H).Ns b m := fun {b m} ⟨o, es, ep, e, d, r⟩ => ⟨o, es, ep, base_of e (noA e (fun _ _ z => by rw [d] at z; cases z) fun _ z => by rw [d] at z; cases z), d, r⟩
    have hKb : K.In (hidT s₁.heap H) := fun b o e => base_of (KX b o e) (by
      cases q : H b with
      | none => rfl
      | some u =>
        rcases hO b u q with ⟨q', e', _⟩ | ⟨e', _⟩
        · rw [(hT b q' e').2.1] at e; cases e
        · subst e'
          rw [hK (by rw [q]; simp)] at e; cases e)
    have hM : Mod K mg (hidT s₁.heap H) := ⟨hKb, nsK hns, ⟨mb, nsK hb, hbb⟩, let ⟨mc, h1, h2⟩ := hlim; ⟨mc, nsK h1, h2⟩⟩
    have hB : Bm mg (hidT s₁.heap H) := by
      obtain ⟨bm, ob, c1, c2, c3, c4, c5, c6⟩ := hbm
      exact ⟨bm, ob, c1, c2, base_of c3 (noA c3 (fun _ _ z => by rw [c6] at z; cases z) fun _ z => by rw [c6] at z; cases z), c4, c5, c6⟩
    have e0 : Env0 P w K mg (hidT s₁.heap H) callerA [] s₁ H := ⟨rfl, hM, fun b o e => of_hidT e, Nat.le_of_eq (hidT_size _ _), trivial, fun b hb => absurd (show b ∈ ([] : List Addr) from hb) (by simp), hok, .of_eq hg⟩
    refine codeAny_mono ((F _ hKb (nsK hns) hB).run callerA [] s₁ H ⟨[.ref a], []⟩ [.ref a] [.ref a] _ _ hr e0 (hbind s₁ (.ref a)) (.cons rfl .nil) (hsp H hTb hS)) fun r s' h => ?_
    cases r with
    | error e => exact (hCX H e s' h).elim
    | ok fl =>
      cases fl with
      | next => exact False.elim h
      | brk => exact False.elim h
      | cont => exact False.elim h
      | ret u =>
        obtain ⟨v, H', os, bare, un, hok', r', q, hT'⟩ := h
        have q' : v = .bl true := q
        subst q'
        obtain rfl : u = Value.bool true := r'
        have all : ∀ b o, s₁.heap.get? b = some o → asItWas s₁.heap s'.heap b o ∧ ∃ o', s'.heap.get? b = some o' := fun b o e => by
          cases q : H b with
          | none =>
            have k := un.keep b o e q (by intro z; exact absurd (show b ∈ ([] : List Addr) from z) (by simp)) (by simp)
            exact ⟨.inl k, o, k⟩
          | some u =>
            rcases hO b u q with ⟨q', e', eu⟩ | ⟨e', o1, xs, eu⟩
            · obtain ⟨t1, t2, c, oc, vc, _, _, _, _, _, _, _, g1, g2, g3, g4, _⟩ := hT b q' e'
              rw [e] at t1
              cases t1
              obtain ⟨ps, ep, _⟩ := hok' b _ (hT' b q' e')
              refine ⟨.inr (.inl ⟨⟨c, oc, vc, g1, g2, g3, g4⟩, rfl, #[], ps, rfl, ?_⟩), _, ep⟩
              rw [ep]
              simp
            · subst eu
              have z2 := un.frzs b o1 _ q
              obtain ⟨e1, _⟩ := hok b _ q
              obtain ⟨e2, _⟩ := hok' b _ z2
              rw [e] at e1; cases e1
              exact ⟨.inl e2, _, e2⟩
        exact ⟨rfl, ⟨fun b o e => (all b o e).1, fun b o e => (all b o e).2⟩, os, bare⟩
  have tabOk : ∀ (H : Hp) T q, tb T = some q → ObjOk P w H s₁.heap T (.ctab q) := fun H T q e => ⟨#[], (hT T q e).1, trivial, fun pos v z => by cases z⟩
  cases hk : K.lookup a with
  | some o =>
    have e := KX a o hk
    rw [ha] at e
    cases e
    refine core (fun b => (tb b).map .ctab) (fun b u z => ?_) (fun T q z => by show (tb T).map _ = _; rw [z]; rfl) (.inr ⟨_, vs.toArray, _, hk, rfl, rfl, rfl, by rw [List.size_toArray, lenV]; exact hl, by simpa using rv⟩) (fun b u z => ?_) fun z => absurd (show (tb a).map HO.ctab = none by rw [nta]; rfl) z
    · have z : (tb b).map HO.ctab = some u := z
      cases e : tb b with
      | none => rw [e] at z; cases z
      | some q => rw [e] at z; cases z; exact .inl ⟨q, rfl, rfl⟩
    · have z : (tb b).map HO.ctab = some u := z
      cases e : tb b with
      | none => rw [e] at z; cases z
      | some q => rw [e] at z; cases z; exact tabOk _ b q e
  | none =>
    refine core (fun b => if b = a then some (.frz { cls := .type "list", data := .seq vs.toArray } (.lst (ns.map V.int))) else (tb b).map .ctab) (fun b u z => ?_) (fun T q z => ?_) (.inl (.inr ⟨{ cls := .type "list", data := .seq vs.toArray }, if_pos rfl⟩)) (fun b u z => ?_) fun _ => hk
    · by_cases hb : b = a
      · have z' := (if_pos hb).symm.trans z
        cases z'
        exact .inr ⟨hb, _, _, rfl⟩
      · have z : (tb b).map HO.ctab = some u := (if_neg hb).symm.trans z
        cases e : tb b with
        | none => rw [e] at z; cases z
        | some q => rw [e] at z; cases z; exact .inl ⟨q, rfl, rfl⟩
    · have : T ≠ a := fun y => by rw [y, nta] at z; cases z
      refine (if_neg this).trans ?_
      rw [z]
      rfl
    · by_cases hb : b = a
      · have z' := (if_pos hb).symm.trans z
        cases z'
        subst hb
        exact ⟨ha, by rw [List.length_map]; exact hl, vs, _, rv, ha⟩
      · have z : (tb b).map HO.ctab = some u := (if_neg hb).symm.trans z
        cases e : tb b with
        | none => rw [e] at z; cases z
        | some q => rw [e] at z; cases z; exact tabOk _ b q e
end L2
namespace L2
open PySem PySem.Spec PyProof.Rows PySem.W
theorem ropes_gotI {H : Hp} {rs : List (Int × Int × Int)} {xs : List V} {i : Nat} {x : V} (h : Reps H (rs.map ropeD) xs) (e : xs[i]? = some x) : ∃ r p, rs[i]? = some r ∧ x = .ref p ∧ H p = some (.tup [.int r.1, .int r.2.1, .int r.2.2]) := by
  obtain ⟨d, e1, e2⟩ := h.got e
  rw [List.getElem?_map] at e1
  cases q : rs[i]? with
  | none => rw [q] at e1; cases e1
  | some r =>
    rw [q] at e1
    cases e1
    obtain ⟨p, rfl, hp⟩ := rep_rope.mp e2
    exact ⟨r, p, rfl, rfl, hp⟩
end L2
namespace L2
open PySem PySem.Spec PyProof.Rows PySem.W
end L2
namespace L2
open PySem
end L2
namespace L2
end L2
namespace L2
end L2
namespace L2
open PySem PySem.Spec PyProof.Rows PySem.W
theorem walk_ofT {l : PySem.W.OpenLaw} {n k : Nat} {q : Program} {loose : List Str} {XP : (Str → Option Value) → Heap → Prop} {YP : World → Heap → Prop} {d : DefRec} {K : Params → PySem.W.Frag} {sp : World → Sp} {x : Str} (tb : Addr → Option Str)
    (hn : l.most = some n) (hn2 : n ≤ sizeLine) (hdf : d.params.defaults = []) (hr : Room k callerA)
    (hY : ∀ (w : World) (h : Heap), YP w h → (K w.params).In h) (hT : ∀ (w : World) (h : Heap), YP w h → ∀ T q, tb T = some q → h.get? T = some (tabObj #[]))
    (F : ∀ (w : World) (mg : Str → Option Value) (fa : Addr) (h : Heap), (K w.params).In h → h.Ns mainGlobals mg → mg d.name = some (.ref fa) →
      ∃ fd : FuncData, (∀ (s : Shared) (u : Value), BindsTo s fd ⟨[u], []⟩ [(x, u)]) ∧ (∀ T q, tb T = some q → (K w.params).lookup T = none ∧ ∃ c, codeHdIn (K w.params) c T = true) ∧
        ∀ base : Heap, (K w.params).In base → base.Ns mainGlobals mg → Bm mg base → FnOk l.prog w (K w.params) mg base CX0 k fa fd [x] (sp w))
    (hsp : ∀ (w : World) (H : Hp) (a : Addr) (ns : List Int), ns.length ≤ n → (∀ T q, tb T = some q → H T = some (.ctab q)) → SqL (K w.params) H a (ns.map V.int) → sp w [.ref a] H (fun v H' => v = .bl true ∧ ∀ T q, tb T = some q → H' T = some (.ctab q)) fun _ _ _ => False) :
    PySem.W.WalkO q loose XP YP l.row.toRowW d [] (fun f vs => PySem.call f vs) := by
  refine Att.attach_call hn hdf fun w s₀ s₁ mg mb fa o pm cd doc a vs ns G Y ho hd hcd hmg hobj hints hlen hg => ?_
  have KX := hY w _ Y
  obtain ⟨fd, hb, hc, hF⟩ := F w mg fa _ KX G.T.g hmg
  exact law_callT tb KX G.T.g G.T.b G.T.builtins G.T.nolimit hg G.T.bmain (fun T q e => ⟨hT w _ Y T q e, (hc T q e).1, let ⟨c, z⟩ := (hc T q e).2; ⟨c, codeHd_of_K KX z⟩⟩) hobj hints (Nat.le_trans hlen hn2) hr hF hb (fun H hO hS => hsp w H a ns hlen hO hS) fun H e s' z => z
end L2
namespace L2
open PySem PySem.Spec PyProof.Rows PySem.W
theorem ObjOk.obj {P : Program} {w : World} {H : Hp} {h : Heap} {a : Addr} {o : HO} (x : ObjOk P w H h a o) : ∃ ob, h.get? a = some ob := by
  cases o with
  | lst xs => obtain ⟨_, _, _, _, e⟩ := x; exact ⟨_, e⟩
  | tup xs => obtain ⟨_, _, _, ob, e, _⟩ := x; exact ⟨_, e⟩
  | dK kvs => obtain ⟨_, _, _, _, o, _, _, e, _⟩ := x; exact ⟨_, e⟩
  | dT kvs => obtain ⟨_, _, _, _, o, _, _, e, _⟩ := x; exact ⟨_, e⟩
  | set S n => obtain ⟨o, _, _, _, e, _⟩ := x; exact ⟨_, e⟩
  | ins C dx fs => obtain ⟨_, _, _, e, _⟩ := x; exact ⟨_, e⟩
  | own y => obtain ⟨_, e⟩ := x; exact ⟨_, e⟩
  | xd fs => obtain ⟨_, ⟨_, _, _, e, _⟩, _⟩ := x; exact ⟨_, e⟩
  | rng lo hi => obtain ⟨_, _, _, e⟩ := x; exact ⟨_, e⟩
  | frz ob u => obtain ⟨e, _⟩ := x; exact ⟨_, e⟩
  | tbl ps => exact ⟨_, show h.get? a = some _ from x⟩
  | cod q => obtain ⟨_, _, _, _, e, g, _⟩ := x; cases e; exact ⟨_, g⟩
  | ctab q => obtain ⟨_, e, _⟩ := x; exact ⟨_, e⟩
  | met f y => exact ⟨_, show h.get? a = some _ from x⟩
  | ext φ => obtain ⟨_, e, _⟩ := x; exact e
structure Flew (P : Program) (w : World) (outer : List Env) (H : Hp) (s : Shared) (ea C : Addr) (H' : Hp) (s' : Shared) : Prop where
  os : s'.os = s.os
  bare : AllBare s'.gens
  un : Un (frs outer) [] H H' s.heap s'.heap
  hok : HOk P w H' s'.heap
  new : s.heap.get? ea = none
  fre : H' ea = none
  fly : ∃ B t, Heap.FlyingW B outer ea (.ref C) (.ref t) s'.heap ∧ (∀ b o, s.heap.get? b = some o → H b = none → b ∉ frs outer → B.get? b = some o) ∧ (∀ b u o, H' b = some u → s'.heap.get? b = some o → B.get? b = some o) ∧ ∀ b o, s.heap.get? b = some o → b ∉ frs outer → ∃ o', B.get? b = some o'
noncomputable def CX1 (P : Program) (w : World) : CXT := fun outer H s E e s' => ∃ ea C H', e = .ref ea ∧ Flew P w outer H s ea C H' s' ∧ E (.ref C) none H'
section
variable {P : Program} {w : World} {outer : List Env} {env : Env} {X : Cx} {pins : List (Addr × Obj)} {σ : St} {H H' : Hp} {s : Shared} {h1 h2 B : Heap} {ea C t : Addr} {L : Addr}
theorem frame_slots (F : h1.FunFrames B outer) (u : h1.UpToSlots h2) {b : Addr} {o : Obj} (hb : b ∈ frs outer) (e : h1.get? b = some o) : ∃ sl, h2.get? b = some { o with slots := sl } := by
  obtain ⟨_, o', ho, hd⟩ := F.mem hb
  rw [e] at ho
  cases ho
  refine u b o e fun vs z => ?_
  rw [z] at hd
  first | exact hd vs rfl | (obtain ⟨es, ep, hd⟩ := hd; cases hd) | cases hd
theorem frs_mem {l : List Env} : ∀ env ∈ l, ∀ b, env.frame = some b → b ∈ frs l := fun env he b hb => List.mem_filterMap.mpr ⟨env, he, hb⟩
theorem raise_leaves {CX : CXT} {A : Around} {K : PySem.W.Frag} {mg : Str → Option Value} {base : Heap} {N : List Str} {qual : Str} {scope : Scope} {f : Addr} {cd : Value} {s₀ : Shared} {H₀ : Hp} {E : XK} {E' : Value → Shared → Prop} {vs : List Value}
    (I : Inv (cxOf CX P w K mg base N qual scope f cd A outer s₀ H₀ E) pins σ H s) (hx : Heap.MadeExcOf s.heap h1 ea (.ref C) vs) (hE : E (.ref C) none H) :
    wpAny (model P w) (A.deeper (envOfC qual scope s₀.heap.objs.size f cd)) (leaving (envOfC qual scope s₀.heap.objs.size f cd) (.ref ea)) (fun _ s'' => CX1 P w outer H₀ s₀ E (.ref ea) s'') E' { s with heap := h1 } := by
  have stk : s.heap.FunFrames base (envOfC qual scope s₀.heap.objs.size f cd :: outer) := I.stack
  have fre : ∀ b ∈ frs (envOfC qual scope s₀.heap.objs.size f cd :: outer), H b = none := I.stkFree
  have bas : Un (frs outer) [] H₀ H s₀.heap s.heap := I.base
  have inB : ∀ b o, s.heap.get? b = some o → b ∉ frs (envOfC qual scope s₀.heap.objs.size f cd :: outer) → (hideAll s.heap (frs (envOfC qual scope s₀.heap.objs.size f cd :: outer))).get? b = some o := fun b o e n => hideAll_get _ e n
  have notL : ∀ b o, s₀.heap.get? b = some o → b ∉ frs outer → b ∉ frs (envOfC qual scope s₀.heap.objs.size f cd :: outer) := fun b o e n m => by
    rcases List.mem_cons.mp (show b ∈ s₀.heap.objs.size :: frs outer from m) with z | z
    · exact absurd (Heap.lt_size e) (by rw [z]; exact Nat.lt_irrefl _)
    · exact n z
  refine wpAny_leaves_madeW (s := { s with heap := h1 }) (base := hideAll s.heap (frs (envOfC qual scope s₀.heap.objs.size f cd :: outer))) I.ok.frames rfl (fun b o q => of_hideAll _ q) (funFrames_hide stk frs_mem) hx fun h2 t fl tp nt us => ?_
  have stay : ∀ b o, s.heap.get? b = some o → b ∉ frs (envOfC qual scope s₀.heap.objs.size f cd :: outer) → h2.get? b = some o := fun b o e n => fl.1 b o (inB b o e n)
  have us' : s.heap.UpToSlots h2 := fun b o e d => us b o (hx.keeps b o e) d
  have trk : ∀ b u, H b = some u → b ∉ frs (envOfC qual scope s₀.heap.objs.size f cd :: outer) := fun b u e m => by rw [fre b m] at e; cases e
  refine ⟨ea, C, H, rfl, ⟨I.os, I.bare, ⟨fun b o e n hb _ => ?_, fun b o e n hb _ => ?_, bas.free, fun b o e _ => ?_, bas.tups, bas.frzs, bas.tbls⟩, fun b u e => ?_, ?_, ?_, hideAll s.heap (frs (envOfC qual scope s₀.heap.objs.size f cd :: outer)), t, fl, fun b o e n hb => ?_, fun b u o e eo => ?_, fun b o e hb => ?_⟩, hE⟩
  · exact stay b o (bas.keep b o e n hb (by simp)) (notL b o e hb)
  · obtain ⟨sl, e1⟩ := bas.slot b o e n hb (by simp)
    obtain ⟨sl2, e2⟩ := frame_slots stk us' (List.mem_cons_of_mem _ hb) e1
    exact ⟨sl2, e2⟩
  · obtain ⟨o1, e1⟩ := bas.there b o e (by simp)
    by_cases m : b ∈ frs (envOfC qual scope s₀.heap.objs.size f cd :: outer)
    · obtain ⟨sl2, e2⟩ := frame_slots stk us' m e1
      exact ⟨_, e2⟩
    · exact ⟨_, stay b o1 e1 m⟩
  · refine (I.hok b u e).stay (fun c v hc q => stay c v ?_ ?_) (fun _ q => q) (fun _ _ q => q) fun _ _ q => q
    · exact q
    · rcases hc with rfl | hc
      · exact trk _ _ e
      · exact trk _ _ hc
  · cases q : s₀.heap.get? ea with
    | none => rfl
    | some o =>
      obtain ⟨o1, e1⟩ := bas.there ea o q (by simp)
      rw [hx.new] at e1
      cases e1
  · cases q : H ea with
    | none => rfl
    | some u =>
      obtain ⟨o1, e1⟩ := ObjOk.obj (I.hok ea u q)
      rw [show s.heap.get? ea = none from hx.new] at e1
      cases e1
  · exact inB b o (bas.keep b o e n hb (by simp)) (notL b o e hb)
  · obtain ⟨o1, e1⟩ := ObjOk.obj (I.hok b u e)
    have e2 := stay b o1 e1 (trk b u e)
    have eo : h2.get? b = some o := eo
    rw [e2] at eo
    cases eo
    exact inB b _ e1 (trk b u e)
  · obtain ⟨o1, e1⟩ := bas.there b o e (by simp)
    exact ⟨o1, inB b o1 e1 (notL b o e hb)⟩
theorem fly_leaves {CX : CXT} {A : Around} {K : PySem.W.Frag} {mg : Str → Option Value} {base : Heap} {N : List Str} {qual : Str} {scope : Scope} {f : Addr} {cd : Value} {s₀ s' : Shared} {H₀ : Hp} {E : XK} {E' : Value → Shared → Prop}
    (I : Inv (cxOf CX P w K mg base N qual scope f cd A outer s₀ H₀ E) pins σ H s) (fw : Flew P w (envOfC qual scope s₀.heap.objs.size f cd :: outer) H s ea C H' s') (hE : E (.ref C) none H') :
    wpAny (model P w) (A.deeper (envOfC qual scope s₀.heap.objs.size f cd)) (leaving (envOfC qual scope s₀.heap.objs.size f cd) (.ref ea)) (fun _ s'' => CX1 P w outer H₀ s₀ E (.ref ea) s'') E' s' := by
  obtain ⟨os, bare, un, hok, new, nfre, B, t, fly, kb, tb, th⟩ := fw
  have stk : s.heap.FunFrames base (envOfC qual scope s₀.heap.objs.size f cd :: outer) := I.stack
  have fre : ∀ b ∈ frs (envOfC qual scope s₀.heap.objs.size f cd :: outer), H b = none := I.stkFree
  have bas : Un (frs outer) [] H₀ H s₀.heap s.heap := I.base
  have notL : ∀ b o, s₀.heap.get? b = some o → b ∉ frs outer → b ∉ frs (envOfC qual scope s₀.heap.objs.size f cd :: outer) := fun b o e n m => by
    rcases List.mem_cons.mp (show b ∈ s₀.heap.objs.size :: frs outer from m) with z | z
    · exact absurd (Heap.lt_size e) (by rw [z]; exact Nat.lt_irrefl _)
    · exact n z
  refine wpAny_leaves_onW I.ok.frames rfl fly fun h2 fl us => ?_
  have inB : ∀ b o, s₀.heap.get? b = some o → H₀ b = none → b ∉ frs outer → B.get? b = some o := fun b o e n hb => kb b o (bas.keep b o e n hb (by simp)) (bas.free b o e n (by simp)) (notL b o e hb)
  refine ⟨ea, C, H', rfl, ⟨os.trans I.os, bare, ⟨fun b o e n hb _ => fl.1 b o (inB b o e n hb), fun b o e n hb _ => ?_, fun b o e n _ => ?_, fun b o e _ => ?_, fun b xs e => un.tups b xs (bas.tups b xs e), fun b o xs e => un.frzs b o xs (bas.frzs b o xs e), fun b ps e => ?_⟩, fun b u e => ?_, ?_, nfre, B, t, fl, inB, fun b u o e eo => ?_, fun b o e hb => ?_⟩, hE⟩
  · obtain ⟨sl, e1⟩ := bas.slot b o e n hb (by simp)
    obtain ⟨sl1, e2⟩ := un.slot b _ e1 (bas.free b o e n (by simp)) (List.mem_cons_of_mem _ hb) (by simp)
    obtain ⟨sl2, e3⟩ := frame_slots fly.2.2.1 us (List.mem_cons_of_mem _ hb) e2
    exact ⟨sl2, e3⟩
  · obtain ⟨o1, e1⟩ := bas.there b o e (by simp)
    exact un.free b o1 e1 (bas.free b o e n (by simp)) (by simp)
  · obtain ⟨o1, e1⟩ := bas.there b o e (by simp)
    obtain ⟨o2, e2⟩ := un.there b o1 e1 (by simp)
    by_cases m : b ∈ frs (envOfC qual scope s₀.heap.objs.size f cd :: outer)
    · obtain ⟨sl2, e3⟩ := frame_slots fly.2.2.1 us m e2
      exact ⟨_, e3⟩
    · obtain ⟨o3, e3⟩ := th b o1 e1 m
      exact ⟨o3, fl.1 b o3 e3⟩
  · obtain ⟨m1, e1⟩ := bas.tbls b ps e
    obtain ⟨m2, e2⟩ := un.tbls b _ e1
    exact ⟨m1 ++ m2, by rw [e2, Array.append_assoc]⟩
  · refine (hok b u e).stay (fun c v hc q => fl.1 c v ?_) (fun _ q => q) (fun _ _ q => q) fun _ _ q => q
    rcases hc with rfl | hc
    · exact tb _ _ _ e q
    · exact tb _ _ _ hc q
  · cases q : s₀.heap.get? ea with
    | none => rfl
    | some o =>
      obtain ⟨o1, e1⟩ := bas.there ea o q (by simp)
      rw [new] at e1
      cases e1
  · obtain ⟨o1, e1⟩ := ObjOk.obj (hok b u e)
    have b1 := tb b u o1 e e1
    have e2 := fl.1 b o1 b1
    have eo : h2.get? b = some o := eo
    rw [e2] at eo
    cases eo
    exact b1
  · obtain ⟨o1, e1⟩ := bas.there b o e (by simp)
    exact th b o1 e1 (notL b o e hb)
theorem pass1 {A : Around} {K : PySem.W.Frag} {mg : Str → Option Value} {base : Heap} {N : List Str} {qual : Str} {scope : Scope} {f : Addr} {cd : Value} {s₀ : Shared} {H₀ : Hp} {E E' : XK} (h : ∀ C a H', E' C a H' → E C a H') :
    Passes (CX1 P w) (cxOf (CX1 P w) P w K mg base N qual scope f cd A outer s₀ H₀ E) E' := fun pins σ H s e s' I z => by
  obtain ⟨ea, C, H', rfl, fw, hE⟩ := z
  exact fly_leaves I fw (h _ _ _ hE)
theorem FnOk.up {K : PySem.W.Frag} {mg : Str → Option Value} {base : Heap} {CX : CXT} {k : Nat} {f : Addr} {fd : FuncData} {ps : List Str} {sp : Sp} (F : FnOk P w K mg base CX0 k f fd ps sp) : FnOk P w K mg base CX k f fd ps sp :=
  ⟨F.len, fun A outer s H args us vs Q E hr he hb hv hs => codeAny_mono (F.run A outer s H args us vs Q E hr he hb hv hs) fun r s' h => by
    cases r with
    | error e => exact False.elim h
    | ok fl =>
      cases fl with
      | ret u => exact h
      | next => exact h
      | brk => exact h
      | cont => exact h⟩
theorem own_in {K : PySem.W.Frag} {hp : Heap} {mg : Str → Option Value} {x : Str} {cl : Addr} {ms : List Value} {nw : String} (kin : K.In hp) (nm : mg x = some (.ref cl)) (ok : excIn K cl ms nw = true) : OwnCls x cl ms nw mg hp := by
  refine ⟨nm, ?_⟩
  unfold excIn at ok
  split at ok
  case h_2 => cases ok
  rename_i dct rec slots at1
  split at ok
  case h_2 => cases ok
  rename_i cl2 more y0 y1 y2 y3 nw2 y5 emro eslots
  simp only [Bool.and_eq_true, beq_iff_eq, Bool.not_eq_true'] at ok
  rcases ok with ⟨⟨⟨⟨⟨e1, e2⟩, nodel⟩, tl⟩, nso⟩, ini⟩
  cases e1
  cases e2
  rcases rec with ⟨n1, n2, n3, n4, n5, n6, n7, n8, n9, n10, n11⟩
  dsimp only at emro nodel nso ini
  cases emro
  cases nodel
  rcases slots with ⟨sl⟩
  dsimp only at eslots
  cases eslots
  exact ⟨more, n4, n1, n5, n2, n6, n7, n8, n9, n10, dct, y0, y1, y2, y3, y5, _, kin _ _ at1, .of_isNs (isNs_of_in kin nso), nsMap_none_of_in kin nso ini, tail_of_in kin tl⟩
noncomputable def tRaise (C : Addr) (E : XK) (ta : TA) : TS := fun _ σ H => ta σ H fun vs H1 => vs.length ≤ sizeLine ∧ E (.ref C) none H1
theorem ps_raise {A : Around} {K : PySem.W.Frag} {mg : Str → Option Value} {base : Heap} {N : List Str} {qual : Str} {scope : Scope} {f : Addr} {cd : Value} {s₀ : Shared} {H₀ : Hp} {E : XK} {x : Str} {ms : List Value} {nw bn ini : String} {ta : TA} {e0 : Expr} {es : List Expr} {np cpos pos : Pos}
    (hd : A.handled = none) (FB : ExcBaseFacts bn nw ini ms) (hm : mg x = some (.ref C)) (ok : excIn K C ms nw = true) (hg : Gl (cxOf (CX1 P w) P w K mg base N qual scope f cd A outer s₀ H₀ E) x) (ha : PA (cxOf (CX1 P w) P w K mg base N qual scope f cd A outer s₀ H₀ E) (e0 :: es) ta)
    (he : starEach (e0 :: es) (envOfC qual scope s₀.heap.objs.size f cd) = (false, eval e0 (envOfC qual scope s₀.heap.objs.size f cd)) :: starEach es (envOfC qual scope s₀.heap.objs.size f cd) := by rfl)
    (hpl : (backTo cpos (starEach es (envOfC qual scope s₀.heap.objs.size f cd))).any (·.1) = false := by rfl) (hdb : (x == ("__debug__" : Str)) = false := by decide) :
    PS (cxOf (CX1 P w) P w K mg base N qual scope f cd A outer s₀ H₀ E) (.Raise (some (.Call (.Name x np) (e0 :: es) [] cpos)) none pos) (tRaise C E ta) := by
  intro pins s σ H D I h
  have O := own_in (mg := mg) I.ok.mod.kin hm ok
  obtain ⟨more, n4, n1, n5, n2, n6, n7, n8, n9, n10, dct, y0, y1, y2, y3, y5, mN, gC, gN, noI, tl⟩ := O.obj
  refine wpAny_Raise_call_subT (C := C) (nm := n1) (q := n5) (N := n4) (bs := n2) (bm := more) (hdct := n6) (sn := n7) (sub := n8) (ab := n9) (col := n10) (dd := dct) (k0 := y0) (k1 := y1) (k2 := y2) (k3 := y3) (k5 := y5) FB (mN := mN) (tl.hasType FB.hasBase) hd
    (by rw [show (cxOf (CX1 P w) P w K mg base N qual scope f cd A outer s₀ H₀ E).env = envOfC qual scope s₀.heap.objs.size f cd from rfl, he]; show (false || (backTo cpos (starEach es (envOfC qual scope s₀.heap.objs.size f cd))).any (·.1)) = false; rw [hpl]; rfl) noI (ld_glob I hg hm ⟨rfl, ?_⟩ hdb)
  have k := ha cpos pins s σ H _ I h
  rw [show (cxOf (CX1 P w) P w K mg base N qual scope f cd A outer s₀ H₀ E).env = envOfC qual scope s₀.heap.objs.size f cd from rfl, he] at k ⊢
  refine Calls.evalArgs_plain (thn k fun us s2 ⟨vs, H2, I2, r2, l2, hE⟩ => ?_)
  exact ⟨rfl, by show us.length ≤ _; rw [← r2.length]; exact l2, I2.bk _ _ gC, gN.keeps I2.bk, tl.keeps I2.bk, fun h1 ea hx => raise_leaves I2 hx hE⟩
theorem Inv.track {D : Addr} {o : HO} (I : Inv X pins σ H s) (hD : H D = none) (h0 : X.s₀.heap.get? D = none) (hL : D ≠ X.env.locals) (h2 : ∀ x c, X.env.cells.lookup x = some c → c ≠ D) (h3 : ∀ p ∈ X.pn ++ pins, p.1 ≠ D)
    (new : ObjOk X.prog X.w (upd H D o) s.heap D o) : Inv X pins σ (upd H D o) s := by
  have sm : Same H (upd H D o) := Same.upd_new hD
  have ne : ∀ b ob, X.s₀.heap.get? b = some ob → b ≠ D := fun b ob e z => by rw [z, h0] at e; cases e
  refine ⟨I.ok, I.os, I.bare, ⟨I.base.keep, I.base.slot, fun b ob e n hx => by rw [upd_ne (ne b ob e)]; exact I.base.free b ob e n hx, I.base.there, fun b xs e => sm _ _ (I.base.tups b xs e), fun b ob xs e => sm _ _ (I.base.frzs b ob xs e), fun b ps e => ?_⟩, I.loc, I.cell, by rw [upd_ne (Ne.symm hL)]; exact I.free, fun x c e => by rw [upd_ne (h2 x c e)]; exact I.freeC x c e, fun p hp => ?_, fun b u e => ?_, I.len⟩
  · obtain ⟨more, e1⟩ := I.base.tbls b ps e
    exact ⟨more, sm _ _ e1⟩
  · obtain ⟨a1, a2, a3⟩ := I.pin p hp
    exact ⟨a1, by rw [upd_ne (h3 p hp)]; exact a2, a3⟩
  · by_cases hb : b = D
    · subst hb
      rw [upd_same] at e
      cases e
      exact new
    · rw [upd_ne hb] at e
      exact (I.hok b u e).stay (fun _ _ _ q => q) (fun _ q => sm _ _ q) (fun _ _ q => sm _ _ q) fun _ _ q => sm _ _ q
theorem fly_inv {s' : Shared} {h5 : Heap} (I : Inv X pins σ H s) (fw : Flew X.prog X.w X.stack H s ea C H' s') :
    ∃ B t, Heap.FlyingW B X.stack ea (.ref C) (.ref t) s'.heap ∧ ∀ h5, Heap.FlyingW B X.stack ea (.ref C) (.ref t) h5 → s'.heap.UpToSlots h5 → Inv X pins σ H' { s' with heap := h5 } := by
  obtain ⟨os, bare, un, hok, new, nfre, B, t, fly, kb, tb, th⟩ := fw
  refine ⟨B, t, fly, fun h5 fl us => I.call' (s' := { s' with heap := h5 }) (ch := []) os ⟨fun b o e n hb _ => fl.1 b o (kb b o e n hb), fun b o e n hb _ => ?_, un.free, fun b o e _ => ?_, un.tups, un.frzs, un.tbls⟩ (fun b u e => ?_) bare (fun b z => absurd z (by simp))⟩
  · obtain ⟨sl1, e2⟩ := un.slot b _ e n hb (by simp)
    obtain ⟨sl2, e3⟩ := frame_slots fly.2.2.1 us hb e2
    exact ⟨sl2, e3⟩
  · by_cases m : b ∈ frs X.stack
    · obtain ⟨o2, e2⟩ := un.there b o e (by simp)
      obtain ⟨sl2, e3⟩ := frame_slots fly.2.2.1 us m e2
      exact ⟨_, e3⟩
    · obtain ⟨o3, e3⟩ := th b o e m
      exact ⟨o3, fl.1 b o3 e3⟩
  · refine (hok b u e).stay (fun c v hc q => fl.1 c v ?_) (fun _ q => q) (fun _ _ q => q) fun _ _ q => q
    rcases hc with rfl | hc
    · exact tb _ _ _ e q
    · exact tb _ _ _ hc q
theorem forget_name {M : Model} {A : Around} {E : Value → Shared → Prop} {i : Nat} {n : Str} {pos : Pos} {Q : Unit → Shared → Prop} (I : Inv X pins σ H s) (hN : X.N.Nodup) (hi : X.N[i]? = some n) (hl : X.env.scope.names.lookup n = some .local)
    (h : ∀ s', Inv X pins (σ.set i none) H s' → Q () s') : wpAny M A (do bindName X.env n .none; unbindBehindTheSuite X.env n pos) Q E s := by
  unfold bindName
  refine wpAny_bind (wpAny_bind (wpAny_holding (wpAny_point (wpAny_bind (store_ok (v := .non) (u := .none) I hN hi (.inl hl) rfl (fun s1 I1 => wpAny_point ?_) (.inr hl))))))
  unfold unbindBehindTheSuite
  have hiσ : i < σ.length := by rw [I.len]; exact (List.getElem?_eq_some_iff.mp hi).1
  obtain ⟨m, hn, lk⟩ := id I1.loc
  obtain ⟨u, ru, l⟩ := lk i n .non hi (by rw [List.getElem?_set_self hiσ]) (.inl hl)
  have hv : m n = some u := by
    rcases l with l | ⟨k, _⟩
    · exact l.2
    · have k : X.env.scope.names.lookup n = some .cell ∨ X.env.scope.names.lookup n = some .free := k
      rw [hl] at k
      rcases k with k | k <;> cases k
  refine wpAny_onRaise (wpAny_unbindName_local hl hn hv (by rw [I.ok.kind]; rfl) fun h' u' hn' sb => h _ ?_)
  have oL := fun b o (e : X.s₀.heap.get? b = some o) => Nat.ne_of_lt (Nat.lt_of_lt_of_le (Heap.lt_size e) I1.ok.above)
  have tr : ∀ b w, H b = some w → b ≠ X.env.locals := fun b w e z => by rw [z, I1.free] at e; cases e
  refine ⟨I1.ok, I1.os, I1.bare, ⟨fun b o e n' hb hx => (sb.2 b (oL b o e)).trans (I1.base.keep b o e n' hb hx), fun b o e n' hb hx => ?_, I1.base.free, fun b o e hx => ?_, I1.base.tups, I1.base.frzs, I1.base.tbls⟩, ⟨_, hn', fun j y v e1 e2 e3 => ?_⟩, fun y c e => ?_, I1.free, I1.freeC, fun p hp => ?_, fun b w e => ?_, by simpa using I.len⟩
  · obtain ⟨sl, e1⟩ := I1.base.slot b o e n' hb hx
    exact ⟨sl, (sb.2 b (oL b o e)).trans e1⟩
  · obtain ⟨o', e1⟩ := I1.base.there b o e hx
    exact ⟨o', (sb.2 b (oL b o e)).trans e1⟩
  · by_cases hj : j = i
    · subst hj
      rw [List.getElem?_set_self hiσ] at e2
      cases e2
    · rw [List.getElem?_set_ne (Ne.symm hj)] at e2
      obtain ⟨u2, r2, l2⟩ := lk j y v e1 (by rw [List.getElem?_set_ne (Ne.symm hj)]; exact e2) e3
      refine ⟨u2, r2, ?_⟩
      rcases l2 with ⟨k, e⟩ | ⟨k, c, e, z⟩
      · refine .inl ⟨k, ?_⟩
        have : y ≠ n := fun z => hj (nodup_ix hN e1 (z ▸ hi))
        simp [this, e]
      · exact .inr ⟨k, c, e, z.sameBut sb (I1.cne y c e)⟩
  · obtain ⟨v2, z⟩ := I1.cell y c e
    exact ⟨v2, z.sameBut sb (I1.cne y c e)⟩
  · obtain ⟨a1, a2, a3, a4⟩ := I1.pin p hp
    exact ⟨(sb.2 p.1 a3).trans a1, a2, a3, a4⟩
  · refine (I1.hok b w e).stay (fun c v hc q => (sb.2 c ?_).trans q) (fun _ q => q) (fun _ _ q => q) fun _ _ q => q
    rcases hc with rfl | hc
    · exact tr _ _ e
    · exact tr _ _ hc
noncomputable def cxX (X : Cx) (ea : Addr) : Cx := { X with A := X.A.mark (some (.ref ea)), calm := false, xe := fun _ _ => False }
theorem Inv.inX (I : Inv X pins σ H s) (ea : Addr) : Inv (cxX X ea) pins σ H s :=
  ⟨⟨I.ok.mod, I.ok.kind, I.ok.glob, I.ok.blt, I.ok.above, I.ok.inj, I.ok.has, I.ok.cab, (fun z => nomatch z), I.ok.frames, I.ok.stk, I.ok.exf, I.ok.bs, I.ok.bsz, I.ok.noex, I.ok.exfs, I.ok.funs, I.ok.frf⟩, I.os, I.bare, I.base, I.loc, I.cell, I.free, I.freeC, I.pin, I.hok, I.len⟩
theorem Inv.outX (hd : X.calm = true → X.A.handled = none) (I : Inv (cxX X ea) pins σ H s) : Inv X pins σ H s :=
  ⟨⟨I.ok.mod, I.ok.kind, I.ok.glob, I.ok.blt, I.ok.above, I.ok.inj, I.ok.has, I.ok.cab, hd, I.ok.frames, I.ok.stk, I.ok.exf, I.ok.bs, I.ok.bsz, I.ok.noex, I.ok.exfs, I.ok.funs, I.ok.frf⟩, I.os, I.bare, I.base, I.loc, I.cell, I.free, I.freeC, I.pin, I.hok, I.len⟩
noncomputable def ExcO (ea C : Addr) : HO := .ext fun h => ∃ o, h.get? ea = some o ∧ o.cls = .ref C
theorem call_in_try {k : Nat} {f : Addr} {fd : FuncData} {ps : List Str} {sp : Sp} {ds : List Value} {dvs : List V} {x : Str} {p pos : Pos} {e : Expr} {es : List Expr} {ta : TA} {Q : VK} {E : XK} (F : FnOk X.prog X.w X.K X.mg X.base (CX1 X.prog X.w) k f fd ps sp) (hr : Room k X.A) (hg : Gl X x) (hm : X.mg x = some (.ref f)) (hk : PySem.W.keepIn X.K (.ref f) = true)
    (hb : Binds X.K fd ps ds) (hd : Vals dvs ds) (ha : PA X.nox (e :: es) ta) (I : Inv X pins σ H s) (h : ta σ H fun vs H1 => sp (vs ++ dvs) H1 Q E) (hdb : (x == ("__debug__" : Str)) = false := by decide)
    (he : starEach (e :: es) X.env = (false, eval e X.env) :: starEach es X.env := by rfl) (hpl : (backTo pos (starEach es X.env)).any (·.1) = false := by rfl) :
    wpAny (model X.prog X.w) X.A (eval (.Call (.Name x p) (e :: es) [] pos) X.env) (EP X pins σ Q) (fun ev s' => ∃ H1 s1, Inv X pins σ H1 s1 ∧ CX1 X.prog X.w X.stack H1 s1 E ev s') s := by
  refine wpAny_Call_Name_kw (ld_glob I hg hm ?_ hdb)
  refine PySem.W.callWith_K (h₀ := X.base) I.ok.mod.kin hk (wpAny_mono (ha pos pins s σ H _ (I.wish _) h) (fun us s1 q => ?_) fun _ _ z => False.elim z) he hpl
  obtain ⟨vs, H1, I1, r, q⟩ := q
  have I1 := I1.unwish
  refine ⟨I1.kIn, ?_⟩
  have r2 : Vals (vs ++ dvs) (us ++ ds) := r.append hd
  have hl : (us ++ ds).length = ps.length := by rw [← r2.length]; exact F.len _ _ _ _ q
  refine wpAny_call (codeAny_mono (F.run X.A X.stack s1 H1 ⟨us, []⟩ (us ++ ds) (vs ++ dvs) Q E hr I1.env0 (hb s1 us I1.kIn hl) r2 q) fun r s' hq => ?_)
  cases r with
  | error ev => exact ⟨H1, s1, I1, hq⟩
  | ok fl =>
    cases fl with
    | ret u => exact I1.after hq
    | next => exact False.elim hq
    | brk => exact False.elim hq
    | cont => exact False.elim hq
noncomputable def tCatch (K : PySem.W.Frag) (Dc : Addr) (i : Nat) (th : TS) (D : Ends) (σ : St) : XK := fun c _ H' => ∃ C, c = .ref C ∧ exmOne K (.ref C) (.ref Dc) = some true ∧ ∀ ea, H' ea = none →
  th { nx := fun σ' H2 => D.nx (σ'.set i none) H2, bk := fun σ' H2 => D.bk (σ'.set i none) H2, ct := fun σ' H2 => D.ct (σ'.set i none) H2, rt := D.rt } (σ.set i (some (.ref ea))) (upd H' ea (ExcO ea C))
theorem catch_ok {i : Nat} {n cx : Str} {Dc : Addr} {th : TS} {D : Ends} {b0 : Stmt} {suite : List Stmt} {np hpos : Pos} {ev : Value} {s' : Shared} (hst : X.stack = X.env :: X.outer) (hfr : X.env.frame = some X.env.locals) (hex : X.ex = []) (hgx : Gl X cx) (hmx : X.mg cx = some (.ref Dc)) (hN : X.N.Nodup) (hi : X.N[i]? = some n)
    (hln : X.env.scope.names.lookup n = some .local) (hs : ∀ ea, PSs (cxX X ea) (b0 :: suite) th) (I1 : Inv X pins σ H s) (cx1 : CX1 X.prog X.w X.stack H s (tCatch X.K Dc i th D σ) ev s') (hdb : (cx == ("__debug__" : Str)) = false := by decide) :
    wpAny (model X.prog X.w) X.A (noteFrame ev X.env) (fun _ s₂ => wpAny (model X.prog X.w) X.A (setFlight ev none) (fun _ s₃ =>
      wpAny (model X.prog X.w) X.A (handleBy ev X.env [.ExceptHandler (some (.Name cx np)) (some n) (b0 :: suite) hpos]) (SP X pins D) X.xe s₃) X.xe s₂) X.xe s' := by
  obtain ⟨ea, C, H', rfl, fw, C2, ec, cat, hth⟩ := cx1
  cases ec
  obtain ⟨B, t, fly, mk⟩ := fly_inv (h5 := s'.heap) I1 fw
  have fre := fw.fre
  have new := fw.new
  rw [hst] at fly
  refine wpAny_looks_onW (by rw [I1.ok.frames, hst]) hfr fly fun h4 held us4 => ?_
  refine wpAny_landsW held fun h5 fl5 us5 => ?_
  have I5 := mk h5 (by rw [hst]; exact fl5) (us4.trans us5)
  obtain ⟨ob, eo, hco⟩ := fl5.there
  refine wpAny_handleBy_cons (codeAny_handlers_test (ld_glob (X := cxX X ea) (I5.inX ea) hgx hmx ?_ hdb)) (by intro q; cases q)
  have lt : Looks (model X.prog X.w) h5 (typeOf (.ref ea)) (.ref C) := by
    have : Looks (model X.prog X.w) h5 (typeOf (.ref ea)) ob.cls := (Looks.ld eo).andThen .now
    rw [hco] at this
    exact this
  refine (exm_one (h := h5) I5.kIn lt cat).here ?_
  refine codeAny_handlers_suite_as ?_
  refine lands_againW fl5 fun h6 fl6 us6 => ?_
  have I6 := mk h6 (by rw [hst]; exact fl6) ((us4.trans us5).trans us6)
  obtain ⟨ob6, eo6, hco6⟩ := fl6.there
  have fld : ∃ vs, ob6.data = .fields vs := by
    obtain ⟨_, _, _, oe, vs, T, oT, ts, a1, a2, a3, _⟩ := fl6
    rw [a1] at eo6
    cases eo6
    exact ⟨vs, by first | exact a3 | exact a2.2⟩
  obtain ⟨fs, fld⟩ := fld
  have It : Inv X pins σ (upd H' ea (ExcO ea C)) { s' with heap := h6 } := by
    refine I6.track fre ?_ ?_ (fun y c e z => ?_) (fun p hp z => ?_) ⟨⟨ob6, eo6, hco6⟩, ⟨ob6, eo6⟩, fun h1 h2 ⟨o, e1, e2⟩ k => ⟨o, k _ e1, e2⟩⟩
    · cases q : X.s₀.heap.get? ea with
      | none => rfl
      | some o =>
        obtain ⟨o1, e1⟩ := I1.base.there ea o q (by rw [hex]; simp)
        rw [new] at e1
        cases e1
    · intro z
      obtain ⟨m, ⟨o, es, ep, e, d, _⟩, _⟩ := I6.loc
      rw [← z] at e
      have e : h6.get? ea = some o := e
      rw [eo6] at e
      cases e
      rw [fld] at d
      cases d
    · obtain ⟨v, o, e1, d⟩ := I6.cell y c e
      rw [z] at e1
      have e1 : h6.get? ea = some o := e1
      rw [eo6] at e1
      cases e1
      rw [fld] at d
      cases d
    · have e1 := (I1.pin p hp).1
      rw [z, new] at e1
      cases e1
  refine store_ok (v := .ref ea) It hN hi (.inl hln) rfl (fun s7 I7 => ?_) (.inr hln)
  refine wpAny_mono (hs ea pins s7 _ _ _ (I7.inX ea) (hth ea fre)) (fun fl s8 q => ?_) fun _ _ z => False.elim z
  have hd := I1.ok.hd
  cases fl with
  | next =>
    obtain ⟨σ8, H8, I8, q8⟩ := q
    exact forget_name (I8.outX hd) hN hi hln fun s9 I9 => ⟨_, _, I9, q8⟩
  | brk =>
    obtain ⟨σ8, H8, I8, q8⟩ := q
    exact forget_name (I8.outX hd) hN hi hln fun s9 I9 => ⟨_, _, I9, q8⟩
  | cont =>
    obtain ⟨σ8, H8, I8, q8⟩ := q
    exact forget_name (I8.outX hd) hN hi hln fun s9 I9 => ⟨_, _, I9, q8⟩
  | ret u =>
    obtain ⟨v, σ8, H8, I8, r8, q8⟩ := q
    exact forget_name (σ := σ8) (I8.outX hd) hN hi hln fun s9 I9 => ⟨v, σ8.set i none, H8, I9, r8, q8⟩
theorem exc_answers {K : PySem.W.Frag} {x t c : Value} (ok : kitOne K t c = some true) : Answers (fun s => K.In s.heap ∧ ∀ M, Looks M s.heap (typeOf x) t) x c true := by
  intro dep tk prog w A R s hs
  obtain ⟨hp, g, d, tt, os⟩ := s
  obtain ⟨⟨kin, ty⟩, fin⟩ := hs
  unfold kitOne at ok
  unfold Builtin.«isinstance.nested»
  refine wpAny_bind ((ty (model prog w)).at ?_)
  by_cases same : (t == c) = true
  · rw [if_pos same]
    first
      | ((repeat lk); exact fin tt)
      | exact wpAny_bind (wpAny_rule (fin tt))
      | exact wpAny_bind (wpAny_rule (wpAny_pure (fin tt)))
  · rw [if_neg same] at ok
    rw [if_neg same]
    obtain ⟨k1, k2, k3⟩ := kit_cls (M := model prog w) kin ok
    have k4 : Looks (model prog w) hp (isInstance x c) true := (ty (model prog w)).andThen k3
    refine wpAny_bind (k1.at ?_)
    rw [if_pos (by decide)]
    k_delta "plainIsInstance"
    refine wpAny_bind (wpAny_bind (k2.at ?_))
    simp only [Bool.not_true, Bool.false_eq_true, if_false]
    refine wpAny_bind (k4.at ?_)
    first
      | exact wpAny_pure (wpAny_pure (fin tt))
      | (simp only [if_true]; first | exact wpAny_pure (wpAny_pure (fin tt)) | exact wpAny_pure (fin tt) | exact wpAny_bind (wpAny_pure (wpAny_pure (fin tt))))
theorem call_excYes {X : Cx} : CallR X (.builtin "isinstance") (fun xs H Q => ∃ ea C v c, xs = [.ref ea, v] ∧ ((∃ u, v = .ref u ∧ c = .ref u) ∨ ∃ T, v = .ty T ∧ c = .type T) ∧ kitOne X.K (.ref C) c = some true ∧ H ea = some (ExcO ea C) ∧ Q (.bl true) H) := by
  intro pins s σ H xs us Q I r h
  obtain ⟨ea, C, v, c, rfl, hv, ok, he, q⟩ := h
  obtain ⟨u1, u2, rfl, r1, r2⟩ := Vals.two r
  cases r1
  have e2 : u2 = c := by
    rcases hv with ⟨u, rfl, rfl⟩ | ⟨T, rfl, rfl⟩
    · exact r2
    · exact r2
  subst e2
  obtain ⟨⟨o, eo, co⟩, _⟩ := I.hok ea _ he
  have lk : ∀ M, Looks M s.heap (typeOf (.ref ea)) (.ref C) := fun M => by
    have : Looks M s.heap (typeOf (.ref ea)) o.cls := (Looks.ld eo).andThen .now
    rw [co] at this
    exact this
  exact call_isinstance (S := fun _ R s => (X.K.In s.heap ∧ ∀ M, Looks M s.heap (typeOf (.ref ea)) (.ref C)) ∧ ∀ tk, R (.ok (.ret (.bool true))) { s with toks := tk }) (fun prog w A R s hs => isinstance_outer (exc_answers ok 0 _ prog w A R s hs) (by intro z; cases z)) ⟨⟨I.kIn, lk⟩, fun tk => ⟨.bl true, H, I.tok tk, rfl, q⟩⟩
theorem call_sumI {X : Cx} (hc : X.calm = true) : CallR X (.builtin "sum") (fun xs H Q => ∃ (a : Addr) (ns : List Int), xs = [.ref a] ∧ H a = some (.lst (ns.map V.int)) ∧ Q (.int ns.sum) H) := by
  intro pins s σ H xs us Q I r h
  obtain ⟨a, ns, rfl, ha, q⟩ := h
  obtain ⟨u, rfl, ru⟩ := vals1 r
  cases ru
  obtain ⟨_, its, nn, vi, e⟩ := I.hok a _ ha
  have ii := ints_of_vals vi
  obtain ⟨zs, ez⟩ := ii.allInts.items
  have en : numsOf its = ns := ii.numsOf
  have en2 : numsOf (intItems zs).toList = ns := by rw [← ez]; exact en
  rw [nums_intItems] at en2
  refine sum_intListG (xs := zs) (I.ok.hd hc) (by rw [← ez]; exact ⟨_, e, rfl, _, rfl⟩) fun h' tk t' hk => ⟨.int ns.sum, H, I.kept hk, ⟨t', ?_⟩, q⟩
  rw [preSum_eq, List.take_of_length_le (by simp), en2]
noncomputable def ExcCls (K : PySem.W.Frag) (C : Addr) : Prop := ∃ bn nw ini ms, ExcBaseFacts bn nw ini ms ∧ excIn K C ms nw = true
theorem ps_raise1 {A : Around} {K : PySem.W.Frag} {mg : Str → Option Value} {base : Heap} {N : List Str} {qual : Str} {scope : Scope} {f : Addr} {cd : Value} {s₀ : Shared} {H₀ : Hp} {E : XK} {x : Str} {ta : TA} {e0 : Expr} {es : List Expr} {np cpos pos : Pos}
    (hd : A.handled = none) (ok : ExcCls K C) (hm : mg x = some (.ref C)) (hg : Gl (cxOf (CX1 P w) P w K mg base N qual scope f cd A outer s₀ H₀ E) x) (ha : PA (cxOf (CX1 P w) P w K mg base N qual scope f cd A outer s₀ H₀ E) (e0 :: es) ta)
    (he : starEach (e0 :: es) (envOfC qual scope s₀.heap.objs.size f cd) = (false, eval e0 (envOfC qual scope s₀.heap.objs.size f cd)) :: starEach es (envOfC qual scope s₀.heap.objs.size f cd) := by rfl)
    (hpl : (backTo cpos (starEach es (envOfC qual scope s₀.heap.objs.size f cd))).any (·.1) = false := by rfl) (hdb : (x == ("__debug__" : Str)) = false := by decide) :
    PS (cxOf (CX1 P w) P w K mg base N qual scope f cd A outer s₀ H₀ E) (.Raise (some (.Call (.Name x np) (e0 :: es) [] cpos)) none pos) (tRaise C E ta) := by
  obtain ⟨bn, nw, ini, ms, FB, ok⟩ := ok
  exact ps_raise hd FB hm ok hg ha he hpl hdb
theorem Fun.okX {K : PySem.W.Frag} {mg : Str → Option Value} {base : Heap} {x qual : Str} {st : Stmt} {f : Addr} {fd : FuncData} {N ps : List Str} {k : Nat} {sp : Sp} (F : Fun K x qual st f fd) (S : FnScope N ps (defScope st)) (len : ∀ vs H Q E, sp vs H Q E → vs.length = ps.length)
    (hbody : ∀ (cdv : Value) (A : Around) (outer : List Env) (s : Shared) (H : Hp) (vs : List V) (Q : VK) (E : XK), Room k (A.deeper (envOfC qual (defScope st) s.heap.objs.size f cdv)) → sp vs H Q E →
      ∃ t, PSs (cxOf (CX1 P w) P w K mg base N qual (defScope st) f cdv A outer s H E) (defBody st) t ∧ t { nx := fun _ H' => Q .non H', rt := Q } (start N vs) H) : FnOk P w K mg base (CX1 P w) (k + 1) f fd ps sp := by
  obtain ⟨oc, od, kV, doc, pm, an, cdv, ct, osl, rfl, lk, hcd⟩ := F.ex
  exact fn_of lk hcd S len fun A outer s H vs Q E hr hsp => hbody cdv A outer s H vs Q E hr hsp
theorem rRaise {Cl : Addr} {E : XK} {ta : TA} {D : Ends} {σ : St} {H : Hp} : tRaise Cl E ta D σ H = ta σ H fun vs H1 => vs.length ≤ sizeLine ∧ E (.ref Cl) none H1 := rfl
end
end L2
namespace L2
open PySem PySem.Spec PyProof.Rows PySem.W
theorem comp_ints {K : PySem.W.Frag} {a D : Addr} {xs : List V} {te : TE} {caps : St} {H1 : Hp} {Q : VK} {o : Option V} (zs : List Int) (ha : H1 a = some (.lst xs)) (hD : H1 D = none) (hlr : zs.length = xs.length) (hz : xs.length ≤ 1000)
    (he : ∀ (i : Nat) x z, xs[i]? = some x → zs[i]? = some z → ∀ H (Q' : VK), Same H1 H → Q' (.int z) H → te (some x :: caps) H Q')
    (hd : Q (.ref D) (upd H1 D (.lst (zs.map V.int)))) : cBody (Itl K a) D (gName 0) tYes te (o :: caps) (upd H1 D (.lst [])) Q := by
  have nD : a ≠ D := ne_of_none ha hD
  refine comp_list (xs := xs) (fun i ys H => ys = (zs.take i).map V.int ∧ H = upd H1 D (.lst ys)) ⟨by simp, rfl⟩ ?_ ?_ ?_
  · rintro i ys H _ ⟨rfl, rfl⟩
    exact ⟨SqL.of (by rw [upd_ne nD]; exact ha), upd_same⟩
  · rintro i x ys H hx ⟨rfl, rfl⟩
    unfold tYes
    have hi : i < xs.length := (List.getElem?_eq_some_iff.mp hx).1
    have ez : zs[i]? = some zs[i] := List.getElem?_eq_getElem (by omega)
    refine iteT (he i x _ hx ez _ _ (Same.upd_new hD) ⟨upd_same, ?_, cn ⟨?_, by rw [upd_upd]⟩⟩)
    · rw [List.length_map, List.length_take]
      have := big1000
      omega
    · rw [take_snoc ez, List.map_append]
      rfl
  · rintro ys H ⟨rfl, rfl⟩
    rw [← hlr, List.take_length]
    exact hd
end L2
namespace L2
open PySem PySem.Spec PyProof.Rows PySem.W
theorem rIsN {ta : TE} {σ : St} {H : Hp} {Q : VK} : tIsN ta σ H Q = ta σ H fun x H1 => Q (.bl (decide (x = .non))) H1 := rfl
theorem rNotN {ta : TE} {σ : St} {H : Hp} {Q : VK} : tNotN ta σ H Q = ta σ H fun x H1 => Q (.bl (!decide (x = .non))) H1 := rfl
end L2
namespace L2
open PySem PySem.Spec PyProof.Rows PySem.W
theorem FnOk.down {P : Program} {w : World} {K : PySem.W.Frag} {mg : Str → Option Value} {base : Heap} {k : Nat} {f : Addr} {fd : FuncData} {ps : List Str} {sp : Sp} (F : FnOk P w K mg base (CX1 P w) k f fd ps sp) : FnOk P w K mg base CX0 k f fd ps (fun vs H Q _ => sp vs H Q fun _ _ _ => False) :=
  ⟨fun vs H Q _ h => F.len vs H Q _ h, fun A outer s H args us vs Q E hr he hb hv hs => codeAny_mono (F.run A outer s H args us vs Q _ hr he hb hv hs) fun r s' h => by
    cases r with
    | error e => obtain ⟨_, _, _, _, _, z⟩ := h; exact z.elim
    | ok fl =>
      cases fl with
      | ret u => exact h
      | next => exact h
      | brk => exact h
      | cont => exact h⟩
theorem FnOk.or {P : Program} {w : World} {K : PySem.W.Frag} {mg : Str → Option Value} {base : Heap} {CX : CXT} {k : Nat} {f : Addr} {fd : FuncData} {ps : List Str} {sp sp' : Sp} (F : FnOk P w K mg base CX k f fd ps sp) (G : FnOk P w K mg base CX k f fd ps sp') :
    FnOk P w K mg base CX k f fd ps (fun vs H Q E => sp vs H Q E ∨ sp' vs H Q E) :=
  ⟨fun vs H Q E h => h.elim (F.len vs H Q E) (G.len vs H Q E), fun A outer s H args us vs Q E hr he hb hv hs => hs.elim (F.run A outer s H args us vs Q E hr he hb hv) (G.run A outer s H args us vs Q E hr he hb hv)⟩
end L2
namespace L2
open PySem PySem.Spec PyProof.Rows PySem.W
end L2
namespace L2
open PySem PySem.Spec PyProof.Rows PySem.W
end L2
namespace L2
open PySem
theorem rBM0 {K : PySem.W.Frag} {T : String} {f : V → List V → Hp → VK → Prop} {te : TE} {σ : St} {H : Hp} {Q : VK} : tBM0 K T f te σ H Q = te σ H fun x H1 => tyV K T x H1 ∧ f x [] H1 Q := rfl
end L2
namespace L2
open PySem
theorem it_key {t : TI} {σ : St} {H : Hp} {R : It → Hp → Prop} (F : It → Hp → Prop) (h : ∀ KK : It → Hp → Prop, (∀ J H', F J H' → KK J H') → t σ H KK) (g : ∀ J H', F J H' → R J H') : t σ H R := h R g
end L2
namespace L2
open PySem PySem.Spec PySem.Calls PyProof.Rows PySem.W
section
variable {X : Cx} {pins : List (Addr × Obj)} {σ : St} {H : Hp} {s : Shared}
end
section
variable {prog : Program} {w : World} {A : Around} {E : Value → Shared → Prop} {s : Shared}
theorem keys_keep {h h' : Heap} {ks : List Value} {kl : Nat → List Int} (H : Keys h ks kl) (k : ∀ b its, IsTup h b its → IsTup h' b its) : Keys h' ks kl := fun i hi => let ⟨a, its, e, t, r⟩ := H i hi; ⟨a, its, e, k _ _ t, r⟩
theorem list_sort_tups {a : Addr} {vs : List Value} {n : Nat} {kl : Nat → List Int} {r : Nat → Int} {P : PySem.Fin → Shared → Prop} (ho : s.heap.get? a = some (seqObj "list" vs.toArray n)) (h64 : vs.length < 64) (hk : Keys s.heap vs kl)
    (hr : ∀ i j, i < vs.length → j < vs.length → HT.lexLt (kl i) (kl j) = decide (r i < r j)) (hi : Inj vs.length r)
    (h : ∀ os : List Nat, os.Perm (List.range vs.length) → os.Pairwise (fun i j => r i < r j) → P (.done (.ret .none)) { s with heap := sortedHeap s.heap a vs (List.toArray (os.map fun i => vs.getD i .none)) }) :
    wpAny (model prog w) A (Builtin.«list.sort» ⟨[.ref a], []⟩) P E s := by
  rw [list_sort_plain]
  have ha : a < s.heap.objs.size := Heap.lt_size ho
  refine wpAny_bind (listItems_at ho rfl ?_)
  refine wpAny_bind (listUpdate_at ho rfl ?_ (by rw [List.size_toArray, sizeLine_eq]; omega) (Nat.zero_le _))
  obtain ⟨e1, ho1⟩ : ∃ e1, (s.heap.update a (Obj.mapSeq fun _ => #[])).get? a = some (seqObj "list" #[] e1) := ⟨_, get?_update_seq ho (fun _ => #[])⟩
  refine wpAny_bind (seqEpoch_at ho1 rfl ?_)
  refine wpAny_bind (wpAny_newTuple ?_ (by show vs.length ≤ _; rw [sizeLine_eq]; omega))
  refine wpAny_bind (wpAny_newList ?_ (Nat.zero_le _))
  refine wpAny_holding ?_
  have ho6 : (((s.heap.update a (Obj.mapSeq fun _ => #[])).push (seqObj "tuple" vs.toArray 0)).push (seqObj "list" #[] 0)).get? a = some (seqObj "list" #[] e1) := by
    rw [Heap.get?_push_ne _ _ _ (by rw [size_push', Heap.size_update]; exact Nat.ne_of_lt (Nat.lt_succ_of_lt ha)), Heap.get?_push_ne _ _ _ (by rw [Heap.size_update]; exact Nat.ne_of_lt ha)]
    exact ho1
  show wpAny (model prog w) A _ P E { s with heap := ((s.heap.update a (Obj.mapSeq fun _ => #[])).push (seqObj "tuple" vs.toArray 0)).push (seqObj "list" #[] 0) }
  dsimp only
  have hk' : Keys (((s.heap.update a (Obj.mapSeq fun _ => #[])).push (seqObj "tuple" vs.toArray 0)).push (seqObj "list" #[] 0)) vs kl := keys_keep hk fun b its ⟨o, e, c, n', d⟩ => by
    have nb : b ≠ a := fun z => by rw [z, ho] at e; cases e; exact absurd (Value.type.inj c) (by decide)
    exact ⟨o, Heap.get?_push_of_some _ (Heap.get?_push_of_some _ (by rw [Heap.get?_update_ne _ _ _ _ nb]; exact e)), c, n', d⟩
  have hsz : ∀ os : List Nat, os.Perm (List.range vs.length) → (List.toArray (os.map fun i => vs.getD i Value.none)).size ≤ sizeLine + 1 := fun os o1 => by
    have := o1.length_eq
    rw [List.length_range] at this
    rw [List.size_toArray, List.length_map, sizeLine_eq]
    omega
  by_cases h2 : vs.toArray.size < 2
  · rw [if_pos h2, if_pos h2]
    refine wpAny_bind (wpAny_pure ?_)
    rw [StateT.run_pure]
    refine wpAny_bind (wpAny_pure ?_)
    dsimp only
    have h2' : vs.length < 2 := by simpa using h2
    have eo : (arrOf (SortSt.mk' general' (vs.toArray.zip vs.toArray) #[] 7 none)).map (·.2) = List.toArray ((List.range vs.length).map fun i => vs.getD i Value.none) := by
      show (vs.toArray.zip vs.toArray).map (·.2) = _
      match vs, h2' with
      | [], _ => simp
      | [_], _ => simp
      | _ :: _ :: _, h2 => simp at h2; omega
    rw [eo]
    refine wpAny_bind (seqEpoch_at ho6 rfl ?_)
    refine wpAny_bind (listUpdate_at ho6 rfl ?_ (Nat.zero_le _) (hsz _ (List.Perm.refl _)))
    simp only [bne_self_eq_false, Bool.false_eq_true, if_false]
    refine wpAny_pure (h _ (List.Perm.refl _) ?_)
    match vs, h2' with
    | [], _ => exact .nil
    | [_], _ => exact List.pairwise_singleton _ _
    | _ :: _ :: _, h2 => simp at h2; omega
  · have h2 : 2 ≤ vs.length := by simpa using h2
    have hn2 : ¬ vs.toArray.size < 2 := by rw [List.size_toArray]; omega
    rw [if_neg hn2, if_neg hn2]
    obtain ⟨fs, t, lf, hf⟩ := keys_tups hk'
    refine wpAny_bind (kat_kind (T := .type "int") t (by omega) (fun v hv => ?_) rfl ?_)
    · obtain ⟨n, tk, rfl⟩ := hf v hv
      exact Looks.of_pure rfl
    · have hsr := sort_run (N := vs.length) (r := r) h2 hi
      unfold sortedHeap at h
      generalize ((s.heap.update a (Obj.mapSeq fun _ => #[])).push (seqObj "tuple" vs.toArray 0)).push (seqObj "list" #[] 0) = hh at hk' ho6 h ⊢
      refine wpAny_bind (wpAny_mono (kat_run (Q := fun st' s' => s' = { s with heap := hh } ∧ ∃ os : List Nat, os.Perm (List.range vs.length) ∧ os.Pairwise (fun i j => r i < r j) ∧ (arrOf st').map (·.2) = List.toArray (os.map fun i => vs.getD i .none) ∧ failedOf st' = none)
        (G := fun p s' => s' = { s with heap := hh } ∧ p = kRun (ck r) (kas_sort vs.length)) rfl h2 h64 (fun p st' s' a1 a2 a3 a4 => ?_) ?_) ?_ fun _ _ z => z)
      · obtain ⟨e, rfl⟩ := a4
        obtain ⟨b1, b2⟩ := up_pairs hsr.1 hsr.2
        exact ⟨e, _, b1, b2, kat_snds rfl a2, a3⟩
      · refine kasWp_run (c := ck r) (N := vs.length) (C := fun s' => s' = { s with heap := hh }) (fun i j Q s' h1 h2 hs hq => ?_) (kas_sort vs.length) { s with heap := hh } (sort_asks (by omega)) rfl fun s' hs => ⟨hs, rfl⟩
        subst hs
        unfold kas_ask
        obtain ⟨x, us, ex, tx, ix, _⟩ := hk' i (by omega)
        obtain ⟨y, ws, ey, ty, iy, _⟩ := hk' j (by omega)
        rw [ex, ey]
        refine tup_ask tx ty ix iy ?_
        rw [hr i j h1 h2]
        exact hq _ rfl
      · rintro ⟨⟨⟩, st'⟩ s' ⟨rfl, os, o1, o2, o3, o4⟩
        dsimp only
        rw [o3]
        refine wpAny_bind (seqEpoch_at ho6 rfl ?_)
        refine wpAny_bind (listUpdate_at ho6 rfl ?_ (Nat.zero_le _) (hsz _ o1))
        rw [o4]
        simp only [bne_self_eq_false, Bool.false_eq_true, if_false]
        exact wpAny_pure (h os o1 o2)
end
section
variable {X : Cx}
theorem call_sortedT : CallR X (.builtin "sorted") (fun xs H Q => ∃ (a : Addr) (ps : List Addr) (k : Nat → List Int) (r : Nat → Int), xs = [.ref a] ∧ H a = some (.lst (ps.map V.ref)) ∧ ps.length < 64 ∧ (∀ i, k i ≠ []) ∧ (∀ (i : Nat) kp, ps[i]? = some kp → H kp = some (.tup ((k i).map V.int))) ∧
    (∀ i j, i < ps.length → j < ps.length → HT.lexLt (k i) (k j) = decide (r i < r j)) ∧ Inj ps.length r ∧
    ∀ D (os : List Nat), os.Perm (List.range ps.length) → os.Pairwise (fun i j => r i < r j) → H D = none → Q (.ref D) (upd H D (.lst (os.map fun i => V.ref (ps.getD i 0))))) := by
  intro pins s σ H xs us Q I r h
  obtain ⟨a, ps, k, rk, rfl, ha, hl, hne, hkp, hr, hinj, q⟩ := h
  obtain ⟨u, rfl, ru⟩ := vals1 r
  cases ru
  obtain ⟨_, its, nn, vi, e⟩ := I.hok a _ ha
  obtain rfl := vals_refs_eq vi
  generalize hvs : ps.map Value.ref = vs at e
  have lvs : vs.length = ps.length := by rw [← hvs, List.length_map]
  have hkeys : Keys s.heap vs k := fun i hi => by
    rw [lvs] at hi
    obtain ⟨_, its, vi, ti⟩ := I.hok _ _ (hkp i ps[i] (List.getElem?_eq_getElem hi))
    refine ⟨ps[i], its, ?_, ti, ints_of_vals vi, hne i⟩
    rw [← hvs]
    simp [hi]
  refine call_function_entry kind_sorted plain_sorted entry_sorted (args_sorted1 _) ?_
  unfold Builtin.«sorted»
  refine wpAny_bind (m := checkCount "sorted" 1 1 _) (wpAny_pure ?_)
  refine wpAny_bind (collect_list (vs := vs) ⟨_, e, rfl, _, rfl⟩ ?_ (by rw [sizeLine_eq]; omega))
  refine wpAny_bind (wpAny_newList ?_ (by rw [sizeLine_eq]; omega))
  have hsz : ((s.heap.push (seqObj "list" #[] 0)).update s.heap.objs.size (Obj.mapSeq (· ++ vs.toArray))).objs.size = s.heap.objs.size + 1 := by
    rw [Heap.size_update, size_push']
  have hoL : (((s.heap.push (seqObj "list" #[] 0)).update s.heap.objs.size (Obj.mapSeq (· ++ vs.toArray))).push (seqObj "list" vs.toArray 0)).get? (s.heap.objs.size + 1) = some (seqObj "list" vs.toArray 0) := by
    rw [← hsz]; exact Heap.get?_push_size _ rfl
  have keep : ∀ b o, s.heap.get? b = some o → (((s.heap.push (seqObj "list" #[] 0)).update s.heap.objs.size (Obj.mapSeq (· ++ vs.toArray))).push (seqObj "list" vs.toArray 0)).get? b = some o := fun b o q => by
    have hlt : b < s.heap.objs.size := Heap.lt_size q
    rw [Heap.get?_push_ne _ _ _ (by rw [hsz]; exact Nat.ne_of_lt (Nat.lt_succ_of_lt hlt)), Heap.get?_update_ne _ _ _ _ (Nat.ne_of_lt hlt), Heap.get?_push_ne _ _ _ (Nat.ne_of_lt hlt)]
    exact q
  have hk2 : Keys (((s.heap.push (seqObj "list" #[] 0)).update s.heap.objs.size (Obj.mapSeq (· ++ vs.toArray))).push (seqObj "list" vs.toArray 0)) vs k := keys_keep hkeys fun b its ⟨o, e, r⟩ => ⟨o, keep _ _ e, r⟩
  show wpAny _ _ _ _ _ { s with heap := ((s.heap.push (seqObj "list" #[] 0)).update s.heap.objs.size (Obj.mapSeq (· ++ vs.toArray))).push (seqObj "list" vs.toArray 0) }
  rw [hsz]
  refine wpAny_bind (wpAny_holding (wpAny_call_entry slot_list_sort ⟨_, hoL, rfl⟩ entry_list_sort (list_sort_tups (s := { s with heap := ((s.heap.push (seqObj "list" #[] 0)).update s.heap.objs.size (Obj.mapSeq (· ++ vs.toArray))).push (seqObj "list" vs.toArray 0) }) (kl := k) (r := rk) hoL (by omega) hk2 (by rw [lvs]; exact hr) (by rw [lvs]; exact hinj) fun os o1 o2 => ⟨_, rfl, ?_⟩) (args_list_sort _)))
  obtain ⟨c2, eo⟩ := sortedHeap_at (out := List.toArray (os.map fun i => vs.getD i Value.none)) hoL
  rw [lvs] at o1
  have lo := o1.length_eq
  rw [List.length_range] at lo
  refine wpAny_pure ⟨_, rfl, .ref (s.heap.objs.size + 1), _, I.laid (a := s.heap.objs.size + 1) (o := .lst (os.map fun i => V.ref (ps.getD i 0))) (t' := s.toks) (fun b o e => ?_) (Nat.le_succ _) ⟨?_, os.map fun i => vs.getD i Value.none, c2, ?_, eo⟩, rfl, q _ os o1 o2 (I.hok.fresh (Nat.le_succ _))⟩
  · have hlt := Heap.lt_size e
    rw [sortedHeap_old (Nat.ne_of_lt (Nat.lt_succ_of_lt hlt)) (by rw [size_push', hsz]; exact Nat.lt_succ_of_lt (Nat.lt_succ_of_lt hlt))]
    exact keep b o e
  · rw [List.length_map, sizeLine_eq]
    omega
  · have go : ∀ l : List Nat, (∀ i ∈ l, i < ps.length) → Vals (l.map fun i => V.ref (ps.getD i 0)) (l.map fun i => vs.getD i Value.none) := by
      intro l
      induction l with
      | nil => intro _; exact .nil
      | cons i l ih =>
        intro hm
        refine .cons ?_ (ih fun j m => hm j (List.mem_cons_of_mem _ m))
        have hi := hm i List.mem_cons_self
        show RelV (V.ref (ps.getD i 0)) (vs.getD i Value.none)
        rw [← hvs]
        simp [hi]
        rfl
    exact go os fun i m => by have := o1.mem_iff.mp m; simpa using this
theorem comp_tups {lo : Int} {n : Nat} {D : Addr} {te : TE} {caps : St} {H1 : Hp} {Q : VK} {o : Option V} (k : Nat → List Int) (hD : H1 D = none) (hz : n ≤ 1000)
    (he : ∀ i, i < n → ∀ H (Q' : VK), Same H1 H → (∀ kp H', Same H H' → H' kp = some (.tup ((k i).map V.int)) → Q' (.ref kp) H') → te (some (.int (lo + i)) :: caps) H Q')
    (hd : ∀ H' (ps : List Addr), Same H1 H' → ps.length = n → (∀ (i : Nat) kp, ps[i]? = some kp → H' kp = some (.tup ((k i).map V.int))) → H' D = some (.lst (ps.map V.ref)) → Q (.ref D) H') : cBody (Itr lo n) D (gName 0) tYes te (o :: caps) (upd H1 D (.lst [])) Q := by
  refine comp_range (fun i ys H => ∃ ps : List Addr, ys = ps.map V.ref ∧ ps.length = i ∧ Same H1 H ∧ H D = some (.lst ys) ∧ ∀ (j : Nat) kp, ps[j]? = some kp → H kp = some (.tup ((k j).map V.int))) ⟨[], rfl, rfl, Same.upd_new hD, upd_same, fun j kp e => by simp at e⟩ ?_ ?_ ?_
  · rintro i ys H _ ⟨ps, rfl, _, _, hd, _⟩
    exact hd
  · rintro i ys H hi ⟨ps, rfl, lp, s1, hdd, pt⟩
    unfold tYes
    refine iteT (he i hi _ _ s1 fun kp H' s2 e => ⟨s2 _ _ hdd, ?_, cn ⟨ps ++ [kp], by simp, by simp [lp], (s1.trans s2).upd_late hD, by rw [upd_same], fun j q ej => ?_⟩⟩)
    · rw [List.length_map]
      have := big1000
      omega
    have nk : ∀ b zs, H' b = some (.tup zs) → b ≠ D := fun b zs z y => by rw [y, s2 _ _ hdd] at z; cases z
    by_cases hj : j < ps.length
    · rw [List.getElem?_append_left hj] at ej
      have := s2 _ _ (pt j q ej)
      rw [upd_ne (nk _ _ this)]
      exact this
    · have lt := (List.getElem?_eq_some_iff.mp ej).1
      have ej2 : j = i := by simp at lt; omega
      subst ej2
      rw [List.getElem?_append_right (by omega), show j - ps.length = 0 by omega] at ej
      have ej : kp = q := by simpa using ej
      subst ej
      rw [upd_ne (nk _ _ e)]
      exact e
  · rintro ys H ⟨ps, rfl, lp, s1, hdd, pt⟩
    exact hd H ps s1 lp pt hdd
end
end L2
namespace L2
open PySem PySem.Spec PySem.Calls PyProof.Rows PySem.W Builtin Builtin.ObjectAttr Builtin.Getset_descriptor
section
variable {prog : Program} {w : World} {A : Around} {E : Value → Shared → Prop} {s : Shared} {K : PySem.W.Frag} {x C : Addr} {R : Result → Shared → Prop}
structure NoCls (K : PySem.W.Frag) (C : Addr) : Prop where
  ga : findIn K (.ref C) "__getattribute__" = some (some (.builtin "BaseException.__getattribute__"))
  hk : findIn K (.ref C) "__getattr__" = some none
  cl : findIn K (.ref C) "__class__" = some (some (.builtin "object.__class__"))
  gt : specialIn K (.builtin "object.__class__") "__get__" = some (some (.builtin "getset_descriptor.__get__"))
  tk : takesIn K (.builtin "object.__class__") = some true
  mo : mroIn K C (.type "object") = some true
  mb : mroIn K C (.type "BaseException") = some true
  cd : (clsIn K C).isSome = true
theorem cls_found {M : Model} {h : Heap} (N : NoCls K C) (X : K.In h) : Looks M h (find (.ref x) (.ref C) "__class__") (.bind (.builtin "getset_descriptor.__get__") (.builtin "object.__class__")) := by
  have L1 := looks_findIn (M := M) X N.cl
  have L2 : Looks M h (getOf (some (.builtin "object.__class__"))) (some (.builtin "getset_descriptor.__get__")) := looks_specialIn X N.gt
  have L3 := looks_takesIn (M := M) X N.tk
  refine L1.andThen (L2.andThen ?_)
  exact (show Looks M h (dataDescriptor? (some (.builtin "object.__class__")) (some (.builtin "getset_descriptor.__get__"))) (some (.builtin "getset_descriptor.__get__", .builtin "object.__class__")) from L3.andThen .now).andThen (Looks.tag .now)
theorem cls_get {tp : Value} (X : K.In s.heap) (L0 : ∀ M, Looks M s.heap (typeOf (.ref x)) (.ref C)) (hm : mroIn K C (.type "object") = some true)
    (h : R (.ok (.ret (.ref C))) s) : codeAny (model prog w) A (.call (.builtin "getset_descriptor.__get__") ⟨[.builtin "object.__class__", .ref x, tp], []⟩) R s := by
  obtain ⟨hh, g, dr, t, os⟩ := s
  have L0 := L0 (model prog w)
  have L1 := looks_mroIn (M := model prog w) X hm
  refine codeAny_call_builtin KF.slot_gs.plain KF.entry_gs (KF.slot_gs.check _ _ _ _ _ _ _ _ KF.type_class (KF.args_gs _ _ _) ?_)
  unfold Builtin.«getset_descriptor.__get__» descrGet
  rw [dga_obj]
  refine wpAny_bind (wpAny_pure ?_)
  unfold descrGetter descrCheckInstance descrNameAndClass isInstance
  simp only [KF.owner_class]
  repeat lk
  refine ⟨Code.quiet_builtin _ (by decide +kernel), codeAny_builtin KF.entry_class ?_⟩
  unfold Builtin.«object.__class__» shownTypeOf
  repeat lk
  exact h
theorem cls_entry (N : NoCls K C) (X : K.In s.heap) (L0 : ∀ M, Looks M s.heap (typeOf (.ref x)) (.ref C)) {tk : Tok} {Q : PySem.Fin → Shared → Prop} (h : Q (.done (.ret (.ref C))) s) :
    wpAny (model prog w) A (Builtin.«object.__getattribute__» ⟨[.ref x, .str "__class__" tk], []⟩) Q E s := by
  obtain ⟨hh, g, d, t, os⟩ := s
  have L1 := L0 (model prog w)
  have L2 := cls_found (M := model prog w) (x := x) N X
  unfold Builtin.«object.__getattribute__»
  refine wpAny_bind (wpAny_pure (wpAny_bind (wpAny_pure (wpAny_bind (L1.at (wpAny_bind (L2.at ?_)))))))
  show wpAny _ _ (bindTo (.builtin "getset_descriptor.__get__") (.builtin "object.__class__") (.ref x) (.ref C)) _ _ _
  refine wpAny_bind (wpAny_holding (wpAny_call (cls_get X L0 N.mo (wpAny_pure h))))
theorem cls_call (N : NoCls K C) (X : K.In s.heap) (L0 : ∀ M, Looks M s.heap (typeOf (.ref x)) (.ref C)) {tk : Tok} (h : R (.ok (.ret (.ref C))) s) :
    codeAny (model prog w) A (.call (.builtin "BaseException.__getattribute__") ⟨[.ref x, .str "__class__" tk], []⟩) R s := by
  refine codeAny_call_builtin PySem.F.excAttr_ValueError.ga.plain PySem.F.entry_bexc_ga ?_
  obtain ⟨hh, g, d, t, os⟩ := s
  have L1 := L0 (model prog w)
  have L2 := looks_mroIn (M := model prog w) X N.mb
  have hk : builtinKind "BaseException.__getattribute__" = some .slot := by decide +kernel
  have hsplit : splitId "BaseException.__getattribute__" = some ("BaseException", "__getattribute__") := by decide +kernel
  have ha := PySem.F.args_bexc_ga (.ref x) (.str "__class__" tk)
  simp only [checkBuiltinCall, hk, hsplit]
  unfold isInstance
  refine wpAny_bind (wpAny_bind (L1.at (L2.at ?_)))
  rw [if_neg (by decide)]
  cases hsig : Manifest.signature? "BaseException.__getattribute__" with
  | none => exact wpAny_pure (cls_entry N X L0 h)
  | some sig =>
    have ha' : Bind.checkArgs "BaseException.__getattribute__" sig ⟨[.ref x, .str "__class__" tk], []⟩ = pure () := by simpa only [argsOk, hsig] using ha
    show wpAny _ _ (Bind.checkArgs "BaseException.__getattribute__" sig ⟨[.ref x, .str "__class__" tk], []⟩) _ _ _
    rw [ha']
    exact wpAny_pure (cls_entry N X L0 h)
theorem exc_class (N : NoCls K C) {Q : Option Value → Shared → Prop} (X : K.In s.heap) (L0 : ∀ M, Looks M s.heap (typeOf (.ref x)) (.ref C)) (h : Q (some (.ref C)) { s with toks := s.toks + 1 }) : wpAny (model prog w) A (getAttr? (.ref x) "__class__") Q E s := by
  obtain ⟨hh, g, d, t, os⟩ := s
  have L1 := L0 (model prog w)
  have L2 := looks_findIn (M := model prog w) X N.ga
  have L3 := looks_findIn (M := model prog w) X N.hk
  have bd := PySem.F.excAttr_ValueError.ga.bind (.ref x)
  have hx2 : (Value.builtin "BaseException.__getattribute__" == Value.builtin "object.__getattribute__") = false := by decide +kernel
  unfold getAttr? getAttrBy? getAttrBy
  refine wpAny_bind (wpAny_mkText (wpAny_bind (wpAny_attempt (wpAny_holding (wpAny_bind (L1.at (wpAny_bind (L2.at ?_))))))))
  simp only [hx2, Bool.and_false, Bool.false_eq_true, if_false]
  unfold getAttrByItsOwn hookBefore
  rw [if_pos (show onTheHeap (Value.ref C) = true from rfl)]
  refine wpAny_bind (L3.at ?_)
  unfold callGetattribute
  simp only [Bool.false_and, Bool.false_eq_true, if_false]
  unfold boundAndCalled
  rw [bd]
  refine wpAny_bind (wpAny_attempt (wpAny_holding (wpAny_bind (wpAny_pure (wpAny_call (cls_call (s := ⟨hh, g, d, t + 1, os⟩) N X L0 ?_))))))
  exact wpAny_pure (wpAny_pure h)
theorem kitx_exc {ea : Addr} (N : NoCls K C) : KitX K (.ref ea) (.ref C) (fun h => ∃ o, h.get? ea = some o ∧ o.cls = .ref C) where
  ty := fun M h _ p => by
    obtain ⟨o, e, c⟩ := p
    exact c ▸ (Looks.ld e).andThen .now
  it := fun _ _ X _ => by
    obtain ⟨cdD, hcD⟩ := Option.isSome_iff_exists.mp N.cd
    unfold clsIn at hcD
    split at hcD
    · rename_i c' d' cd' sl' ho
      intro A' Q' E' s' k q
      unfold isType loadHead
      exact wpAny_bind (wpAny_loadPart (k _ _ (X _ _ ho)) (wpAny_pure q))
    · cases hcD
  ne := fun h tp dd its n sl X htp => by
    obtain ⟨cdD, hcD⟩ := Option.isSome_iff_exists.mp N.cd
    refine Bool.eq_false_iff.mpr fun q => ?_
    have e : C = tp := Value.ref.inj (beq_iff_eq.mp q)
    subst e
    unfold clsIn at hcD
    split at hcD
    · rename_i c' d' cd' sl' ho
      have z := (X _ _ ho).symm.trans htp
      cases z
    · cases hcD
  ca := fun X p k => exc_class N X (fun M => by obtain ⟨o, e, c⟩ := p; exact c ▸ (Looks.ld e).andThen .now) k
end
theorem call_exc {X : Cx} : CallR X (.builtin "isinstance") (fun xs H Q => ∃ ea C v c b, xs = [.ref ea, v] ∧ ((∃ u, v = .ref u ∧ c = .ref u) ∨ ∃ T, v = .ty T ∧ c = .type T) ∧ kitOne X.K (.ref C) c = some b ∧ (b = false → NoCls X.K C) ∧ H ea = some (ExcO ea C) ∧ Q (.bl b) H) := by
  intro pins s σ H xs us Q I r h
  obtain ⟨ea, C, v, c, b, rfl, hv, ok, no, he, q⟩ := h
  cases b with
  | true => exact call_excYes pins s σ H _ us Q I r ⟨ea, C, v, c, rfl, hv, ok, he, q⟩
  | false =>
    obtain ⟨u1, u2, rfl, r1, r2⟩ := Vals.two r
    cases r1
    have e2 : u2 = c := by
      rcases hv with ⟨u, rfl, rfl⟩ | ⟨T, rfl, rfl⟩
      · exact r2
      · exact r2
    subst e2
    obtain ⟨hp, _⟩ := I.hok ea _ he
    exact kia_one (kitx_exc (no rfl)) I.kIn hp ok (by intro z; cases z) fun tk => ⟨.bl false, H, I.tok tk, rfl, q⟩
theorem callx_exc {X : Cx} {ea : Addr} : CallR (cxX X ea) (.builtin "isinstance") (fun xs H Q => ∃ ea C v c b, xs = [.ref ea, v] ∧ ((∃ u, v = .ref u ∧ c = .ref u) ∨ ∃ T, v = .ty T ∧ c = .type T) ∧ kitOne X.K (.ref C) c = some b ∧ (b = false → NoCls X.K C) ∧ H ea = some (ExcO ea C) ∧ Q (.bl b) H) := call_exc
end L2
namespace L2
open PySem PySem.Spec PySem.Calls PyProof.Rows PySem.W
section
variable {X : Cx}
end
section
variable {prog : Program} {w : World} {A : Around} {E : Value → Shared → Prop} {s : Shared} {l I S : Addr} {vs : List Value} {ns : List Int} {R : Result → Shared → Prop} {Q : Value → Shared → Prop}
end
end L2
namespace L2
open PySem PySem.Spec PySem.Calls PyProof.Rows PySem.W
structure Ours (X : Cx) (pins : List (Addr × Obj)) (a : Addr) : Prop where
  ab : X.s₀.heap.objs.size ≤ a
  ce : ∀ x c, X.env.cells.lookup x = some c → c ≠ a
  pn : ∀ p ∈ X.pn ++ pins, p.1 ≠ a
section
variable {X : Cx} {pins : List (Addr × Obj)} {σ : St} {H : Hp} {l q It S : Addr} {xs : List V} {kf : Nat → Int} {R : Result → Shared → Prop}
section
variable {s : Shared} {scope : Scope} {cs : List Nat} {x : Str} {c' : Addr} {params : Arguments} {body : Expr} {ctv : Value} {te : TE} {Q : VK}
end
end
end L2
namespace L2
open PySem PySem.Spec PyProof.Rows
section
open PySem.SeqAt
open PySem.AutoSeq1 (wpAny_loadPart')
open PySem.MeetsSeq PySem.MeetsSeq2 PySem.MeetsSeq3
end
section
variable {prog : Program} {w : World} {A : Around} {E : Value → Shared → Prop} {s : Shared}
end
end L2
namespace L2
open PySem
noncomputable def tHide (t : TS) : TS := t
theorem ps_hide {X : Cx} {st : Stmt} {t : TS} (h : PS X st t) : PS X st (tHide t) := h
end L2
namespace L2
open PySem PySem.Spec PySem.Calls PyProof.Rows PySem.W
section
variable {X : Cx}
end
end L2
namespace L2
open PySem PySem.Spec PySem.Calls PyProof.Rows PySem.W
noncomputable abbrev TM := St → Hp → VK → XK → Prop
section
variable {X : Cx}
noncomputable def MC (X : Cx) (e : Expr) (t : TM) : Prop := ∀ (pins : List (Addr × Obj)) (s : Shared) (σ : St) (H : Hp) (Q : VK) (E : XK), Inv X pins σ H s → t σ H Q E →
  wpAny (model X.prog X.w) X.A (eval e X.env) (EP X pins σ Q) (fun ev s' => ∃ H1 s1, Inv X pins σ H1 s1 ∧ CX1 X.prog X.w X.stack H1 s1 E ev s') s
noncomputable def mCall (sp : Sp) (dvs : List V) (ta : TA) : TM := fun σ H Q E => ta σ H fun vs H1 => sp (vs ++ dvs) H1 Q E
noncomputable def mMeth (C : Addr) (m : Str) (sp : Sp) (dvs : List V) (to : TE) (ta : TA) : TM := fun σ H Q E => to σ H fun x H1 => ∃ a dx fs, x = .ref a ∧ H1 a = some (.ins C dx fs) ∧ fs.lookup m = none ∧ ta σ H1 fun vs H2 => sp (x :: (vs ++ dvs)) H2 Q E
theorem mc_call {k : Nat} {f : Addr} {fd : FuncData} {ps : List Str} {sp : Sp} {ds : List Value} {dvs : List V} {x : Str} {p pos : Pos} {e : Expr} {es : List Expr} {ta : TA} (F : FnOk X.prog X.w X.K X.mg X.base (CX1 X.prog X.w) k f fd ps sp) (hr : Room k X.A) (hg : Gl X x) (hm : X.mg x = some (.ref f)) (hk : PySem.W.keepIn X.K (.ref f) = true)
    (hb : Binds X.K fd ps ds) (hd : Vals dvs ds) (ha : PA X.nox (e :: es) ta) (hdb : (x == ("__debug__" : Str)) = false := by decide)
    (he : starEach (e :: es) X.env = (false, eval e X.env) :: starEach es X.env := by rfl) (hpl : (backTo pos (starEach es X.env)).any (·.1) = false := by rfl) : MC X (.Call (.Name x p) (e :: es) [] pos) (mCall sp dvs ta) :=
  fun pins s σ H Q E I h => call_in_try (E := E) F hr hg hm hk hb hd ha I h hdb he hpl
theorem mc_meth {pl : Sem Bool} {k : Nat} {f C : Addr} {fd : FuncData} {ps : List Str} {sp : Sp} {ds : List Value} {dvs : List V} {m : Str} {pos apos : Pos} {o e : Expr} {es : List Expr} {to : TE} {ta : TA} (ho : PE X.nox o to) (c : Cls X.K C) (hm : Meth X.K C m f) (F : FnOk X.prog X.w X.K X.mg X.base (CX1 X.prog X.w) k f fd ps sp) (hr : Room k X.A)
    (hb : Binds X.K fd ps ds) (hd : Vals dvs ds) (ha : PA X.nox (e :: es) ta)
    (hst : starEach (e :: es) X.env = (false, eval e X.env) :: starEach es X.env := by rfl) (hpl : (backTo pos (starEach es X.env)).any (·.1) = false := by rfl)
    (ht : eval (.Call (.Attribute o m apos) (e :: es) [] pos) X.env = (do
      let ov ← eval o X.env
      standAt apos.atName
      let (f, first) ← holding [ov] (getMethod ov m pl)
      callWith pos f first (backTo pos (starEach (e :: es) X.env)) (backToKw pos (keywordEach [] X.env))) := by rfl) : MC X (.Call (.Attribute o m apos) (e :: es) [] pos) (mMeth C m sp dvs to ta) := by
  intro pins s σ H Q E I h
  refine PySem.W.methodCall_KW (pl := pl) (wpAny_mono (ho pins s σ H _ (I.wish _) h) (fun u s1 q => ?_) fun _ _ z => False.elim z) ht
  obtain ⟨x, H1, I1, rx, a, dx, fs, ex, ea, l, q⟩ := q
  have I1 := I1.unwish
  subst ex
  obtain rfl : u = Value.ref a := rx
  refine getmeth_ok I1 ea c hm l ?_
  refine PySem.W.callWith_K (first := [.ref a]) (h₀ := X.base) I.ok.mod.kin hm.kp (wpAny_mono (ha pos pins s1 σ H1 _ (I1.wish _) q) (fun us s2 q2 => ?_) fun _ _ z => False.elim z) hst hpl
  obtain ⟨vs, H2, I2, r, q2⟩ := q2
  have I2 := I2.unwish
  refine ⟨I2.kIn, ?_⟩
  have r2 : Vals (V.ref a :: (vs ++ dvs)) (Value.ref a :: (us ++ ds)) := .cons rfl (r.append hd)
  have hl : (Value.ref a :: (us ++ ds)).length = ps.length := by rw [← r2.length]; exact F.len _ _ _ _ q2
  refine wpAny_call (codeAny_mono (F.run X.A X.stack s2 H2 ⟨Value.ref a :: us, []⟩ (Value.ref a :: (us ++ ds)) (V.ref a :: (vs ++ dvs)) Q E hr I2.env0 (hb s2 (Value.ref a :: us) I2.kIn hl) r2 q2) fun r s' hq => ?_)
  cases r with
  | error ev => exact ⟨H2, s2, I2, hq⟩
  | ok fl =>
    cases fl with
    | ret u => exact I2.after hq
    | next => exact False.elim hq
    | brk => exact False.elim hq
    | cont => exact False.elim hq
noncomputable def tTryIf (K : PySem.W.Frag) (Dc : Addr) (i jj : Nat) (tc : TT) (t1 t2 : TM) (th : TS) : TS := fun D σ H => tc σ H fun b H1 => if b = true then t1 σ H1 (fun v H2 => D.nx (σ.set jj (some v)) H2) (tCatch K Dc i th D σ) else t2 σ H1 (fun v H2 => D.nx (σ.set jj (some v)) H2) (tCatch K Dc i th D σ)
theorem rTryIf {K : PySem.W.Frag} {Dc : Addr} {i jj : Nat} {tc : TT} {t1 t2 : TM} {th : TS} {D : Ends} {σ : St} {H : Hp} : tTryIf K Dc i jj tc t1 t2 th D σ H = tc σ H fun b H1 => if b = true then t1 σ H1 (fun v H2 => D.nx (σ.set jj (some v)) H2) (tCatch K Dc i th D σ) else t2 σ H1 (fun v H2 => D.nx (σ.set jj (some v)) H2) (tCatch K Dc i th D σ) := rfl
theorem rMCall {sp : Sp} {dvs : List V} {ta : TA} {σ : St} {H : Hp} {Q : VK} {E : XK} : mCall sp dvs ta σ H Q E = ta σ H fun vs H1 => sp (vs ++ dvs) H1 Q E := rfl
theorem rMMeth {C : Addr} {m : Str} {sp : Sp} {dvs : List V} {to : TE} {ta : TA} {σ : St} {H : Hp} {Q : VK} {E : XK} : mMeth C m sp dvs to ta σ H Q E = to σ H fun x H1 => ∃ a dx fs, x = .ref a ∧ H1 a = some (.ins C dx fs) ∧ fs.lookup m = none ∧ ta σ H1 fun vs H2 => sp (x :: (vs ++ dvs)) H2 Q E := rfl
theorem ps_tryIf {c e1 e2 : Expr} {tc : TT} {t1 t2 : TM} {y : Str} {yp1 yp2 ap1 ap2 ipos tpos : Pos} {i jj : Nat} {n cx : Str} {Dc : Addr} {th : TS} {b0 : Stmt} {suite : List Stmt} {np hpos : Pos}
    (hc : PT X.nox c tc) (h1 : MC X e1 t1) (h2 : MC X e2 t2) (hgx : Gl X cx) (hmx : X.mg cx = some (.ref Dc)) (hN : X.N.Nodup) (hi : X.N[i]? = some n) (hln : X.env.scope.names.lookup n = some .local) (hj : X.N[jj]? = some y) (hy : Loc X.env.scope y) (hs : ∀ ea, PSs (cxX X ea) (b0 :: suite) th)
    (hfy : X.fn y = true ∨ X.env.scope.names.lookup y = some .local := by first | exact .inl rfl | exact .inr rfl)
    (hst : X.stack = X.env :: X.outer := by rfl) (hfr : X.env.frame = some X.env.locals := by rfl) (hex : X.ex = [] := by rfl) (hdx : (cx == ("__debug__" : Str)) = false := by decide)
    (hsw1 : swapsWith e1 (some (.Name y yp1)) ap1.line X.env = pure false := by rfl) (hsw2 : swapsWith e2 (some (.Name y yp2)) ap2.line X.env = pure false := by rfl) :
    PS X (.Try [.If c [.Assign [.Name y yp1] e1 ap1] [.Assign [.Name y yp2] e2 ap2] ipos] [.ExceptHandler (some (.Name cx np)) (some n) (b0 :: suite) hpos] [] [] tpos) (tTryIf X.K Dc i jj tc t1 t2 th) := by
  intro pins s σ H D I h
  refine wpAny_Try_except (wpAny_execs_cons (wpAny_If (wpAny_mono (hc pins s σ H _ (I.wish _) h) (fun d s1 q => ?_) fun _ _ z => False.elim z)))
  obtain ⟨H1, I1, q1⟩ := q
  have I1 := I1.unwish
  cases d with
  | true =>
    refine wpAny_execs_cons (wpAny_Assign_Name (wpAny_mono (h1 pins s1 σ H1 _ (tCatch X.K Dc i th D σ) I1 q1) (fun u s2 q => ?_) fun ev s2 q => ?_) hsw1)
    · obtain ⟨v, H2, I2, r2, q2⟩ := q
      exact store_ok I2 hN hj hy r2 (fun s3 I3 => wpAny_execs_nil (show wpAny _ _ (execs [] X.env) _ _ _ from wpAny_execs_nil (show wpAny _ _ (execs [] X.env) _ _ _ from wpAny_execs_nil ⟨_, H2, I3, q2⟩))) hfy
    · obtain ⟨H2, s3, I2, cx1⟩ := q
      exact catch_ok hst hfr hex hgx hmx hN hi hln hs I2 cx1 hdx
  | false =>
    refine wpAny_execs_cons (wpAny_Assign_Name (wpAny_mono (h2 pins s1 σ H1 _ (tCatch X.K Dc i th D σ) I1 q1) (fun u s2 q => ?_) fun ev s2 q => ?_) hsw2)
    · obtain ⟨v, H2, I2, r2, q2⟩ := q
      exact store_ok I2 hN hj hy r2 (fun s3 I3 => wpAny_execs_nil (show wpAny _ _ (execs [] X.env) _ _ _ from wpAny_execs_nil (show wpAny _ _ (execs [] X.env) _ _ _ from wpAny_execs_nil ⟨_, H2, I3, q2⟩))) hfy
    · obtain ⟨H2, s3, I2, cx1⟩ := q
      exact catch_ok hst hfr hex hgx hmx hN hi hln hs I2 cx1 hdx
noncomputable def tCatch2 (K : PySem.W.Frag) (D1 D2 : Addr) (t1 t2 : TS) (D : Ends) (σ : St) : XK := fun c _ H' => ∃ C, c = .ref C ∧ ((exmOne K (.ref C) (.ref D1) = some true ∧ t1 D σ H') ∨ (exmOne K (.ref C) (.ref D1) = some false ∧ exmOne K (.ref C) (.ref D2) = some true ∧ t2 D σ H'))
theorem suite_ok {pins : List (Addr × Obj)} {σ : St} {H' : Hp} {s' : Shared} {D : Ends} {ea C t : Addr} {B h5 : Heap} {th : TS} {b0 : Stmt} {suite : List Stmt} {hpos : Pos} (hd : X.calm = true → X.A.handled = none) (hs : ∀ ea, PSs (cxX X ea) (b0 :: suite) th)
    (fl5 : Heap.FlyingW B (X.env :: X.outer) ea (.ref C) (.ref t) h5) (mk : ∀ h6, Heap.FlyingW B (X.env :: X.outer) ea (.ref C) (.ref t) h6 → h5.UpToSlots h6 → Inv X pins σ H' { s' with heap := h6 }) (q : th D σ H') :
    codeAny (model X.prog X.w) (X.A.mark (some (.ref ea))) (.handlers (.ref ea) [.ExceptHandler none none (b0 :: suite) hpos] X.env) (fun r s₂ => match r with
      | .ok f => SP X pins D f s₂
      | .error x => cameBackBy (model X.prog X.w) X.A X.env X.xe x s₂) { s' with heap := h5 } := by
  refine codeAny_handlers_suite ?_
  refine lands_againW fl5 fun h6 fl6 us6 => ?_
  refine wpAny_mono (hs ea pins _ _ _ D ((mk h6 fl6 us6).inX ea) q) (fun fl s8 q => ?_) fun _ _ z => False.elim z
  cases fl with
  | next => obtain ⟨σ8, H8, I8, q8⟩ := q; exact ⟨σ8, H8, I8.outX hd, q8⟩
  | brk => obtain ⟨σ8, H8, I8, q8⟩ := q; exact ⟨σ8, H8, I8.outX hd, q8⟩
  | cont => obtain ⟨σ8, H8, I8, q8⟩ := q; exact ⟨σ8, H8, I8.outX hd, q8⟩
  | ret u => obtain ⟨v, σ8, H8, I8, r8, q8⟩ := q; exact ⟨v, σ8, H8, I8.outX hd, r8, q8⟩
theorem catch2_ok {pins : List (Addr × Obj)} {σ : St} {H : Hp} {s : Shared} {cx cy : Str} {D1 D2 : Addr} {t1 t2 : TS} {D : Ends} {b0 c0 : Stmt} {su1 su2 : List Stmt} {np1 np2 hp1 hp2 : Pos} {ev : Value} {s' : Shared} (hst : X.stack = X.env :: X.outer) (hfr : X.env.frame = some X.env.locals) (hgx : Gl X cx) (hmx : X.mg cx = some (.ref D1)) (hgy : Gl X cy) (hmy : X.mg cy = some (.ref D2))
    (hs1 : ∀ ea, PSs (cxX X ea) (b0 :: su1) t1) (hs2 : ∀ ea, PSs (cxX X ea) (c0 :: su2) t2) (I1 : Inv X pins σ H s) (cx1 : CX1 X.prog X.w X.stack H s (tCatch2 X.K D1 D2 t1 t2 D σ) ev s') (hdb : (cx == ("__debug__" : Str)) = false := by decide) (hdc : (cy == ("__debug__" : Str)) = false := by decide) :
    wpAny (model X.prog X.w) X.A (noteFrame ev X.env) (fun _ s₂ => wpAny (model X.prog X.w) X.A (setFlight ev none) (fun _ s₃ =>
      wpAny (model X.prog X.w) X.A (handleBy ev X.env [.ExceptHandler (some (.Name cx np1)) none (b0 :: su1) hp1, .ExceptHandler (some (.Name cy np2)) none (c0 :: su2) hp2]) (SP X pins D) X.xe s₃) X.xe s₂) X.xe s' := by
  obtain ⟨ea, C, H', rfl, fw, C2, ec, hth⟩ := cx1
  cases ec
  obtain ⟨B, t, fly, mk⟩ := fly_inv (h5 := s'.heap) I1 fw
  rw [hst] at fly
  refine wpAny_looks_onW (by rw [I1.ok.frames, hst]) hfr fly fun h4 held us4 => ?_
  refine wpAny_landsW held fun h5 fl5 us5 => ?_
  have mk5 : ∀ h6, Heap.FlyingW B (X.env :: X.outer) ea (.ref C) (.ref t) h6 → h5.UpToSlots h6 → Inv X pins σ H' { s' with heap := h6 } := fun h6 fl us => mk h6 (by rw [hst]; exact fl) ((us4.trans us5).trans us)
  have I5 := mk h5 (by rw [hst]; exact fl5) (us4.trans us5)
  obtain ⟨ob, eo, hco⟩ := fl5.there
  have lt : Looks (model X.prog X.w) h5 (typeOf (.ref ea)) (.ref C) := by
    have : Looks (model X.prog X.w) h5 (typeOf (.ref ea)) ob.cls := (Looks.ld eo).andThen .now
    rw [hco] at this
    exact this
  refine wpAny_handleBy_cons (codeAny_handlers_test (ld_glob (X := cxX X ea) (I5.inX ea) hgx hmx ?_ hdb)) (by intro q; cases q)
  rcases hth with ⟨cat, hth⟩ | ⟨cat, cat2, hth⟩
  · refine (exm_one (h := h5) I5.kIn lt cat).here ?_
    exact suite_ok I1.ok.hd hs1 fl5 mk5 hth
  · refine (exm_one (h := h5) I5.kIn lt cat).here ?_
    refine wpAny_handleBy_cons (codeAny_handlers_test (ld_glob (X := cxX X ea) (I5.inX ea) hgy hmy ?_ hdc)) (by intro q; cases q)
    refine (exm_one (h := h5) I5.kIn lt cat2).here ?_
    exact suite_ok I1.ok.hd hs2 fl5 mk5 hth
noncomputable def tTryR2 (K : PySem.W.Frag) (D1 D2 : Addr) (tm : TM) (t1 t2 : TS) : TS := fun D σ H => tm σ H D.rt (tCatch2 K D1 D2 t1 t2 D σ)
theorem rTryR2 {K : PySem.W.Frag} {D1 D2 : Addr} {tm : TM} {t1 t2 : TS} {D : Ends} {σ : St} {H : Hp} : tTryR2 K D1 D2 tm t1 t2 D σ H = tm σ H D.rt (tCatch2 K D1 D2 t1 t2 D σ) := rfl
theorem ps_tryR2 {e : Expr} {tm : TM} {rpos tpos : Pos} {cx cy : Str} {D1 D2 : Addr} {t1 t2 : TS} {b0 c0 : Stmt} {su1 su2 : List Stmt} {np1 np2 hp1 hp2 : Pos}
    (h1 : MC X e tm) (hgx : Gl X cx) (hmx : X.mg cx = some (.ref D1)) (hgy : Gl X cy) (hmy : X.mg cy = some (.ref D2)) (hs1 : ∀ ea, PSs (cxX X ea) (b0 :: su1) t1) (hs2 : ∀ ea, PSs (cxX X ea) (c0 :: su2) t2)
    (hst : X.stack = X.env :: X.outer := by rfl) (hfr : X.env.frame = some X.env.locals := by rfl) (hdx : (cx == ("__debug__" : Str)) = false := by decide) (hdy : (cy == ("__debug__" : Str)) = false := by decide) :
    PS X (.Try [.Return (some e) rpos] [.ExceptHandler (some (.Name cx np1)) none (b0 :: su1) hp1, .ExceptHandler (some (.Name cy np2)) none (c0 :: su2) hp2] [] [] tpos) (tTryR2 X.K D1 D2 tm t1 t2) := by
  intro pins s σ H D I h
  refine wpAny_Try_except (wpAny_execs_cons (wpAny_Return_some (wpAny_mono (h1 pins s σ H _ (tCatch2 X.K D1 D2 t1 t2 D σ) I h) (fun u s1 q => ?_) fun ev s1 q => ?_)))
  · obtain ⟨v, H1, I1, r1, q1⟩ := q
    exact ⟨v, σ, H1, I1, r1, q1⟩
  · obtain ⟨H1, s2, I1, cx1⟩ := q
    exact catch2_ok hst hfr hgx hmx hgy hmy hs1 hs2 I1 cx1 hdx hdy
theorem rFld {K : PySem.W.Frag} {ta : TE} {f : Str} {σ : St} {H : Hp} {Q : VK} : tFld K ta f σ H Q = ta σ H fun x H1 => ∃ a C dx fs v, x = .ref a ∧ H1 a = some (.ins C dx fs) ∧ Cls K C ∧ NoAttr K C f ∧ fs.lookup f = some v ∧ Q v H1 := rfl
theorem rSFld {K : PySem.W.Frag} {ta tv : TE} {f : Str} {D : Ends} {σ : St} {H : Hp} : sFld K ta tv f D σ H = tv σ H fun y H1 => ta σ H1 fun x H2 => ∃ a C dx fs, x = .ref a ∧ H2 a = some (.ins C dx fs) ∧ Cls K C ∧ NoAttr K C f ∧ fs.length < 1000 ∧ D.nx σ (upd H2 a (.ins C dx (putF f y fs))) := rfl
theorem rMeth {C : Addr} {m : Str} {sp : Sp} {dvs : List V} {E : XK} {ta : TE} {t : TA} {σ : St} {H : Hp} {Q : VK} : tMeth C m sp dvs E ta t σ H Q = ta σ H fun x H1 => ∃ a dx fs, x = .ref a ∧ H1 a = some (.ins C dx fs) ∧ fs.lookup m = none ∧ t σ H1 fun vs H2 => sp (x :: (vs ++ dvs)) H2 Q E := rfl
theorem rMake {C : Addr} {sp : Sp} {dvs : List V} {E : XK} {t : TA} {σ : St} {H : Hp} {Q : VK} : tMake C sp dvs E t σ H Q = t σ H fun vs H1 => ∀ x dx, H1 x = none → H1 dx = none → dx ≠ x → sp (.ref x :: (vs ++ dvs)) (upd (upd H1 dx (.own x)) x (.ins C dx [])) (fun v H2 => v = .non ∧ Q (.ref x) H2) E := rfl
theorem rGSub {to ti : TE} {t : TSet} {v : V} {σ : St} {H : Hp} {Q : St → Hp → Prop} : gSub to ti t v σ H Q = to σ H fun o H1 => ti σ H1 fun i H2 => t o i v H2 fun H3 => Q σ H3 := rfl
theorem small_three {b : Int} (hb : -(2 ^ 62) ≤ b) (hb' : b < 2 ^ 62) : Builtin.Range.small 0 b 3 = true := by
  unfold Builtin.Range.small Builtin.Range.rangeSize
  simp only [Builtin.Range.rangeFitsLong, Bool.and_eq_true, Bool.or_eq_true, decide_eq_true_eq, beq_iff_eq, show (3 : Int) > 0 by decide, if_true]
  split <;> omega
noncomputable def iRngThree (ta : TA) : TI := fun σ H R => ta σ H fun vs H1 => ∃ j : Int, vs = [.int 0, .int j, .int 3] ∧ (-(2 ^ 62) ≤ j ∧ j < 2 ^ 62) ∧ R (Itc 0 3 ((j + 2) / 3).toNat) H1
theorem pi_rangeThree {tg a b c : Expr} {ta : TA} {p pos : Pos} (hg : Gl X "range") (hm : X.mg "range" = none) (ha : PA X [a, b, c] ta)
    (hs : starEach [a, b, c] X.env = [(false, eval a X.env), (false, eval b X.env), (false, eval c X.env)] := by rfl) (hs2 : starEach [b, c] X.env = [(false, eval b X.env), (false, eval c X.env)] := by rfl) :
    PI X tg (.Call (.Name "range" p) [a, b, c] [] pos) (iRngThree ta) := by
  intro pins s σ H R I h
  refine Call_ (ld_blt I hg hm boot_range (PyProof.Rows.callWith_type1 (thn (ha pos pins s σ H _ I h) fun us s1 ⟨vs, H1, I1, r1, q1⟩ => ?_) (by rw [hs, hs2]) (by rw [hs2]; rfl)))
  obtain ⟨j, e, ⟨q1, q2⟩, q⟩ := q1
  subst e
  cases r1 with
  | cons r rr =>
    cases rr with
    | cons r' rr =>
      cases rr with
      | cons r'' rr =>
        cases rr
        obtain ⟨t, rfl⟩ := r
        obtain ⟨t', rfl⟩ := r'
        obtain ⟨t'', rfl⟩ := r''
        refine call_range_3 (by decide) ?_ (.inl (PyProof.noPylong_small (by decide)))
        refine wpAny_pyIter_range (IsRange.new ..) (small_three q1 q2) ?_
        have I2 : Inv X pins σ H1 { s1 with heap := s1.heap.push { cls := .type "range", data := .fields #[.int 0 t, .int j t', .int 3 t''] }, toks := s1.toks } := I1.kept fun b o e => Heap.get?_push_of_some _ e
        refine ⟨(s1.heap.push { cls := .type "range", data := .fields #[.int 0 t, .int j t', .int 3 t''] }).objs.size, [(s1.heap.push { cls := .type "range", data := .fields #[.int 0 t, .int j t', .int 3 t''] }).objs.size], _, _, H1, rfl,
          I2.kept (t' := s1.toks) fun b o e => Heap.get?_push_of_some _ e, turn_rangeC _ 0 3 ((j + 2) / 3).toNat, ?_, fun b hb => ?_, q⟩
        · have e1 : (0 : Int) + ((0 : Nat) : Int) * 3 = 0 := by simp
          have e2 : ((((j + 2) / 3).toNat : Nat) : Int) - ((0 : Nat) : Int) = Builtin.Range.rangeSize 0 j 3 := by
            unfold Builtin.Range.rangeSize
            rw [if_pos (by decide)]
            split <;> omega
          show IsRangeIter _ _ ((0 : Int) + ((0 : Nat) : Int) * 3) (((((j + 2) / 3).toNat : Nat) : Int) - ((0 : Nat) : Int)) 3
          rw [e1, e2]
          exact Heap.get?_push_size _ rfl
        · have e : b = (s1.heap.push { cls := .type "range", data := .fields #[.int 0 t, .int j t', .int 3 t''] }).objs.size := by simpa using hb
          subst e
          exact I2.fpOk (Nat.le_refl _) (I2.hok.fresh (Nat.le_refl _))
theorem rIRngThree {a : TA} {σ : St} {H : Hp} {R : It → Hp → Prop} : iRngThree a σ H R = a σ H fun vs H1 => ∃ j : Int, vs = [.int 0, .int j, .int 3] ∧ (-(2 ^ 62) ≤ j ∧ j < 2 ^ 62) ∧ R (Itc 0 3 ((j + 2) / 3).toNat) H1 := rfl
theorem iteOr {a b : Bool} {A B : Prop} (h1 : a = true ∨ b = true → A) (h2 : ¬ (a = true ∨ b = true) → B) : if a = true then (if true = true then A else B) else (if b = true then A else B) := by
  cases a with
  | true => simpa using h1 (.inl rfl)
  | false =>
    cases b with
    | true => simpa using h1 (.inr rfl)
    | false => simpa using h2 (by simp)
end
end L2
namespace My
open PySem L2
noncomputable def top (i : Nat) : Stmt := PySem.Challenge.pw_ropetree_k10_whole_a_day.main.body.getD i (.Pass ⟨0, 0, 0, 0⟩)
noncomputable abbrev s_check_places : Stmt := top 5
noncomputable abbrev q_from_cheapest : Str := ("from_cheapest" : Str) ++ ".<locals>." ++ "<lambda>"
theorem sc_check_places : FnScope ["count", "places", "place"] ["count", "places"] (defScope s_check_places) := ⟨rfl, rfl, rfl, by decide +kernel, rfl, by decide +kernel, by decide +kernel⟩
noncomputable abbrev s_check_ropes : Stmt := top 6
theorem sc_check_ropes : FnScope ["count", "ropes"] ["count", "ropes"] (defScope s_check_ropes) := ⟨rfl, rfl, rfl, by decide +kernel, rfl, by decide +kernel, by decide +kernel⟩
noncomputable abbrev s_is_rope_number : Stmt := top 7
theorem sc_is_rope_number : FnScope ["ropes", "number"] ["ropes", "number"] (defScope s_is_rope_number) := ⟨rfl, rfl, rfl, by decide +kernel, rfl, by decide +kernel, by decide +kernel⟩
noncomputable abbrev s_cost_of : Stmt := top 8
theorem sc_cost_of : FnScope ["ropes", "numbers"] ["ropes", "numbers"] (defScope s_cost_of) := ⟨rfl, rfl, rfl, by decide +kernel, rfl, by decide +kernel, by decide +kernel⟩
noncomputable abbrev s_from_cheapest : Stmt := top 9
theorem sc_from_cheapest : FnScope ["ropes"] ["ropes"] (defScope s_from_cheapest) := ⟨rfl, rfl, rfl, by decide +kernel, rfl, by decide +kernel, by decide +kernel⟩
noncomputable abbrev s_take_ringless : Stmt := top 10
theorem sc_take_ringless : FnScope ["count", "ropes", "order", "groups", "taken", "number", "one", "other"] ["count", "ropes", "order"] (defScope s_take_ringless) := ⟨rfl, rfl, rfl, by decide +kernel, rfl, by decide +kernel, by decide +kernel⟩
noncomputable abbrev s_least_tree : Stmt := top 12
theorem sc_least_tree : FnScope ["count", "ropes"] ["count", "ropes"] (defScope s_least_tree) := ⟨rfl, rfl, rfl, by decide +kernel, rfl, by decide +kernel, by decide +kernel⟩
noncomputable abbrev s_Net___init__ : Stmt := inClass (top 14) 0
theorem sc_Net___init__ : FnScope ["self", "count"] ["self", "count"] (defScope s_Net___init__) := ⟨rfl, rfl, rfl, by decide +kernel, rfl, by decide +kernel, by decide +kernel⟩
noncomputable abbrev s_Net_lay : Stmt := inClass (top 14) 1
theorem sc_Net_lay : FnScope ["self", "one", "other", "cost", "before"] ["self", "one", "other", "cost"] (defScope s_Net_lay) := ⟨rfl, rfl, rfl, by decide +kernel, rfl, by decide +kernel, by decide +kernel⟩
noncomputable abbrev s_Net_recost : Stmt := inClass (top 14) 2
theorem sc_Net_recost : FnScope ["self", "number", "cost", "rope", "before"] ["self", "number", "cost"] (defScope s_Net_recost) := ⟨rfl, rfl, rfl, by decide +kernel, rfl, by decide +kernel, by decide +kernel⟩
noncomputable abbrev s_Net_look : Stmt := inClass (top 14) 3
theorem sc_Net_look : FnScope ["self"] ["self"] (defScope s_Net_look) := ⟨rfl, rfl, rfl, by decide +kernel, rfl, by decide +kernel, by decide +kernel⟩
noncomputable abbrev s_Net_cost : Stmt := inClass (top 14) 4
theorem sc_Net_cost : FnScope ["self"] ["self"] (defScope s_Net_cost) := ⟨rfl, rfl, rfl, by decide +kernel, rfl, by decide +kernel, by decide +kernel⟩
noncomputable abbrev s_Net_renew : Stmt := inClass (top 14) 5
theorem sc_Net_renew : FnScope ["self", "before"] ["self"] (defScope s_Net_renew) := ⟨rfl, rfl, rfl, by decide +kernel, rfl, by decide +kernel, by decide +kernel⟩
noncomputable abbrev s_only_in : Stmt := top 15
theorem sc_only_in : FnScope ["one", "other", "rest"] ["one", "other"] (defScope s_only_in) := ⟨rfl, rfl, rfl, by decide +kernel, rfl, by decide +kernel, by decide +kernel⟩
noncomputable abbrev s_exchange : Stmt := top 16
theorem sc_exchange : FnScope ["before", "after", "out"] ["before", "after"] (defScope s_exchange) := ⟨rfl, rfl, rfl, by decide +kernel, rfl, by decide +kernel, by decide +kernel⟩
noncomputable abbrev s_answers : Stmt := top 17
theorem sc_answers : FnScope ["count", "deeds", "net"] ["count", "deeds"] (defScope s_answers) := ⟨rfl, rfl, rfl, by decide +kernel, rfl, by decide +kernel, by decide +kernel⟩
noncomputable abbrev s_answer : Stmt := top 18
theorem sc_answer : FnScope ["net", "deed"] ["net", "deed"] (defScope s_answer) := ⟨rfl, rfl, rfl, by decide +kernel, rfl, by decide +kernel, by decide +kernel⟩
noncomputable abbrev s_do_deed : Stmt := top 19
theorem sc_do_deed : FnScope ["net", "deed"] ["net", "deed"] (defScope s_do_deed) := ⟨rfl, rfl, rfl, by decide +kernel, rfl, by decide +kernel, by decide +kernel⟩
noncomputable abbrev s__law_upto : Stmt := top 21
theorem sc__law_upto : FnScope ["_law_script", "_law_small", "_law_great"] ["_law_script", "_law_small", "_law_great"] (defScope s__law_upto) := ⟨rfl, rfl, rfl, by decide +kernel, rfl, by decide +kernel, by decide +kernel⟩
noncomputable abbrev s__law_whole : Stmt := top 22
theorem sc__law_whole : FnScope ["_law_found"] ["_law_found"] (defScope s__law_whole) := ⟨rfl, rfl, rfl, by decide +kernel, rfl, by decide +kernel, by decide +kernel⟩
noncomputable abbrev s__law_at : Stmt := top 23
theorem sc__law_at : FnScope ["_law_script", "_law_k"] ["_law_script", "_law_k"] (defScope s__law_at) := ⟨rfl, rfl, rfl, by decide +kernel, rfl, by decide +kernel, by decide +kernel⟩
noncomputable abbrev s__law_whole_row : Stmt := top 24
theorem sc__law_whole_row : FnScope ["_law_found", "_law_one"] ["_law_found"] (defScope s__law_whole_row) := ⟨rfl, rfl, rfl, by decide +kernel, rfl, by decide +kernel, by decide +kernel⟩
noncomputable abbrev s__law_least_of : Stmt := top 25
theorem sc__law_least_of : FnScope ["_law_count", "_law_ropes", "_law_above", "_law_numbers", "_law_cost", "_law_k", "_law_here", "_law_there"] ["_law_count", "_law_ropes"] (defScope s__law_least_of) := ⟨rfl, rfl, rfl, by decide +kernel, rfl, by decide +kernel, by decide +kernel⟩
noncomputable abbrev s__law_deeds : Stmt := top 26
theorem sc__law_deeds : FnScope ["_law_cells", "_law_count", "_law_asked", "_law_laid", "_law_k", "_law_cost", "_law_one", "_law_hop", "_law_other", "_law_strange", "_law_number"] ["_law_cells", "_law_count"] (defScope s__law_deeds) := ⟨rfl, rfl, rfl, by decide +kernel, rfl, by decide +kernel, by decide +kernel⟩
noncomputable abbrev s__law_told_by : Stmt := top 27
theorem sc__law_told_by : FnScope ["_law_net", "_law_deed", "_law_word", "e"] ["_law_net", "_law_deed"] (defScope s__law_told_by) := ⟨rfl, rfl, rfl, by decide +kernel, rfl, by decide +kernel, by decide +kernel⟩
noncomputable abbrev s__law_due_for : Stmt := top 28
theorem sc__law_due_for : FnScope ["_law_count", "_law_ropes", "_law_deed", "_law_before", "_law_place", "_law_after", "_law_gone", "_law_come", "_law_cost"] ["_law_count", "_law_ropes", "_law_deed"] (defScope s__law_due_for) := ⟨rfl, rfl, rfl, by decide +kernel, rfl, by decide +kernel, by decide +kernel⟩
noncomputable abbrev s__law_alike : Stmt := top 29
theorem sc__law_alike : FnScope ["_law_found", "_law_due", "_law_k"] ["_law_found", "_law_due"] (defScope s__law_alike) := ⟨rfl, rfl, rfl, by decide +kernel, rfl, by decide +kernel, by decide +kernel⟩
noncomputable abbrev s__law_like : Stmt := top 30
theorem sc__law_like : FnScope ["_law_found", "_law_due", "_law_got_parts", "_law_due_parts", "_law_one", "_law_two"] ["_law_found", "_law_due"] (defScope s__law_like) := ⟨rfl, rfl, rfl, by decide +kernel, rfl, by decide +kernel, by decide +kernel⟩
noncomputable abbrev s__law_hand_is : Stmt := top 31
theorem sc__law_hand_is : FnScope ["_law_told", "_law_due"] ["_law_told", "_law_due"] (defScope s__law_hand_is) := ⟨rfl, rfl, rfl, by decide +kernel, rfl, by decide +kernel, by decide +kernel⟩
noncomputable abbrev s_law : Stmt := top 32
theorem sc_law : FnScope ["_law_script", "_law_count", "_law_asked", "_law_handed", "_law_found", "_law_net", "_law_second", "_law_ropes", "_law_k", "_law_due"] ["_law_script"] (defScope s_law) := ⟨rfl, rfl, rfl, by decide +kernel, rfl, by decide +kernel, by decide +kernel⟩
set_option genInjectivity false in
set_option genSizeOf false in
structure Ad where
  a_check_places : Addr
  d_check_places : FuncData
  a_check_ropes : Addr
  d_check_ropes : FuncData
  a_is_rope_number : Addr
  d_is_rope_number : FuncData
  a_cost_of : Addr
  d_cost_of : FuncData
  a_from_cheapest : Addr
  d_from_cheapest : FuncData
  c_from_cheapest : Addr
  p_from_cheapest : Addr
  a_take_ringless : Addr
  d_take_ringless : FuncData
  a_least_tree : Addr
  d_least_tree : FuncData
  a_Net___init__ : Addr
  d_Net___init__ : FuncData
  a_Net_lay : Addr
  d_Net_lay : FuncData
  a_Net_recost : Addr
  d_Net_recost : FuncData
  a_Net_look : Addr
  d_Net_look : FuncData
  a_Net_cost : Addr
  d_Net_cost : FuncData
  a_Net_renew : Addr
  d_Net_renew : FuncData
  a_only_in : Addr
  d_only_in : FuncData
  a_exchange : Addr
  d_exchange : FuncData
  a_answers : Addr
  d_answers : FuncData
  a_answer : Addr
  d_answer : FuncData
  a_do_deed : Addr
  d_do_deed : FuncData
  a__law_upto : Addr
  d__law_upto : FuncData
  a__law_whole : Addr
  d__law_whole : FuncData
  a__law_at : Addr
  d__law_at : FuncData
  a__law_whole_row : Addr
  d__law_whole_row : FuncData
  a__law_least_of : Addr
  d__law_least_of : FuncData
  a__law_deeds : Addr
  d__law_deeds : FuncData
  a__law_told_by : Addr
  d__law_told_by : FuncData
  a__law_due_for : Addr
  d__law_due_for : FuncData
  a__law_alike : Addr
  d__law_alike : FuncData
  a__law_like : Addr
  d__law_like : FuncData
  a__law_hand_is : Addr
  d__law_hand_is : FuncData
  a_law : Addr
  d_law : FuncData
  a_Net : Addr
  a_RopeError : Addr
  a_NoPlace : Addr
  a_NoRope : Addr
structure Txt (K : PySem.W.Frag) (mg : Str → Option Value) (A : Ad) : Prop where
  f_check_places : Fun K "check_places" "check_places" s_check_places A.a_check_places A.d_check_places
  m_check_places : mg "check_places" = some (.ref A.a_check_places)
  k_check_places : PySem.W.keepIn K (.ref A.a_check_places) = true
  b_check_places : Binds K A.d_check_places ["count", "places"] []
  f_check_ropes : Fun K "check_ropes" "check_ropes" s_check_ropes A.a_check_ropes A.d_check_ropes
  m_check_ropes : mg "check_ropes" = some (.ref A.a_check_ropes)
  k_check_ropes : PySem.W.keepIn K (.ref A.a_check_ropes) = true
  b_check_ropes : Binds K A.d_check_ropes ["count", "ropes"] []
  f_is_rope_number : Fun K "is_rope_number" "is_rope_number" s_is_rope_number A.a_is_rope_number A.d_is_rope_number
  m_is_rope_number : mg "is_rope_number" = some (.ref A.a_is_rope_number)
  k_is_rope_number : PySem.W.keepIn K (.ref A.a_is_rope_number) = true
  b_is_rope_number : Binds K A.d_is_rope_number ["ropes", "number"] []
  f_cost_of : Fun K "cost_of" "cost_of" s_cost_of A.a_cost_of A.d_cost_of
  m_cost_of : mg "cost_of" = some (.ref A.a_cost_of)
  k_cost_of : PySem.W.keepIn K (.ref A.a_cost_of) = true
  b_cost_of : Binds K A.d_cost_of ["ropes", "numbers"] []
  f_from_cheapest : Fun K "from_cheapest" "from_cheapest" s_from_cheapest A.a_from_cheapest A.d_from_cheapest
  m_from_cheapest : mg "from_cheapest" = some (.ref A.a_from_cheapest)
  k_from_cheapest : PySem.W.keepIn K (.ref A.a_from_cheapest) = true
  b_from_cheapest : Binds K A.d_from_cheapest ["ropes"] []
  e_from_cheapest : A.d_from_cheapest.code = .ref A.c_from_cheapest
  h_from_cheapest : PySem.W.codeHdIn K A.c_from_cheapest A.p_from_cheapest = true
  f_take_ringless : Fun K "take_ringless" "take_ringless" s_take_ringless A.a_take_ringless A.d_take_ringless
  m_take_ringless : mg "take_ringless" = some (.ref A.a_take_ringless)
  k_take_ringless : PySem.W.keepIn K (.ref A.a_take_ringless) = true
  b_take_ringless : Binds K A.d_take_ringless ["count", "ropes", "order"] []
  f_least_tree : Fun K "least_tree" "least_tree" s_least_tree A.a_least_tree A.d_least_tree
  m_least_tree : mg "least_tree" = some (.ref A.a_least_tree)
  k_least_tree : PySem.W.keepIn K (.ref A.a_least_tree) = true
  b_least_tree : Binds K A.d_least_tree ["count", "ropes"] []
  f_Net___init__ : Fun K "__init__" "Net.__init__" s_Net___init__ A.a_Net___init__ A.d_Net___init__
  mk_Net : Mk K A.a_Net A.a_Net___init__
  b_Net___init__ : Binds K A.d_Net___init__ ["self", "count"] []
  f_Net_lay : Fun K "lay" "Net.lay" s_Net_lay A.a_Net_lay A.d_Net_lay
  mt_Net_lay : Meth K A.a_Net "lay" A.a_Net_lay
  b_Net_lay : Binds K A.d_Net_lay ["self", "one", "other", "cost"] []
  f_Net_recost : Fun K "recost" "Net.recost" s_Net_recost A.a_Net_recost A.d_Net_recost
  mt_Net_recost : Meth K A.a_Net "recost" A.a_Net_recost
  b_Net_recost : Binds K A.d_Net_recost ["self", "number", "cost"] []
  f_Net_look : Fun K "look" "Net.look" s_Net_look A.a_Net_look A.d_Net_look
  mt_Net_look : Meth K A.a_Net "look" A.a_Net_look
  b_Net_look : Binds K A.d_Net_look ["self"] []
  f_Net_cost : Fun K "cost" "Net.cost" s_Net_cost A.a_Net_cost A.d_Net_cost
  mt_Net_cost : Meth K A.a_Net "cost" A.a_Net_cost
  b_Net_cost : Binds K A.d_Net_cost ["self"] []
  f_Net_renew : Fun K "renew" "Net.renew" s_Net_renew A.a_Net_renew A.d_Net_renew
  mt_Net_renew : Meth K A.a_Net "renew" A.a_Net_renew
  b_Net_renew : Binds K A.d_Net_renew ["self"] []
  f_only_in : Fun K "only_in" "only_in" s_only_in A.a_only_in A.d_only_in
  m_only_in : mg "only_in" = some (.ref A.a_only_in)
  k_only_in : PySem.W.keepIn K (.ref A.a_only_in) = true
  b_only_in : Binds K A.d_only_in ["one", "other"] []
  f_exchange : Fun K "exchange" "exchange" s_exchange A.a_exchange A.d_exchange
  m_exchange : mg "exchange" = some (.ref A.a_exchange)
  k_exchange : PySem.W.keepIn K (.ref A.a_exchange) = true
  b_exchange : Binds K A.d_exchange ["before", "after"] []
  f_answers : Fun K "answers" "answers" s_answers A.a_answers A.d_answers
  m_answers : mg "answers" = some (.ref A.a_answers)
  k_answers : PySem.W.keepIn K (.ref A.a_answers) = true
  b_answers : Binds K A.d_answers ["count", "deeds"] []
  f_answer : Fun K "answer" "answer" s_answer A.a_answer A.d_answer
  m_answer : mg "answer" = some (.ref A.a_answer)
  k_answer : PySem.W.keepIn K (.ref A.a_answer) = true
  b_answer : Binds K A.d_answer ["net", "deed"] []
  f_do_deed : Fun K "do_deed" "do_deed" s_do_deed A.a_do_deed A.d_do_deed
  m_do_deed : mg "do_deed" = some (.ref A.a_do_deed)
  k_do_deed : PySem.W.keepIn K (.ref A.a_do_deed) = true
  b_do_deed : Binds K A.d_do_deed ["net", "deed"] []
  f__law_upto : Fun K "_law_upto" "_law_upto" s__law_upto A.a__law_upto A.d__law_upto
  m__law_upto : mg "_law_upto" = some (.ref A.a__law_upto)
  k__law_upto : PySem.W.keepIn K (.ref A.a__law_upto) = true
  b__law_upto : Binds K A.d__law_upto ["_law_script", "_law_small", "_law_great"] []
  f__law_whole : Fun K "_law_whole" "_law_whole" s__law_whole A.a__law_whole A.d__law_whole
  m__law_whole : mg "_law_whole" = some (.ref A.a__law_whole)
  k__law_whole : PySem.W.keepIn K (.ref A.a__law_whole) = true
  b__law_whole : Binds K A.d__law_whole ["_law_found"] []
  f__law_at : Fun K "_law_at" "_law_at" s__law_at A.a__law_at A.d__law_at
  m__law_at : mg "_law_at" = some (.ref A.a__law_at)
  k__law_at : PySem.W.keepIn K (.ref A.a__law_at) = true
  b__law_at : Binds K A.d__law_at ["_law_script", "_law_k"] []
  f__law_whole_row : Fun K "_law_whole_row" "_law_whole_row" s__law_whole_row A.a__law_whole_row A.d__law_whole_row
  m__law_whole_row : mg "_law_whole_row" = some (.ref A.a__law_whole_row)
  k__law_whole_row : PySem.W.keepIn K (.ref A.a__law_whole_row) = true
  b__law_whole_row : Binds K A.d__law_whole_row ["_law_found"] []
  f__law_least_of : Fun K "_law_least_of" "_law_least_of" s__law_least_of A.a__law_least_of A.d__law_least_of
  m__law_least_of : mg "_law_least_of" = some (.ref A.a__law_least_of)
  k__law_least_of : PySem.W.keepIn K (.ref A.a__law_least_of) = true
  b__law_least_of : Binds K A.d__law_least_of ["_law_count", "_law_ropes"] []
  f__law_deeds : Fun K "_law_deeds" "_law_deeds" s__law_deeds A.a__law_deeds A.d__law_deeds
  m__law_deeds : mg "_law_deeds" = some (.ref A.a__law_deeds)
  k__law_deeds : PySem.W.keepIn K (.ref A.a__law_deeds) = true
  b__law_deeds : Binds K A.d__law_deeds ["_law_cells", "_law_count"] []
  f__law_told_by : Fun K "_law_told_by" "_law_told_by" s__law_told_by A.a__law_told_by A.d__law_told_by
  m__law_told_by : mg "_law_told_by" = some (.ref A.a__law_told_by)
  k__law_told_by : PySem.W.keepIn K (.ref A.a__law_told_by) = true
  b__law_told_by : Binds K A.d__law_told_by ["_law_net", "_law_deed"] []
  f__law_due_for : Fun K "_law_due_for" "_law_due_for" s__law_due_for A.a__law_due_for A.d__law_due_for
  m__law_due_for : mg "_law_due_for" = some (.ref A.a__law_due_for)
  k__law_due_for : PySem.W.keepIn K (.ref A.a__law_due_for) = true
  b__law_due_for : Binds K A.d__law_due_for ["_law_count", "_law_ropes", "_law_deed"] []
  f__law_alike : Fun K "_law_alike" "_law_alike" s__law_alike A.a__law_alike A.d__law_alike
  m__law_alike : mg "_law_alike" = some (.ref A.a__law_alike)
  k__law_alike : PySem.W.keepIn K (.ref A.a__law_alike) = true
  b__law_alike : Binds K A.d__law_alike ["_law_found", "_law_due"] []
  f__law_like : Fun K "_law_like" "_law_like" s__law_like A.a__law_like A.d__law_like
  m__law_like : mg "_law_like" = some (.ref A.a__law_like)
  k__law_like : PySem.W.keepIn K (.ref A.a__law_like) = true
  b__law_like : Binds K A.d__law_like ["_law_found", "_law_due"] []
  f__law_hand_is : Fun K "_law_hand_is" "_law_hand_is" s__law_hand_is A.a__law_hand_is A.d__law_hand_is
  m__law_hand_is : mg "_law_hand_is" = some (.ref A.a__law_hand_is)
  k__law_hand_is : PySem.W.keepIn K (.ref A.a__law_hand_is) = true
  b__law_hand_is : Binds K A.d__law_hand_is ["_law_told", "_law_due"] []
  f_law : Fun K "law" "law" s_law A.a_law A.d_law
  m_law : mg "law" = some (.ref A.a_law)
  k_law : PySem.W.keepIn K (.ref A.a_law) = true
  b_law : Binds K A.d_law ["_law_script"] []
  m_Net : mg "Net" = some (.ref A.a_Net)
  cl_Net : Cls K A.a_Net
  nf_place_count : NoAttr K A.a_Net "place_count"
  nf_ropes : NoAttr K A.a_Net "ropes"
  nf_tree : NoAttr K A.a_Net "tree"
  m_RopeError : mg "RopeError" = some (.ref A.a_RopeError)
  m_NoPlace : mg "NoPlace" = some (.ref A.a_NoPlace)
  m_NoRope : mg "NoRope" = some (.ref A.a_NoRope)
  x_NoPlace : ExcCls K A.a_NoPlace
  x_NoRope : ExcCls K A.a_NoRope
  y_NoPlace_RopeError : PySem.W.exmOne K (.ref A.a_NoPlace) (.ref A.a_RopeError) = some true
  y_NoRope_RopeError : PySem.W.exmOne K (.ref A.a_NoRope) (.ref A.a_RopeError) = some true
  y_NoPlace_NoPlace : PySem.W.exmOne K (.ref A.a_NoPlace) (.ref A.a_NoPlace) = some true
  y_NoRope_NoPlace : PySem.W.exmOne K (.ref A.a_NoRope) (.ref A.a_NoPlace) = some false
  y_NoRope_NoRope : PySem.W.exmOne K (.ref A.a_NoRope) (.ref A.a_NoRope) = some true
  i_NoPlace_NoPlace : PySem.W.kitOne K (.ref A.a_NoPlace) (.ref A.a_NoPlace) = some true
  i_NoPlace_NoRope : PySem.W.kitOne K (.ref A.a_NoPlace) (.ref A.a_NoRope) = some false
  i_NoRope_NoPlace : PySem.W.kitOne K (.ref A.a_NoRope) (.ref A.a_NoPlace) = some false
  i_NoRope_NoRope : PySem.W.kitOne K (.ref A.a_NoRope) (.ref A.a_NoRope) = some true
  i_NoPlace_ValueError : PySem.W.kitOne K (.ref A.a_NoPlace) (.type "ValueError") = some true
  i_NoRope_ValueError : PySem.W.kitOne K (.ref A.a_NoRope) (.type "ValueError") = some true
  n_NoPlace : NoCls K A.a_NoPlace
  n_NoRope : NoCls K A.a_NoRope
  z_len : mg "len" = none
  z_list : mg "list" = none
  z_range : mg "range" = none
  z_isinstance : mg "isinstance" = none
  z_int : mg "int" = none
  z_bool : mg "bool" = none
  z_tuple : mg "tuple" = none
  z_max : mg "max" = none
  z_sorted : mg "sorted" = none
  z_sum : mg "sum" = none
  z_str : mg "str" = none
  z_ValueError : mg "ValueError" = none
end My
namespace My
open PySem L2
section
variable {P : Program} {w : World} {K : PySem.W.Frag} {mg : Str → Option Value} {base : Heap} {A : Ad}
noncomputable def sp_check_places : Sp := fun vs H Q _ => ∃ (n : Nat) (a : Addr) (xs : List Int), vs = [.int n, .ref a] ∧ H a = some (.lst (xs.map V.int)) ∧ (∀ x ∈ xs, 0 ≤ x ∧ x < n) ∧ Q .non H
theorem ok_check_places (T : Txt K mg A) : FnOk P w K mg base CX0 1 A.a_check_places A.d_check_places ["count", "places"] sp_check_places := by
  refine T.f_check_places.ok sc_check_places (fun vs H Q E h => ?_) (fun cdv A' outer s H vs Q E hr h => ?_)
  · obtain ⟨n, a, xs, rfl, _⟩ := h
    rfl
  · obtain ⟨n, a, xs, rfl, ha, hv, k⟩ := h
    refine ⟨_, (pss_one (ps_for PassesOwn.never rfl (pi_list (pv 1)) (pg_name (i := 2) sc_check_places.nd rfl (Or.inl rfl))
      (pss_one (ps_if (pt_not (pt_chain op_le op_lt pe_int (pv 2) (pv 0))) (pss_one ps_never) pss_nil)))), ?_⟩
    refine ⟨_, rfl, a, rfl, ⟨_, SqL.of ha⟩, for_list (K := K) (a := a) (xs := xs.map V.int) (fun i σ H2 => H2 = H ∧ ∃ v, σ = [some (.int n), some (.ref a), v]) ⟨rfl, none, rfl⟩ (fun i σ H2 _ ⟨e, _⟩ => by rw [e]; exact SqL.of ha) ?_ ?_⟩
    · rintro i x σ H2 hx ⟨rfl, v, rfl⟩
      obtain ⟨z, ez, rfl⟩ := ints_got hx
      obtain ⟨h1, h2⟩ := hv z (List.mem_of_getElem? ez)
      try simp only [rv0,rvS,rC,rOp,rUn,rTest,rB,rBl,rI0i,rIi,rUi,rEqi,rNei,rEqb,rNeb,rNot,rAnd,rOr,rAndV,rOrV,rNotV,rIf,rSeq,rNext,rDrop,rRet,rRetN,rIfS,rAsg,rName,rNil,rCons,rCB,rBM,rCall,rTup,rLst,rSl,rNoPart,rPart,rInt,rChain,rComp,rIList,rITup,rIRng1,rK,rKn,rKc,rRaise,rIsN,rNotN,rBM0,rFld,rSFld,rMeth,rMake,rGSub,rIRngThree,rTryIf,rMCall,rMMeth,rTryR2,List.set_cons_zero,List.set_cons_succ,List.append_nil,capS,List.map_cons,List.map_nil,List.nil_append,List.cons_append,List.getD_cons_zero,List.getD_cons_succ]
      simp only [h1, h2, decide_true, if_true]
      try simp only [rv0,rvS,rC,rOp,rUn,rTest,rB,rBl,rI0i,rIi,rUi,rEqi,rNei,rEqb,rNeb,rNot,rAnd,rOr,rAndV,rOrV,rNotV,rIf,rSeq,rNext,rDrop,rRet,rRetN,rIfS,rAsg,rName,rNil,rCons,rCB,rBM,rCall,rTup,rLst,rSl,rNoPart,rPart,rInt,rChain,rComp,rIList,rITup,rIRng1,rK,rKn,rKc,rRaise,rIsN,rNotN,rBM0,rFld,rSFld,rMeth,rMake,rGSub,rIRngThree,rTryIf,rMCall,rMMeth,rTryR2,List.set_cons_zero,List.set_cons_succ,List.append_nil,capS,List.map_cons,List.map_nil,List.nil_append,List.cons_append,List.getD_cons_zero,List.getD_cons_succ]
      exact ⟨trivial, _, rfl⟩
    · rintro σ H2 ⟨rfl, v, rfl⟩
      exact k
end
end My
namespace My
open PySem L2
section
variable {P : Program} {w : World} {K : PySem.W.Frag} {mg : Str → Option Value} {base : Heap} {A : Ad}
noncomputable def sp_check_ropes : Sp := fun vs H Q _ => ∃ (n : Nat) (a : Addr) (rs : List RT.Rope), vs = [.int n, .ref a] ∧ Rep H (ropesD rs) (.ref a) ∧ RT.Okr n rs ∧ rs.length ≤ 1000 ∧ ∀ H', Same H H' → Q .non H'
theorem ok_check_ropes (T : Txt K mg A) : FnOk P w K mg base CX0 2 A.a_check_ropes A.d_check_ropes ["count", "ropes"] sp_check_ropes := by
  have G_check_places : FnOk P w K mg base CX0 _ _ _ _ _ := ok_check_places T
  refine T.f_check_ropes.ok sc_check_ropes (fun vs H Q E h => ?_) (fun cdv A' outer s H vs Q E hr h => ?_)
  · obtain ⟨n, a, rs, rfl, _⟩ := h
    rfl
  · obtain ⟨n, a, rs, rfl, hrep, hv, hl, k⟩ := h
    obtain ⟨a', xs, e, ha, hxs⟩ := rep_lst.mp hrep
    cases e
    have lxs : xs.length = rs.length := by have := hxs.length; rw [List.length_map] at this; exact this.symm
    refine ⟨_, (pss_one (ps_expr (pe_call G_check_places (hr.mono (by decide)) rfl T.m_check_places T.k_check_places T.b_check_places .nil pass0 (pa_cons (pv 0) (pa_cons (pe_op op_cat (pe_comp1 rfl (CompOk.of (os := defScope s_check_ropes) (N := ["count", "ropes"]) (ts := ["rope"]) (cs := []) (by decide +kernel) rfl rfl) (pi_list (pv 1)) (fun _ _ _ _ _ => pif_nil) (fun _ _ _ _ _ => (pe_ix ixc_tup (pv 0) pe_int (fun _ _ => rfl)))) (pe_comp1 rfl (CompOk.of (os := defScope s_check_ropes) (N := ["count", "ropes"]) (ts := ["rope"]) (cs := []) (by decide +kernel) rfl rfl) (pi_list (pv 1)) (fun _ _ _ _ _ => pif_nil) (fun _ _ _ _ _ => (pe_ix ixc_tup (pv 0) pe_int (fun _ _ => rfl))))) pa_nil))))), ?_⟩
    rw [show start ["count", "ropes"] [.int n, .ref a] = [some (.int n), some (.ref a)] from rfl]
    try simp only [rv0,rvS,rC,rOp,rUn,rTest,rB,rBl,rI0i,rIi,rUi,rEqi,rNei,rEqb,rNeb,rNot,rAnd,rOr,rAndV,rOrV,rNotV,rIf,rSeq,rNext,rDrop,rRet,rRetN,rIfS,rAsg,rName,rNil,rCons,rCB,rBM,rCall,rTup,rLst,rSl,rNoPart,rPart,rInt,rChain,rComp,rIList,rITup,rIRng1,rK,rKn,rKc,rRaise,rIsN,rNotN,rBM0,rFld,rSFld,rMeth,rMake,rGSub,rIRngThree,rTryIf,rMCall,rMMeth,rTryR2,List.set_cons_zero,List.set_cons_succ,List.append_nil,capS,List.map_cons,List.map_nil,List.nil_append,List.cons_append,List.getD_cons_zero,List.getD_cons_succ]
    refine ⟨a, rfl, ⟨_, SqL.of ha⟩, fun D hD => comp_ints (rs.map fun r => r.1) ha hD (by rw [List.length_map]; omega) (by omega) (fun i x z hx hz H2 Q' s2 q => ?_) ?_⟩
    · obtain ⟨r, p, m, rfl, hp⟩ := ropes_gotI hxs hx
      rw [List.getElem?_map, m] at hz
      cases hz
      try simp only [rv0,rvS,rC,rOp,rUn,rTest,rB,rBl,rI0i,rIi,rUi,rEqi,rNei,rEqb,rNeb,rNot,rAnd,rOr,rAndV,rOrV,rNotV,rIf,rSeq,rNext,rDrop,rRet,rRetN,rIfS,rAsg,rName,rNil,rCons,rCB,rBM,rCall,rTup,rLst,rSl,rNoPart,rPart,rInt,rChain,rComp,rIList,rITup,rIRng1,rK,rKn,rKc,rRaise,rIsN,rNotN,rBM0,rFld,rSFld,rMeth,rMake,rGSub,rIRngThree,rTryIf,rMCall,rMMeth,rTryR2,List.set_cons_zero,List.set_cons_succ,List.append_nil,capS,List.map_cons,List.map_nil,List.nil_append,List.cons_append,List.getD_cons_zero,List.getD_cons_succ]
      exact rd_tup (s2 _ _ hp) rfl q
    have s1 : Same H (upd H D (.lst ((rs.map fun r => r.1).map V.int))) := Same.upd_new hD
    try simp only [rv0,rvS,rC,rOp,rUn,rTest,rB,rBl,rI0i,rIi,rUi,rEqi,rNei,rEqb,rNeb,rNot,rAnd,rOr,rAndV,rOrV,rNotV,rIf,rSeq,rNext,rDrop,rRet,rRetN,rIfS,rAsg,rName,rNil,rCons,rCB,rBM,rCall,rTup,rLst,rSl,rNoPart,rPart,rInt,rChain,rComp,rIList,rITup,rIRng1,rK,rKn,rKc,rRaise,rIsN,rNotN,rBM0,rFld,rSFld,rMeth,rMake,rGSub,rIRngThree,rTryIf,rMCall,rMMeth,rTryR2,List.set_cons_zero,List.set_cons_succ,List.append_nil,capS,List.map_cons,List.map_nil,List.nil_append,List.cons_append,List.getD_cons_zero,List.getD_cons_succ]
    refine ⟨a, rfl, ⟨_, SqL.of (s1 _ _ ha)⟩, fun D2 hD2 => comp_ints (rs.map fun r => r.2.1) (s1 _ _ ha) hD2 (by rw [List.length_map]; omega) (by omega) (fun i x z hx hz H2 Q' s2 q => ?_) ?_⟩
    · obtain ⟨r, p, m, rfl, hp⟩ := ropes_gotI hxs hx
      rw [List.getElem?_map, m] at hz
      cases hz
      try simp only [rv0,rvS,rC,rOp,rUn,rTest,rB,rBl,rI0i,rIi,rUi,rEqi,rNei,rEqb,rNeb,rNot,rAnd,rOr,rAndV,rOrV,rNotV,rIf,rSeq,rNext,rDrop,rRet,rRetN,rIfS,rAsg,rName,rNil,rCons,rCB,rBM,rCall,rTup,rLst,rSl,rNoPart,rPart,rInt,rChain,rComp,rIList,rITup,rIRng1,rK,rKn,rKc,rRaise,rIsN,rNotN,rBM0,rFld,rSFld,rMeth,rMake,rGSub,rIRngThree,rTryIf,rMCall,rMMeth,rTryR2,List.set_cons_zero,List.set_cons_succ,List.append_nil,capS,List.map_cons,List.map_nil,List.nil_append,List.cons_append,List.getD_cons_zero,List.getD_cons_succ]
      exact rd_tup (s2 _ _ (s1 _ _ hp)) rfl q
    have s2 : Same H (upd (upd H D (.lst ((rs.map fun r => r.1).map V.int))) D2 (.lst ((rs.map fun r => r.2.1).map V.int))) := s1.trans (Same.upd_new hD2)
    try simp only [rv0,rvS,rC,rOp,rUn,rTest,rB,rBl,rI0i,rIi,rUi,rEqi,rNei,rEqb,rNeb,rNot,rAnd,rOr,rAndV,rOrV,rNotV,rIf,rSeq,rNext,rDrop,rRet,rRetN,rIfS,rAsg,rName,rNil,rCons,rCB,rBM,rCall,rTup,rLst,rSl,rNoPart,rPart,rInt,rChain,rComp,rIList,rITup,rIRng1,rK,rKn,rKc,rRaise,rIsN,rNotN,rBM0,rFld,rSFld,rMeth,rMake,rGSub,rIRngThree,rTryIf,rMCall,rMMeth,rTryR2,List.set_cons_zero,List.set_cons_succ,List.append_nil,capS,List.map_cons,List.map_nil,List.nil_append,List.cons_append,List.getD_cons_zero,List.getD_cons_succ]
    refine ⟨D, D2, _, _, rfl, rfl, (Same.upd_new hD2) _ _ upd_same, upd_same, ?_, fun p hp => ?_⟩
    · simp only [List.length_map]
      have := big1000
      have : 2000 ≤ sizeLine := by decide
      omega
    try simp only [rv0,rvS,rC,rOp,rUn,rTest,rB,rBl,rI0i,rIi,rUi,rEqi,rNei,rEqb,rNeb,rNot,rAnd,rOr,rAndV,rOrV,rNotV,rIf,rSeq,rNext,rDrop,rRet,rRetN,rIfS,rAsg,rName,rNil,rCons,rCB,rBM,rCall,rTup,rLst,rSl,rNoPart,rPart,rInt,rChain,rComp,rIList,rITup,rIRng1,rK,rKn,rKc,rRaise,rIsN,rNotN,rBM0,rFld,rSFld,rMeth,rMake,rGSub,rIRngThree,rTryIf,rMCall,rMMeth,rTryR2,List.set_cons_zero,List.set_cons_succ,List.append_nil,capS,List.map_cons,List.map_nil,List.nil_append,List.cons_append,List.getD_cons_zero,List.getD_cons_succ]
    refine ⟨n, p, (rs.map fun r => r.1) ++ (rs.map fun r => r.2.1), rfl, by rw [upd_same, List.map_append], fun x m => ?_, k _ (s2.trans (Same.upd_new hp))⟩
    rcases List.mem_append.mp m with m | m
    · obtain ⟨r, mr, rfl⟩ := List.mem_map.mp m
      exact (hv r mr).1
    · obtain ⟨r, mr, rfl⟩ := List.mem_map.mp m
      exact (hv r mr).2
end
end My
namespace My
open PySem L2
section
variable {P : Program} {w : World} {K : PySem.W.Frag} {mg : Str → Option Value} {base : Heap} {A : Ad}
noncomputable def sp_is_rope_number : Sp := fun vs H Q _ => ∃ (a : Addr) (xs : List V) (i : Int), vs = [.ref a, .int i] ∧ H a = some (.lst xs) ∧ Q (.bl (decide (0 ≤ i ∧ i < xs.length))) H
theorem ok_is_rope_number (T : Txt K mg A) : FnOk P w K mg base CX0 1 A.a_is_rope_number A.d_is_rope_number ["ropes", "number"] sp_is_rope_number := by
  refine T.f_is_rope_number.ok sc_is_rope_number (fun vs H Q E h => ?_) (fun cdv A' outer s H vs Q E hr h => ?_)
  · obtain ⟨a, xs, i, rfl, _⟩ := h
    rfl
  · obtain ⟨a, xs, i, rfl, ha, k⟩ := h
    refine ⟨_, (pss_one (ps_ret (pe_chain op_le op_lt pe_int (pv 1) (pe_callB call_len_seq rfl T.z_len bo_len (pa_cons (pv 0) pa_nil))))), ?_⟩
    rw [show start ["ropes", "number"] [.ref a, .int i] = [some (.ref a), some (.int i)] from rfl]
    try simp only [rv0,rvS,rC,rOp,rUn,rTest,rB,rBl,rI0i,rIi,rUi,rEqi,rNei,rEqb,rNeb,rNot,rAnd,rOr,rAndV,rOrV,rNotV,rIf,rSeq,rNext,rDrop,rRet,rRetN,rIfS,rAsg,rName,rNil,rCons,rCB,rBM,rCall,rTup,rLst,rSl,rNoPart,rPart,rInt,rChain,rComp,rIList,rITup,rIRng1,rK,rKn,rKc,rRaise,rIsN,rNotN,rBM0,rFld,rSFld,rMeth,rMake,rGSub,rIRngThree,rTryIf,rMCall,rMMeth,rTryR2,List.set_cons_zero,List.set_cons_succ,List.append_nil,capS,List.map_cons,List.map_nil,List.nil_append,List.cons_append,List.getD_cons_zero,List.getD_cons_succ]
    refine ite2 (fun c => ?_) (fun c => ?_)
    · have c := of_decide_eq_true c
      refine ⟨a, _, rfl, .inl (SqL.of ha), ?_⟩
      try simp only [rv0,rvS,rC,rOp,rUn,rTest,rB,rBl,rI0i,rIi,rUi,rEqi,rNei,rEqb,rNeb,rNot,rAnd,rOr,rAndV,rOrV,rNotV,rIf,rSeq,rNext,rDrop,rRet,rRetN,rIfS,rAsg,rName,rNil,rCons,rCB,rBM,rCall,rTup,rLst,rSl,rNoPart,rPart,rInt,rChain,rComp,rIList,rITup,rIRng1,rK,rKn,rKc,rRaise,rIsN,rNotN,rBM0,rFld,rSFld,rMeth,rMake,rGSub,rIRngThree,rTryIf,rMCall,rMMeth,rTryR2,List.set_cons_zero,List.set_cons_succ,List.append_nil,capS,List.map_cons,List.map_nil,List.nil_append,List.cons_append,List.getD_cons_zero,List.getD_cons_succ]
      simpa only [c, true_and] using k
    · have c : ¬ 0 ≤ i := by simpa using c
      simpa only [c, false_and, decide_false] using k
end
end My
namespace My
open PySem L2
section
variable {P : Program} {w : World} {K : PySem.W.Frag} {mg : Str → Option Value} {base : Heap} {A : Ad}
noncomputable def sp_cost_of : Sp := fun vs H Q _ => ∃ (a b : Addr) (rs : List RT.Rope) (ns : List Int), vs = [.ref a, .ref b] ∧ Rep H (ropesD rs) (.ref a) ∧ H b = some (.lst (ns.map V.int)) ∧ RT.Okn rs ns ∧ ns.length ≤ 1000 ∧ ∀ H', Same H H' → Q (.int (RT.sumC rs ns)) H'
theorem ok_cost_of (T : Txt K mg A) : FnOk P w K mg base CX0 1 A.a_cost_of A.d_cost_of ["ropes", "numbers"] sp_cost_of := by
  refine T.f_cost_of.ok sc_cost_of (fun vs H Q E h => ?_) (fun cdv A' outer s H vs Q E hr h => ?_)
  · obtain ⟨a, b, rs, ns, rfl, _⟩ := h
    rfl
  · obtain ⟨a, b, rs, ns, rfl, hrep, hb, hok, hl, k⟩ := h
    obtain ⟨a', xs, e, ha, hxs⟩ := rep_lst.mp hrep
    cases e
    refine ⟨_, (pss_one (ps_ret (pe_callB (call_sumI rfl) rfl T.z_sum bo_sum (pa_cons (pe_comp1 rfl (CompOk.of (os := defScope s_cost_of) (N := ["ropes", "numbers"]) (ts := ["number"]) (cs := [0]) (by decide +kernel) rfl rfl) (pi_list (pv 1)) (fun _ _ _ _ _ => pif_nil) (fun _ _ _ _ _ => (pe_ix ixc_tup (pe_ix ixc_list (pv 1) (pv 0) (fun _ _ => rfl)) pe_int (fun _ _ => rfl)))) pa_nil)))), ?_⟩
    rw [show start ["ropes", "numbers"] [.ref a, .ref b] = [some (.ref a), some (.ref b)] from rfl]
    try simp only [rv0,rvS,rC,rOp,rUn,rTest,rB,rBl,rI0i,rIi,rUi,rEqi,rNei,rEqb,rNeb,rNot,rAnd,rOr,rAndV,rOrV,rNotV,rIf,rSeq,rNext,rDrop,rRet,rRetN,rIfS,rAsg,rName,rNil,rCons,rCB,rBM,rCall,rTup,rLst,rSl,rNoPart,rPart,rInt,rChain,rComp,rIList,rITup,rIRng1,rK,rKn,rKc,rRaise,rIsN,rNotN,rBM0,rFld,rSFld,rMeth,rMake,rGSub,rIRngThree,rTryIf,rMCall,rMMeth,rTryR2,List.set_cons_zero,List.set_cons_succ,List.append_nil,capS,List.map_cons,List.map_nil,List.nil_append,List.cons_append,List.getD_cons_zero,List.getD_cons_succ]
    refine ⟨b, rfl, ⟨_, SqL.of hb⟩, fun D hD => comp_map_list (fun x => match x with | .int z => .int (RT.cost rs z) | v => v) hb hD (by rw [List.length_map]; omega) (fun x mx H' Q' s3 q => ?_) ?_⟩
    · obtain ⟨z, mz, rfl⟩ := List.mem_map.mp mx
      have hz := hok z mz
      obtain ⟨p, hp1, hp2⟩ := ropes_at (hxs.mono s3) hz.1 hz.2
      try simp only [rv0,rvS,rC,rOp,rUn,rTest,rB,rBl,rI0i,rIi,rUi,rEqi,rNei,rEqb,rNeb,rNot,rAnd,rOr,rAndV,rOrV,rNotV,rIf,rSeq,rNext,rDrop,rRet,rRetN,rIfS,rAsg,rName,rNil,rCons,rCB,rBM,rCall,rTup,rLst,rSl,rNoPart,rPart,rInt,rChain,rComp,rIList,rITup,rIRng1,rK,rKn,rKc,rRaise,rIsN,rNotN,rBM0,rFld,rSFld,rMeth,rMake,rGSub,rIRngThree,rTryIf,rMCall,rMMeth,rTryR2,List.set_cons_zero,List.set_cons_succ,List.append_nil,capS,List.map_cons,List.map_nil,List.nil_append,List.cons_append,List.getD_cons_zero,List.getD_cons_succ]
      exact rd_list (s3 _ _ ha) hp1 (rd_tup hp2 rfl q)
    · have kk := k _ (Same.upd_new (o := .lst ((ns.map (RT.cost rs)).map V.int)) hD)
      rw [show (ns.map V.int).map (fun x => match x with | .int z => V.int (RT.cost rs z) | v => v) = (ns.map (RT.cost rs)).map V.int by simp [Function.comp]]
      try simp only [rv0,rvS,rC,rOp,rUn,rTest,rB,rBl,rI0i,rIi,rUi,rEqi,rNei,rEqb,rNeb,rNot,rAnd,rOr,rAndV,rOrV,rNotV,rIf,rSeq,rNext,rDrop,rRet,rRetN,rIfS,rAsg,rName,rNil,rCons,rCB,rBM,rCall,rTup,rLst,rSl,rNoPart,rPart,rInt,rChain,rComp,rIList,rITup,rIRng1,rK,rKn,rKc,rRaise,rIsN,rNotN,rBM0,rFld,rSFld,rMeth,rMake,rGSub,rIRngThree,rTryIf,rMCall,rMMeth,rTryR2,List.set_cons_zero,List.set_cons_succ,List.append_nil,capS,List.map_cons,List.map_nil,List.nil_append,List.cons_append,List.getD_cons_zero,List.getD_cons_succ]
      exact ⟨D, ns.map (RT.cost rs), rfl, upd_same, kk⟩
end
end My
namespace My
open PySem L2
section
variable {P : Program} {w : World} {K : PySem.W.Frag} {mg : Str → Option Value} {base : Heap} {A : Ad}
noncomputable def sp_from_cheapest (T : Addr) : Sp := fun vs H Q _ => ∃ (a : Addr) (rs : List RT.Rope), vs = [.ref a] ∧ Rep H (ropesD rs) (.ref a) ∧ rs.length < 64 ∧ H T = some (.ctab q_from_cheapest) ∧
  ∀ D H' (os : List Int), Same H H' → H D = none → RT.Ord rs os → H' D = some (.lst (os.map V.int)) → Q (.ref D) H'
theorem ok_from_cheapest (T : Txt K mg A) (B : Bm mg base) : FnOk P w K mg base CX0 2 A.a_from_cheapest A.d_from_cheapest ["ropes"] (sp_from_cheapest A.p_from_cheapest) := by
  refine T.f_from_cheapest.okC T.e_from_cheapest sc_from_cheapest (fun vs H Q E h => ?_) (fun A' outer s H vs Q E hr h => ?_)
  · obtain ⟨a, rs, rfl, _⟩ := h
    rfl
  · obtain ⟨a, rs, rfl, hrep, hl, hT, k⟩ := h
    obtain ⟨a', xs, e, ha, hxs⟩ := rep_lst.mp hrep
    cases e
    have lxs : xs.length = rs.length := by have := hxs.length; rw [List.length_map] at this; exact this.symm
    refine ⟨_, (pss_one (ps_ret (pe_sortK rfl hr.depth rfl T.h_from_cheapest B (CompOk.of (os := defScope s_from_cheapest) (N := ["ropes"]) (ts := ["number"]) (cs := [0]) (by decide +kernel) rfl rfl) rfl T.z_sorted (pa_cons (pe_callTy call_rng1 rfl T.z_range bo_range (pa_cons (pe_callB call_len_seq rfl T.z_len bo_len (pa_cons (pv 0) pa_nil)) pa_nil)) pa_nil) (fun _ _ _ _ _ => (pe_tup (pa_cons (pe_ix ixl_tup (pe_ix ixl_list (pv 1) (pv 0) (fun _ _ => rfl)) pe_int (fun _ _ => rfl)) (pa_cons (pv 0) pa_nil))))))), ?_⟩
    rw [show start ["ropes"] [.ref a] = [some (.ref a)] from rfl]
    try simp only [rv0,rvS,rC,rOp,rUn,rTest,rB,rBl,rI0i,rIi,rUi,rEqi,rNei,rEqb,rNeb,rNot,rAnd,rOr,rAndV,rOrV,rNotV,rIf,rSeq,rNext,rDrop,rRet,rRetN,rIfS,rAsg,rName,rNil,rCons,rCB,rBM,rCall,rTup,rLst,rSl,rNoPart,rPart,rInt,rChain,rComp,rIList,rITup,rIRng1,rK,rKn,rKc,rRaise,rIsN,rNotN,rBM0,rFld,rSFld,rMeth,rMake,rGSub,rIRngThree,rTryIf,rMCall,rMMeth,rTryR2,List.set_cons_zero,List.set_cons_succ,List.append_nil,capS,List.map_cons,List.map_nil,List.nil_append,List.cons_append,List.getD_cons_zero,List.getD_cons_succ]
    unfold tSortK
    try simp only [rv0,rvS,rC,rOp,rUn,rTest,rB,rBl,rI0i,rIi,rUi,rEqi,rNei,rEqb,rNeb,rNot,rAnd,rOr,rAndV,rOrV,rNotV,rIf,rSeq,rNext,rDrop,rRet,rRetN,rIfS,rAsg,rName,rNil,rCons,rCB,rBM,rCall,rTup,rLst,rSl,rNoPart,rPart,rInt,rChain,rComp,rIList,rITup,rIRng1,rK,rKn,rKc,rRaise,rIsN,rNotN,rBM0,rFld,rSFld,rMeth,rMake,rGSub,rIRngThree,rTryIf,rMCall,rMMeth,rTryR2,List.set_cons_zero,List.set_cons_succ,List.append_nil,capS,List.map_cons,List.map_nil,List.nil_append,List.cons_append,List.getD_cons_zero,List.getD_cons_succ]
    refine ⟨a, _, rfl, .inl (SqL.of ha), ?_⟩
    try simp only [rv0,rvS,rC,rOp,rUn,rTest,rB,rBl,rI0i,rIi,rUi,rEqi,rNei,rEqb,rNeb,rNot,rAnd,rOr,rAndV,rOrV,rNotV,rIf,rSeq,rNext,rDrop,rRet,rRetN,rIfS,rAsg,rName,rNil,rCons,rCB,rBM,rCall,rTup,rLst,rSl,rNoPart,rPart,rInt,rChain,rComp,rIList,rITup,rIRng1,rK,rKn,rKc,rRaise,rIsN,rNotN,rBM0,rFld,rSFld,rMeth,rMake,rGSub,rIRngThree,rTryIf,rMCall,rMMeth,rTryR2,List.set_cons_zero,List.set_cons_succ,List.append_nil,capS,List.map_cons,List.map_nil,List.nil_append,List.cons_append,List.getD_cons_zero,List.getD_cons_succ]
    refine ⟨_, rfl, fun p hp => ?_⟩
    try simp only [rv0,rvS,rC,rOp,rUn,rTest,rB,rBl,rI0i,rIi,rUi,rEqi,rNei,rEqb,rNeb,rNot,rAnd,rOr,rAndV,rOrV,rNotV,rIf,rSeq,rNext,rDrop,rRet,rRetN,rIfS,rAsg,rName,rNil,rCons,rCB,rBM,rCall,rTup,rLst,rSl,rNoPart,rPart,rInt,rChain,rComp,rIList,rITup,rIRng1,rK,rKn,rKc,rRaise,rIsN,rNotN,rBM0,rFld,rSFld,rMeth,rMake,rGSub,rIRngThree,rTryIf,rMCall,rMMeth,rTryR2,List.set_cons_zero,List.set_cons_succ,List.append_nil,capS,List.map_cons,List.map_nil,List.nil_append,List.cons_append,List.getD_cons_zero,List.getD_cons_succ]
    rw [lxs]
    have s1 : Same H (upd H p (.rng 0 (rs.length : Nat))) := Same.upd_new hp
    have hN : ((rs.length : Int) - 0).toNat = rs.length := by omega
    refine ⟨p, 0, rs.length, fun i => [RT.cost rs i, i], RT.rank rs, rfl, upd_same, ⟨by decide, by decide, by omega, by omega⟩, by omega, s1 _ _ hT, fun i => by simp, fun i hi H2 s2 Q' hq => ?_, fun i j hi hj => ?_, fun i j hi hj e => ?_, fun D H' os s2 nD o1 o2 eD => ?_⟩
    · have s2' := s1.trans s2
      rw [hN] at hi
      obtain ⟨rp, hp1, hp2⟩ := ropes_at (k := (0 : Int) + (i : Nat)) (hxs.mono s2') (by omega) (by omega)
      simp only [capL]
      try simp only [rv0,rvS,rC,rOp,rUn,rTest,rB,rBl,rI0i,rIi,rUi,rEqi,rNei,rEqb,rNeb,rNot,rAnd,rOr,rAndV,rOrV,rNotV,rIf,rSeq,rNext,rDrop,rRet,rRetN,rIfS,rAsg,rName,rNil,rCons,rCB,rBM,rCall,rTup,rLst,rSl,rNoPart,rPart,rInt,rChain,rComp,rIList,rITup,rIRng1,rK,rKn,rKc,rRaise,rIsN,rNotN,rBM0,rFld,rSFld,rMeth,rMake,rGSub,rIRngThree,rTryIf,rMCall,rMMeth,rTryR2,List.set_cons_zero,List.set_cons_succ,List.append_nil,capS,List.map_cons,List.map_nil,List.nil_append,List.cons_append,List.getD_cons_zero,List.getD_cons_succ]
      refine rd_list (s2' _ _ ha) hp1 (rd_tup hp2 rfl ?_)
      try simp only [rv0,rvS,rC,rOp,rUn,rTest,rB,rBl,rI0i,rIi,rUi,rEqi,rNei,rEqb,rNeb,rNot,rAnd,rOr,rAndV,rOrV,rNotV,rIf,rSeq,rNext,rDrop,rRet,rRetN,rIfS,rAsg,rName,rNil,rCons,rCB,rBM,rCall,rTup,rLst,rSl,rNoPart,rPart,rInt,rChain,rComp,rIList,rITup,rIRng1,rK,rKn,rKc,rRaise,rIsN,rNotN,rBM0,rFld,rSFld,rMeth,rMake,rGSub,rIRngThree,rTryIf,rMCall,rMMeth,rTryR2,List.set_cons_zero,List.set_cons_succ,List.append_nil,capS,List.map_cons,List.map_nil,List.nil_append,List.cons_append,List.getD_cons_zero,List.getD_cons_succ]
      refine ⟨show 2 ≤ sizeLine by decide, fun kp hkp => hq kp _ (Same.upd_new hkp) hkp ?_⟩
      rw [upd_same]
      simp [RT.cost, RT.rp]
    · rw [hN] at hi hj
      have r := RT.rank_iff hi hj
      unfold RT.Chp at r
      rw [Bool.eq_iff_iff, decide_eq_true_iff, r]
      simp only [HT.lexLt]
      split
      · split
        · simp; omega
        · simp; omega
      · simp; omega
    · rw [hN] at hi hj
      exact RT.rank_inj hi hj e
    · rw [hN] at o1
      have O := RT.ord_of o1 o2
      have eD' : H' D = some (.lst ((os.map fun i : Nat => (i : Int)).map V.int)) := by rw [eD]; simp
      exact k D H' _ (s1.trans s2) (s1.free nD) O eD'
end
end My
namespace My
open PySem L2
section
variable {P : Program} {w : World} {K : PySem.W.Frag} {mg : Str → Option Value} {base : Heap} {A : Ad}
noncomputable def sp_take_ringless : Sp := fun vs H Q _ => ∃ (n : Nat) (a b : Addr) (rs : List RT.Rope) (os : List Int), vs = [.int n, .ref a, .ref b] ∧ Rep H (ropesD rs) (.ref a) ∧ H b = some (.lst (os.map V.int)) ∧ RT.Okr n rs ∧ RT.Okn rs os ∧ n ≤ 1000 ∧ os.length ≤ 1000 ∧
  ∀ p H', Same H H' → H p = none → H' p = some (.lst ((RT.take true n rs os).map V.int)) → Q (.ref p) H'
theorem ok_take_ringless (T : Txt K mg A) : FnOk P w K mg base CX0 1 A.a_take_ringless A.d_take_ringless ["count", "ropes", "order"] sp_take_ringless := by
  refine T.f_take_ringless.ok sc_take_ringless (fun vs H Q E h => ?_) (fun cdv A' outer s H vs Q E hr h => ?_)
  · obtain ⟨n, a, b, rs, os, rfl, _⟩ := h
    rfl
  · obtain ⟨n, a, b, rs, os, rfl, hrep, hb, hv, hok, hn, hl, k⟩ := h
    obtain ⟨a', xs, e, ha, hxs⟩ := rep_lst.mp hrep
    cases e
    refine ⟨_, (pss_cons (ps_set (i := 3) sc_take_ringless.nd rfl (Or.inl rfl) (pe_callTy (call_list_rng rfl) rfl T.z_list bo_list (pa_cons (pe_callTy call_rng1 rfl T.z_range bo_range (pa_cons (pv 0) pa_nil)) pa_nil)))
      (pss_cons (ps_set (i := 4) sc_take_ringless.nd rfl (Or.inl rfl) (pe_lst pa_nil))
      (pss_cons (ps_for PassesOwn.never rfl (pi_list (pv 2)) (pg_name (i := 5) sc_take_ringless.nd rfl (Or.inl rfl))
      (pss_cons (ps_set (i := 6) sc_take_ringless.nd rfl (Or.inr rfl) (pe_ix ix_list (pv 3) (pe_ix ix_tup (pe_ix ix_list (pv 1) (pv 5) (fun _ _ => rfl)) pe_int (fun _ _ => rfl)) (fun _ _ => rfl)))
      (pss_cons (ps_set (i := 7) sc_take_ringless.nd rfl (Or.inr rfl) (pe_ix ix_list (pv 3) (pe_ix ix_tup (pe_ix ix_list (pv 1) (pv 5) (fun _ _ => rfl)) pe_int (fun _ _ => rfl)) (fun _ _ => rfl)))
      (pss_one (ps_if (pt_cmpR op_ne (pv 6) (pv 7) (nomark _)) (pss_cons (ps_setc1 (i := 3) rfl (CompOk.of (os := defScope s_take_ringless) (N := ["count", "ropes", "order", "groups", "taken", "number", "one", "other"]) (ts := ["group"]) (cs := [6, 7]) (by decide +kernel) rfl rfl) (pi_list (pv 3)) (fun _ _ _ _ _ => pif_nil) (fun _ _ _ _ _ => (pe_ifExp (pt_cmpR op_eq (pv 0) (pv 2) (nomark _)) (pv 1) (pv 0))) sc_take_ringless.nd rfl (Or.inl rfl))
      (pss_one (ps_expr (pe_bm PySem.F.plainAttrs_list PySem.F.slot_list_append PySem.F.type_list_append mt_append (pv 4) (pa_cons (pv 5) pa_nil))))) pss_nil)))))
      (pss_one (ps_ret (pv 4)))))), ?_⟩
    rw [show start ["count", "ropes", "order", "groups", "taken", "number", "one", "other"] [.int n, .ref a, .ref b] = [some (.int n), some (.ref a), some (.ref b), none, none, none, none, none] from rfl]
    try simp only [rv0,rvS,rC,rOp,rUn,rTest,rB,rBl,rI0i,rIi,rUi,rEqi,rNei,rEqb,rNeb,rNot,rAnd,rOr,rAndV,rOrV,rNotV,rIf,rSeq,rNext,rDrop,rRet,rRetN,rIfS,rAsg,rName,rNil,rCons,rCB,rBM,rCall,rTup,rLst,rSl,rNoPart,rPart,rInt,rChain,rComp,rIList,rITup,rIRng1,rK,rKn,rKc,rRaise,rIsN,rNotN,rBM0,rFld,rSFld,rMeth,rMake,rGSub,rIRngThree,rTryIf,rMCall,rMMeth,rTryR2,List.set_cons_zero,List.set_cons_succ,List.append_nil,capS,List.map_cons,List.map_nil,List.nil_append,List.cons_append,List.getD_cons_zero,List.getD_cons_succ]
    refine ⟨_, rfl, fun pr hpr => ?_⟩
    try simp only [rv0,rvS,rC,rOp,rUn,rTest,rB,rBl,rI0i,rIi,rUi,rEqi,rNei,rEqb,rNeb,rNot,rAnd,rOr,rAndV,rOrV,rNotV,rIf,rSeq,rNext,rDrop,rRet,rRetN,rIfS,rAsg,rName,rNil,rCons,rCB,rBM,rCall,rTup,rLst,rSl,rNoPart,rPart,rInt,rChain,rComp,rIList,rITup,rIRng1,rK,rKn,rKc,rRaise,rIsN,rNotN,rBM0,rFld,rSFld,rMeth,rMake,rGSub,rIRngThree,rTryIf,rMCall,rMMeth,rTryR2,List.set_cons_zero,List.set_cons_succ,List.append_nil,capS,List.map_cons,List.map_nil,List.nil_append,List.cons_append,List.getD_cons_zero,List.getD_cons_succ]
    refine ⟨pr, 0, n, rfl, upd_same, by omega, by omega, by omega, by omega, by omega, fun gp hgp => ?_⟩
    try simp only [rv0,rvS,rC,rOp,rUn,rTest,rB,rBl,rI0i,rIi,rUi,rEqi,rNei,rEqb,rNeb,rNot,rAnd,rOr,rAndV,rOrV,rNotV,rIf,rSeq,rNext,rDrop,rRet,rRetN,rIfS,rAsg,rName,rNil,rCons,rCB,rBM,rCall,rTup,rLst,rSl,rNoPart,rPart,rInt,rChain,rComp,rIList,rITup,rIRng1,rK,rKn,rKc,rRaise,rIsN,rNotN,rBM0,rFld,rSFld,rMeth,rMake,rGSub,rIRngThree,rTryIf,rMCall,rMMeth,rTryR2,List.set_cons_zero,List.set_cons_succ,List.append_nil,capS,List.map_cons,List.map_nil,List.nil_append,List.cons_append,List.getD_cons_zero,List.getD_cons_succ]
    refine ⟨Nat.zero_le _, fun tp htp => ?_⟩
    try simp only [rv0,rvS,rC,rOp,rUn,rTest,rB,rBl,rI0i,rIi,rUi,rEqi,rNei,rEqb,rNeb,rNot,rAnd,rOr,rAndV,rOrV,rNotV,rIf,rSeq,rNext,rDrop,rRet,rRetN,rIfS,rAsg,rName,rNil,rCons,rCB,rBM,rCall,rTup,rLst,rSl,rNoPart,rPart,rInt,rChain,rComp,rIList,rITup,rIRng1,rK,rKn,rKc,rRaise,rIsN,rNotN,rBM0,rFld,rSFld,rMeth,rMake,rGSub,rIRngThree,rTryIf,rMCall,rMMeth,rTryR2,List.set_cons_zero,List.set_cons_succ,List.append_nil,capS,List.map_cons,List.map_nil,List.nil_append,List.cons_append,List.getD_cons_zero,List.getD_cons_succ]
    have n1 : H gp = none := (Same.upd_new hpr).free hgp
    have n2 : H tp = none := ((Same.upd_new hpr).trans (Same.upd_new hgp)).free htp
    have n3 : gp ≠ tp := fun z => by rw [← z, upd_same] at htp; cases htp
    have s0 : Same H (upd (upd (upd H pr (.rng 0 n)) gp (.lst (rngV 0 ((n : Int) - 0).toNat))) tp (.lst [])) := ((Same.upd_new hpr).trans (Same.upd_new hgp)).trans (Same.upd_new htp)
    refine ⟨_, rfl, b, rfl, ⟨_, SqL.of (s0 _ _ hb)⟩, for_list (K := K) (a := b) (xs := os.map V.int) (fun i σ H2 => ∃ gp tp x5 x6 x7, σ = [some (.int n), some (.ref a), some (.ref b), some (.ref gp), some (.ref tp), x5, x6, x7] ∧ Same H H2 ∧ H gp = none ∧ H tp = none ∧ gp ≠ tp ∧
      H2 gp = some (.lst ((RT.run true n rs (os.take i)).1.map V.int)) ∧ H2 tp = some (.lst ((RT.run true n rs (os.take i)).2.map V.int)))
      ⟨gp, tp, none, none, none, rfl, s0, n1, n2, n3, ?_, upd_same⟩ (fun i σ H2 _ ⟨_, _, _, _, _, _, q, _⟩ => SqL.of (q _ _ hb)) ?_ ?_⟩
    · rw [upd_ne n3, upd_same]
      congr 2
      rw [show ((n : Int) - 0).toNat = n by omega]
      exact rng_iota n
    · rintro i x σ H2 hx ⟨gp, tp, x5, x6, x7, rfl, s2, n1, n2, n3, hg, ht⟩
      obtain ⟨z, ez, rfl⟩ := ints_got hx
      have mz := List.mem_of_getElem? ez
      have hz := hok z mz
      have okp : RT.Okn rs (os.take i) := fun j m => hok j (List.mem_of_mem_take m)
      have L := (RT.took (d := true) hv okp)
      have hlen := L.lb.len
      obtain ⟨p, hp1, hp2⟩ := ropes_at (hxs.mono s2) hz.1 hz.2
      obtain ⟨⟨v1, v2⟩, v3, v4⟩ := hv.at hz
      have i1 := lab_at (g := (RT.run true n rs (os.take i)).1) v1 (by rw [hlen]; exact v2)
      have i2 := lab_at (g := (RT.run true n rs (os.take i)).1) v3 (by rw [hlen]; exact v4)
      have step : RT.run true n rs (os.take (i + 1)) = RT.tstep true rs (RT.run true n rs (os.take i)) z := by
        unfold RT.run
        rw [take_snoc ez, List.foldl_append]
        rfl
      try simp only [rv0,rvS,rC,rOp,rUn,rTest,rB,rBl,rI0i,rIi,rUi,rEqi,rNei,rEqb,rNeb,rNot,rAnd,rOr,rAndV,rOrV,rNotV,rIf,rSeq,rNext,rDrop,rRet,rRetN,rIfS,rAsg,rName,rNil,rCons,rCB,rBM,rCall,rTup,rLst,rSl,rNoPart,rPart,rInt,rChain,rComp,rIList,rITup,rIRng1,rK,rKn,rKc,rRaise,rIsN,rNotN,rBM0,rFld,rSFld,rMeth,rMake,rGSub,rIRngThree,rTryIf,rMCall,rMMeth,rTryR2,List.set_cons_zero,List.set_cons_succ,List.append_nil,capS,List.map_cons,List.map_nil,List.nil_append,List.cons_append,List.getD_cons_zero,List.getD_cons_succ]
      refine rd_list (s2 _ _ ha) hp1 (rd_tup hp2 rfl (rd_list hg i1 ?_))
      try simp only [rv0,rvS,rC,rOp,rUn,rTest,rB,rBl,rI0i,rIi,rUi,rEqi,rNei,rEqb,rNeb,rNot,rAnd,rOr,rAndV,rOrV,rNotV,rIf,rSeq,rNext,rDrop,rRet,rRetN,rIfS,rAsg,rName,rNil,rCons,rCB,rBM,rCall,rTup,rLst,rSl,rNoPart,rPart,rInt,rChain,rComp,rIList,rITup,rIRng1,rK,rKn,rKc,rRaise,rIsN,rNotN,rBM0,rFld,rSFld,rMeth,rMake,rGSub,rIRngThree,rTryIf,rMCall,rMMeth,rTryR2,List.set_cons_zero,List.set_cons_succ,List.append_nil,capS,List.map_cons,List.map_nil,List.nil_append,List.cons_append,List.getD_cons_zero,List.getD_cons_succ]
      refine rd_list (s2 _ _ ha) hp1 (rd_tup hp2 rfl (rd_list hg i2 ?_))
      try simp only [rv0,rvS,rC,rOp,rUn,rTest,rB,rBl,rI0i,rIi,rUi,rEqi,rNei,rEqb,rNeb,rNot,rAnd,rOr,rAndV,rOrV,rNotV,rIf,rSeq,rNext,rDrop,rRet,rRetN,rIfS,rAsg,rName,rNil,rCons,rCB,rBM,rCall,rTup,rLst,rSl,rNoPart,rPart,rInt,rChain,rComp,rIList,rITup,rIRng1,rK,rKn,rKc,rRaise,rIsN,rNotN,rBM0,rFld,rSFld,rMeth,rMake,rGSub,rIRngThree,rTryIf,rMCall,rMMeth,rTryR2,List.set_cons_zero,List.set_cons_succ,List.append_nil,capS,List.map_cons,List.map_nil,List.nil_append,List.cons_append,List.getD_cons_zero,List.getD_cons_succ]
      refine ite2 (fun c => ?_) (fun c => ?_)
      · have c : RT.lab (RT.run true n rs (os.take i)).1 (RT.rp rs z).1 ≠ RT.lab (RT.run true n rs (os.take i)).1 (RT.rp rs z).2.1 := by simpa using c
        try simp only [rv0,rvS,rC,rOp,rUn,rTest,rB,rBl,rI0i,rIi,rUi,rEqi,rNei,rEqb,rNeb,rNot,rAnd,rOr,rAndV,rOrV,rNotV,rIf,rSeq,rNext,rDrop,rRet,rRetN,rIfS,rAsg,rName,rNil,rCons,rCB,rBM,rCall,rTup,rLst,rSl,rNoPart,rPart,rInt,rChain,rComp,rIList,rITup,rIRng1,rK,rKn,rKc,rRaise,rIsN,rNotN,rBM0,rFld,rSFld,rMeth,rMake,rGSub,rIRngThree,rTryIf,rMCall,rMMeth,rTryR2,List.set_cons_zero,List.set_cons_succ,List.append_nil,capS,List.map_cons,List.map_nil,List.nil_append,List.cons_append,List.getD_cons_zero,List.getD_cons_succ]
        refine ⟨gp, rfl, ⟨_, SqL.of hg⟩, fun D hD => comp_map_list (fun x => if x = .int (RT.lab (RT.run true n rs (os.take i)).1 (RT.rp rs z).2.1) then .int (RT.lab (RT.run true n rs (os.take i)).1 (RT.rp rs z).1) else x) hg hD ?_ (fun x mx H' Q' _ q => ?_) ?_⟩
        · rw [List.length_map, hlen]; exact hn
        · obtain ⟨y, _, rfl⟩ := List.mem_map.mp mx
          try simp only [rv0,rvS,rC,rOp,rUn,rTest,rB,rBl,rI0i,rIi,rUi,rEqi,rNei,rEqb,rNeb,rNot,rAnd,rOr,rAndV,rOrV,rNotV,rIf,rSeq,rNext,rDrop,rRet,rRetN,rIfS,rAsg,rName,rNil,rCons,rCB,rBM,rCall,rTup,rLst,rSl,rNoPart,rPart,rInt,rChain,rComp,rIList,rITup,rIRng1,rK,rKn,rKc,rRaise,rIsN,rNotN,rBM0,rFld,rSFld,rMeth,rMake,rGSub,rIRngThree,rTryIf,rMCall,rMMeth,rTryR2,List.set_cons_zero,List.set_cons_succ,List.append_nil,capS,List.map_cons,List.map_nil,List.nil_append,List.cons_append,List.getD_cons_zero,List.getD_cons_succ]
          refine ite2 (fun c => ?_) (fun c => ?_)
          · rw [if_pos (by simpa using c)] at q
            exact q
          · rw [if_neg (by simpa using c)] at q
            exact q
        · try simp only [rv0,rvS,rC,rOp,rUn,rTest,rB,rBl,rI0i,rIi,rUi,rEqi,rNei,rEqb,rNeb,rNot,rAnd,rOr,rAndV,rOrV,rNotV,rIf,rSeq,rNext,rDrop,rRet,rRetN,rIfS,rAsg,rName,rNil,rCons,rCB,rBM,rCall,rTup,rLst,rSl,rNoPart,rPart,rInt,rChain,rComp,rIList,rITup,rIRng1,rK,rKn,rKc,rRaise,rIsN,rNotN,rBM0,rFld,rSFld,rMeth,rMake,rGSub,rIRngThree,rTryIf,rMCall,rMMeth,rTryR2,List.set_cons_zero,List.set_cons_succ,List.append_nil,capS,List.map_cons,List.map_nil,List.nil_append,List.cons_append,List.getD_cons_zero,List.getD_cons_succ]
          have nt : tp ≠ D := ne_of_none ht hD
          have ht' : upd H2 D (.lst (((RT.run true n rs (os.take i)).1.map V.int).map fun x => if x = .int (RT.lab (RT.run true n rs (os.take i)).1 (RT.rp rs z).2.1) then .int (RT.lab (RT.run true n rs (os.take i)).1 (RT.rp rs z).1) else x)) tp = some (.lst ((RT.run true n rs (os.take i)).2.map V.int)) := by rw [upd_ne nt]; exact ht
          refine ⟨.inl ⟨rfl, _, SqL.of ht'⟩, tp, _, _, rfl, rfl, ht', ?_, ?_⟩
          · rw [List.length_map]
            have := L.sub.length_le
            rw [List.length_take] at this
            have := big1000
            omega
          · refine ⟨D, tp, _, _, _, rfl, ?_, s2.free hD, n2, nt.symm, ?_, ?_⟩
            · exact (s2.trans (Same.upd_new hD)).upd_late n2
            · rw [upd_ne nt.symm, upd_same, step]
              unfold RT.tstep
              rw [if_pos c]
              congr 2
              exact relab_map _ _ _
            · rw [upd_same, step]
              unfold RT.tstep
              rw [if_pos c, List.map_append]
              rfl
      · have c : ¬ RT.lab (RT.run true n rs (os.take i)).1 (RT.rp rs z).1 ≠ RT.lab (RT.run true n rs (os.take i)).1 (RT.rp rs z).2.1 := by simpa using c
        try simp only [rv0,rvS,rC,rOp,rUn,rTest,rB,rBl,rI0i,rIi,rUi,rEqi,rNei,rEqb,rNeb,rNot,rAnd,rOr,rAndV,rOrV,rNotV,rIf,rSeq,rNext,rDrop,rRet,rRetN,rIfS,rAsg,rName,rNil,rCons,rCB,rBM,rCall,rTup,rLst,rSl,rNoPart,rPart,rInt,rChain,rComp,rIList,rITup,rIRng1,rK,rKn,rKc,rRaise,rIsN,rNotN,rBM0,rFld,rSFld,rMeth,rMake,rGSub,rIRngThree,rTryIf,rMCall,rMMeth,rTryR2,List.set_cons_zero,List.set_cons_succ,List.append_nil,capS,List.map_cons,List.map_nil,List.nil_append,List.cons_append,List.getD_cons_zero,List.getD_cons_succ]
        refine ⟨gp, tp, _, _, _, rfl, s2, n1, n2, n3, ?_, ?_⟩
        · rw [step]; unfold RT.tstep; rw [if_neg c]; exact hg
        · rw [step]; unfold RT.tstep; rw [if_neg c]; exact ht
    · rintro σ H2 ⟨gp, tp, x5, x6, x7, rfl, s2, n1, n2, n3, hg, ht⟩
      try simp only [rv0,rvS,rC,rOp,rUn,rTest,rB,rBl,rI0i,rIi,rUi,rEqi,rNei,rEqb,rNeb,rNot,rAnd,rOr,rAndV,rOrV,rNotV,rIf,rSeq,rNext,rDrop,rRet,rRetN,rIfS,rAsg,rName,rNil,rCons,rCB,rBM,rCall,rTup,rLst,rSl,rNoPart,rPart,rInt,rChain,rComp,rIList,rITup,rIRng1,rK,rKn,rKc,rRaise,rIsN,rNotN,rBM0,rFld,rSFld,rMeth,rMake,rGSub,rIRngThree,rTryIf,rMCall,rMMeth,rTryR2,List.set_cons_zero,List.set_cons_succ,List.append_nil,capS,List.map_cons,List.map_nil,List.nil_append,List.cons_append,List.getD_cons_zero,List.getD_cons_succ]
      rw [List.length_map, List.take_length] at ht
      exact k tp H2 s2 n2 ht
end
end My
namespace My
open PySem L2
section
variable {P : Program} {w : World} {K : PySem.W.Frag} {mg : Str → Option Value} {base : Heap} {A : Ad}
noncomputable def sp_least_tree (T : Addr) : Sp := fun vs H Q _ => ∃ (n : Nat) (a : Addr) (rs : List RT.Rope), vs = [.int n, .ref a] ∧ Rep H (ropesD rs) (.ref a) ∧ RT.Okr n rs ∧ n ≤ 1000 ∧ rs.length < 64 ∧ H T = some (.ctab q_from_cheapest) ∧
  ∀ D H' (ns : List Int), Same H H' → H D = none → RT.Least n rs ns → H' D = some (.lst (ns.map V.int)) → Q (.ref D) H'
theorem ok_least_tree (T : Txt K mg A) (B : Bm mg base) : FnOk P w K mg base CX0 3 A.a_least_tree A.d_least_tree ["count", "ropes"] (sp_least_tree A.p_from_cheapest) := by
  have G_check_ropes : FnOk P w K mg base CX0 _ _ _ _ _ := ok_check_ropes T
  have G_take_ringless : FnOk P w K mg base CX0 _ _ _ _ _ := ok_take_ringless T
  have G_from_cheapest : FnOk P w K mg base CX0 _ _ _ _ _ := ok_from_cheapest T B
  refine T.f_least_tree.ok sc_least_tree (fun vs H Q E h => ?_) (fun cdv A' outer s H vs Q E hr h => ?_)
  · obtain ⟨n, a, rs, rfl, _⟩ := h
    rfl
  · obtain ⟨n, a, rs, rfl, hrep, hv, hn, hl, hT, k⟩ := h
    refine ⟨_, (pss_cons (ps_expr (pe_call G_check_ropes (hr.mono (by decide)) rfl T.m_check_ropes T.k_check_ropes T.b_check_ropes .nil pass0 (pa_cons (pv 0) (pa_cons (pv 1) pa_nil))))
      (pss_one (ps_ret (pe_callB call_sortedI rfl T.z_sorted bo_sorted (pa_cons (pe_call G_take_ringless (hr.mono (by decide)) rfl T.m_take_ringless T.k_take_ringless T.b_take_ringless .nil pass0 (pa_cons (pv 0) (pa_cons (pv 1) (pa_cons (pe_call G_from_cheapest (hr.mono (by decide)) rfl T.m_from_cheapest T.k_from_cheapest T.b_from_cheapest .nil pass0 (pa_cons (pv 1) pa_nil)) pa_nil)))) pa_nil))))), ?_⟩
    rw [show start ["count", "ropes"] [.int n, .ref a] = [some (.int n), some (.ref a)] from rfl]
    try simp only [rv0,rvS,rC,rOp,rUn,rTest,rB,rBl,rI0i,rIi,rUi,rEqi,rNei,rEqb,rNeb,rNot,rAnd,rOr,rAndV,rOrV,rNotV,rIf,rSeq,rNext,rDrop,rRet,rRetN,rIfS,rAsg,rName,rNil,rCons,rCB,rBM,rCall,rTup,rLst,rSl,rNoPart,rPart,rInt,rChain,rComp,rIList,rITup,rIRng1,rK,rKn,rKc,rRaise,rIsN,rNotN,rBM0,rFld,rSFld,rMeth,rMake,rGSub,rIRngThree,rTryIf,rMCall,rMMeth,rTryR2,List.set_cons_zero,List.set_cons_succ,List.append_nil,capS,List.map_cons,List.map_nil,List.nil_append,List.cons_append,List.getD_cons_zero,List.getD_cons_succ]
    refine ⟨n, a, rs, rfl, hrep, hv, by omega, fun H1 s1 => ?_⟩
    try simp only [rv0,rvS,rC,rOp,rUn,rTest,rB,rBl,rI0i,rIi,rUi,rEqi,rNei,rEqb,rNeb,rNot,rAnd,rOr,rAndV,rOrV,rNotV,rIf,rSeq,rNext,rDrop,rRet,rRetN,rIfS,rAsg,rName,rNil,rCons,rCB,rBM,rCall,rTup,rLst,rSl,rNoPart,rPart,rInt,rChain,rComp,rIList,rITup,rIRng1,rK,rKn,rKc,rRaise,rIsN,rNotN,rBM0,rFld,rSFld,rMeth,rMake,rGSub,rIRngThree,rTryIf,rMCall,rMMeth,rTryR2,List.set_cons_zero,List.set_cons_succ,List.append_nil,capS,List.map_cons,List.map_nil,List.nil_append,List.cons_append,List.getD_cons_zero,List.getD_cons_succ]
    refine ⟨a, rs, rfl, hrep.mono s1, hl, s1 _ _ hT, fun D H2 os s2 nD O eD => ?_⟩
    have s3 := s1.trans s2
    have lt := (RT.take_sub (d := true) hv O.okn).length_le
    have lo : os.length ≤ rs.length := RT.nodup_le O.nodup O.okn
    refine ⟨n, a, D, rs, os, rfl, hrep.mono s3, eD, hv, O.okn, hn, by omega, fun p2 H3 s4 n4 e4 => ?_⟩
    refine ⟨p2, _, rfl, e4, by omega, fun D2 ns' p1 p2 n5 => ?_⟩
    have s5 := s3.trans s4
    exact k D2 _ ns' (s5.trans (Same.upd_new n5)) (s5.free n5) ⟨_, O, p1, p2⟩ upd_same
end
end My
namespace My
open PySem L2
section
variable {P : Program} {w : World} {K : PySem.W.Frag} {mg : Str → Option Value} {base : Heap} {A : Ad}
noncomputable def sp_bad_check_places (C : Addr) : Sp := fun vs H _ E => ∃ (n : Nat) (a : Addr) (xs : List Int), vs = [.int n, .ref a] ∧ H a = some (.lst (xs.map V.int)) ∧ (¬ ∀ x ∈ xs, 0 ≤ x ∧ x < (n : Int)) ∧ E (.ref C) none H
theorem bad_check_places (T : Txt K mg A) : FnOk P w K mg base (CX1 P w) 1 A.a_check_places A.d_check_places ["count", "places"] (sp_bad_check_places A.a_NoPlace) := by
  refine T.f_check_places.okX sc_check_places (fun vs H Q E h => ?_) (fun cdv A' outer s H vs Q E hr h => ?_)
  · obtain ⟨n, a, xs, rfl, _⟩ := h
    rfl
  · obtain ⟨n, a, xs, rfl, ha, hv, k⟩ := h
    refine ⟨_, (pss_one (ps_for PassesOwn.leaving rfl (pi_list (pv 1)) (pg_name (i := 2) sc_check_places.nd rfl (Or.inl rfl))
      (pss_one (ps_if (pt_not (pt_chain op_le op_lt pe_int (pv 2) (pv 0))) (pss_one (ps_raise1 hr.hd T.x_NoPlace T.m_NoPlace rfl (pa_cons pe_str pa_nil))) pss_nil)))), ?_⟩
    refine ⟨_, rfl, a, rfl, ⟨_, SqL.of ha⟩, for_list (K := K) (a := a) (xs := xs.map V.int) (fun i σ H2 => H2 = H ∧ (∃ v, σ = [some (.int n), some (.ref a), v]) ∧ ∀ x ∈ xs.take i, 0 ≤ x ∧ x < (n : Int)) ⟨rfl, ⟨none, rfl⟩, fun x m => by simp at m⟩ (fun i σ H2 _ ⟨e, _⟩ => by rw [e]; exact SqL.of ha) ?_ ?_⟩
    · rintro i x σ H2 hx ⟨rfl, ⟨v, rfl⟩, hi⟩
      obtain ⟨z, ez, rfl⟩ := ints_got hx
      try simp only [rv0,rvS,rC,rOp,rUn,rTest,rB,rBl,rI0i,rIi,rUi,rEqi,rNei,rEqb,rNeb,rNot,rAnd,rOr,rAndV,rOrV,rNotV,rIf,rSeq,rNext,rDrop,rRet,rRetN,rIfS,rAsg,rName,rNil,rCons,rCB,rBM,rCall,rTup,rLst,rSl,rNoPart,rPart,rInt,rChain,rComp,rIList,rITup,rIRng1,rK,rKn,rKc,rRaise,rIsN,rNotN,rBM0,rFld,rSFld,rMeth,rMake,rGSub,rIRngThree,rTryIf,rMCall,rMMeth,rTryR2,List.set_cons_zero,List.set_cons_succ,List.append_nil,capS,List.map_cons,List.map_nil,List.nil_append,List.cons_append,List.getD_cons_zero,List.getD_cons_succ]
      by_cases hz : 0 ≤ z ∧ z < (n : Int)
      · simp only [hz.1, hz.2, decide_true, if_true]
        try simp only [rv0,rvS,rC,rOp,rUn,rTest,rB,rBl,rI0i,rIi,rUi,rEqi,rNei,rEqb,rNeb,rNot,rAnd,rOr,rAndV,rOrV,rNotV,rIf,rSeq,rNext,rDrop,rRet,rRetN,rIfS,rAsg,rName,rNil,rCons,rCB,rBM,rCall,rTup,rLst,rSl,rNoPart,rPart,rInt,rChain,rComp,rIList,rITup,rIRng1,rK,rKn,rKc,rRaise,rIsN,rNotN,rBM0,rFld,rSFld,rMeth,rMake,rGSub,rIRngThree,rTryIf,rMCall,rMMeth,rTryR2,List.set_cons_zero,List.set_cons_succ,List.append_nil,capS,List.map_cons,List.map_nil,List.nil_append,List.cons_append,List.getD_cons_zero,List.getD_cons_succ]
        refine ⟨trivial, ⟨_, rfl⟩, fun x m => ?_⟩
        rw [List.take_add_one, ez] at m
        rcases List.mem_append.mp m with m | m
        · exact hi x m
        · have : x = z := by simpa using m
          rw [this]; exact hz
      · by_cases h1 : 0 ≤ z
        · have h2 : ¬ z < (n : Int) := fun c => hz ⟨h1, c⟩
          simp only [h1, h2, decide_true, decide_false, if_true]
          try simp only [rv0,rvS,rC,rOp,rUn,rTest,rB,rBl,rI0i,rIi,rUi,rEqi,rNei,rEqb,rNeb,rNot,rAnd,rOr,rAndV,rOrV,rNotV,rIf,rSeq,rNext,rDrop,rRet,rRetN,rIfS,rAsg,rName,rNil,rCons,rCB,rBM,rCall,rTup,rLst,rSl,rNoPart,rPart,rInt,rChain,rComp,rIList,rITup,rIRng1,rK,rKn,rKc,rRaise,rIsN,rNotN,rBM0,rFld,rSFld,rMeth,rMake,rGSub,rIRngThree,rTryIf,rMCall,rMMeth,rTryR2,List.set_cons_zero,List.set_cons_succ,List.append_nil,capS,List.map_cons,List.map_nil,List.nil_append,List.cons_append,List.getD_cons_zero,List.getD_cons_succ]
          exact ite2 (fun _ => ⟨show 1 ≤ sizeLine by decide, k⟩) (fun c => absurd (by simp) c)
        · simp only [h1, decide_false]
          try simp only [rv0,rvS,rC,rOp,rUn,rTest,rB,rBl,rI0i,rIi,rUi,rEqi,rNei,rEqb,rNeb,rNot,rAnd,rOr,rAndV,rOrV,rNotV,rIf,rSeq,rNext,rDrop,rRet,rRetN,rIfS,rAsg,rName,rNil,rCons,rCB,rBM,rCall,rTup,rLst,rSl,rNoPart,rPart,rInt,rChain,rComp,rIList,rITup,rIRng1,rK,rKn,rKc,rRaise,rIsN,rNotN,rBM0,rFld,rSFld,rMeth,rMake,rGSub,rIRngThree,rTryIf,rMCall,rMMeth,rTryR2,List.set_cons_zero,List.set_cons_succ,List.append_nil,capS,List.map_cons,List.map_nil,List.nil_append,List.cons_append,List.getD_cons_zero,List.getD_cons_succ]
          refine iteF ?_
          exact ite2 (fun _ => ⟨show 1 ≤ sizeLine by decide, k⟩) (fun c => absurd (by simp) c)
    · rintro σ H2 ⟨rfl, _, hi⟩
      rw [List.length_map, List.take_length] at hi
      exact absurd hi hv
end
end My
namespace My
open PySem L2
section
variable {P : Program} {w : World} {K : PySem.W.Frag} {mg : Str → Option Value} {base : Heap} {A : Ad}
inductive Deed where
  | lay (x y c : Int)
  | cost (k c : Int)
  | look
noncomputable def deedD : Deed → PyData
  | .lay x y c => .tuple [.str "lay", .int x, .int y, .int c]
  | .cost k c => .tuple [.str "cost", .int k, .int c]
  | .look => .tuple [.str "look"]
noncomputable def okD (n : Nat) (rs : List RT.Rope) : Deed → Bool
  | .lay x y _ => decide ((0 ≤ x ∧ x < (n : Int)) ∧ (0 ≤ y ∧ y < (n : Int)))
  | .cost k _ => decide (0 ≤ k ∧ k < (rs.length : Int))
  | .look => true
noncomputable def aft (rs : List RT.Rope) : Deed → List RT.Rope
  | .lay x y c => rs ++ [(x, y, c)]
  | .cost k c => RT.recst rs k c
  | .look => rs
noncomputable def next (n : Nat) (rs : List RT.Rope) (d : Deed) : List RT.Rope := if okD n rs d = true then aft rs d else rs
noncomputable def optD : Option Int → PyData
  | none => .none
  | some k => .int k
noncomputable def optV : Option Int → V
  | none => .non
  | some k => .int k
noncomputable def wordD : Deed → Str
  | .lay _ _ _ => "no place"
  | _ => "no rope"
noncomputable def exchD (a b : List Int) : PyData := match RT.miss a b with
  | none => .none
  | some g => .tuple [.int g, optD (RT.miss b a)]
noncomputable def ansD (n : Nat) (rs : List RT.Rope) : Deed → PyData
  | .lay x y c => .tuple [.int (((rs ++ [(x, y, c)]).length : Int) - 1), optD (RT.miss (RT.lt n rs) (RT.lt n (rs ++ [(x, y, c)]))), .int (RT.sumC (rs ++ [(x, y, c)]) (RT.lt n (rs ++ [(x, y, c)])))]
  | .cost k c => .tuple [exchD (RT.lt n rs) (RT.lt n (RT.recst rs k c)), .int (RT.sumC (RT.recst rs k c) (RT.lt n (RT.recst rs k c)))]
  | .look => intsD (RT.lt n rs)
noncomputable def toldD (n : Nat) (rs : List RT.Rope) (d : Deed) : PyData := if okD n rs d = true then ansD n rs d else .str (wordD d)
noncomputable def handD (n : Nat) (rs : List RT.Rope) (d : Deed) : PyData := if okD n rs d = true then ansD n rs d else .tuple [.str "refused", .str (wordD d)]
theorem rep_opt {H : Hp} {o : Option Int} {v : V} : Rep H (optD o) v ↔ v = optV o := by
  cases o with
  | none => exact rep_non
  | some k => exact rep_int
theorem len_aft (rs : List RT.Rope) (d : Deed) : (aft rs d).length ≤ rs.length + 1 := by
  cases d with
  | lay x y c => simp [aft]
  | cost k c => simp only [aft, RT.len_recst]; omega
  | look => simp only [aft]; omega
theorem len_next (n : Nat) (rs : List RT.Rope) (d : Deed) : (next n rs d).length ≤ rs.length + 1 := by
  unfold next
  split
  · exact len_aft rs d
  · omega
theorem okr_aft {n : Nat} {rs : List RT.Rope} {d : Deed} (v : RT.Okr n rs) (h : okD n rs d = true) : RT.Okr n (aft rs d) := by
  cases d with
  | lay x y c =>
    have h := of_decide_eq_true h
    intro r m
    rcases List.mem_append.mp m with m | m
    · exact v r m
    · rw [List.mem_singleton.mp m]; exact h
  | cost k c => exact RT.okr_recst v (of_decide_eq_true h)
  | look => exact v
theorem pc_tr : ¬ ("place_count" : Str) = "tree" := by decide +kernel
theorem pc_ro : ¬ ("place_count" : Str) = "ropes" := by decide +kernel
theorem ro_tr : ¬ ("ropes" : Str) = "tree" := by decide +kernel
noncomputable def flds (n : Nat) (pr tp : Addr) : List (Str × V) := putF "tree" (.ref tp) (putF "ropes" (.ref pr) (putF "place_count" (.int n) []))
theorem flds_eq (n : Nat) (pr tp : Addr) : flds n pr tp = ([("place_count", V.int n), ("ropes", V.ref pr), ("tree", V.ref tp)] : List (Str × V)) := by
  unfold flds
  simp only [putF, pc_tr, pc_ro, ro_tr, if_false]
theorem flds_n (n : Nat) (pr tp : Addr) : (flds n pr tp).lookup ("place_count" : Str) = some (.int n) := by
  unfold flds
  rw [lookup_putF, if_neg pc_tr, lookup_putF, if_neg pc_ro, lookup_putF, if_pos rfl]
theorem flds_r (n : Nat) (pr tp : Addr) : (flds n pr tp).lookup ("ropes" : Str) = some (.ref pr) := by
  unfold flds
  rw [lookup_putF, if_neg ro_tr, lookup_putF, if_pos rfl]
theorem flds_t (n : Nat) (pr tp : Addr) : (flds n pr tp).lookup ("tree" : Str) = some (.ref tp) := by
  unfold flds
  rw [lookup_putF, if_pos rfl]
theorem flds_no (n : Nat) (pr tp : Addr) {m : Str} (h1 : ¬ m = "tree") (h2 : ¬ m = "ropes") (h3 : ¬ m = "place_count") : (flds n pr tp).lookup m = none := by
  unfold flds
  rw [lookup_putF, if_neg h1, lookup_putF, if_neg h2, lookup_putF, if_neg h3]
  rfl
theorem flds_put (n : Nat) (pr tp tq : Addr) : putF "tree" (.ref tq) (flds n pr tp) = flds n pr tq := by
  rw [flds_eq, flds_eq]
  simp only [putF, pc_tr, ro_tr, if_false, if_true]
theorem flds_len (n : Nat) (pr tp : Addr) : (flds n pr tp).length < 1000 := by
  rw [flds_eq]
  show 3 < 1000
  decide
noncomputable def Kept (a b : Addr) (H H' : Hp) : Prop := ∀ c o, H c = some o → c ≠ a → c ≠ b → H' c = some o
theorem Kept.trans {a b : Addr} {H H1 H2 : Hp} (k : Kept a b H H1) (l : Kept a b H1 H2) : Kept a b H H2 := fun c o e n1 n2 => l c o (k c o e n1 n2) n1 n2
theorem Kept.of {a b : Addr} {H H' : Hp} (s : Same H H') : Kept a b H H' := fun c o e _ _ => s c o e
theorem Kept.same {a b : Addr} {H H' H0 : Hp} (k : Kept a b H H') (s : Same H0 H) (ha : H0 a = none) (hb : H0 b = none) : Same H0 H' := fun c o e => k c o (s c o e) (ne_of_none e ha) (ne_of_none e hb)
noncomputable def NoTup (H : Hp) (a : Addr) : Prop := ∀ xs, H a ≠ some (.tup xs)
theorem NoTup.ins {H : Hp} {a C dx : Addr} {fs : List (Str × V)} (h : H a = some (.ins C dx fs)) : NoTup H a := fun xs e => by rw [h] at e; cases e
theorem NoTup.lst {H : Hp} {a : Addr} {ys : List V} (h : H a = some (.lst ys)) : NoTup H a := fun xs e => by rw [h] at e; cases e
theorem Kept.tup {a b p : Addr} {H H' : Hp} {xs : List V} (k : Kept a b H H') (ha : NoTup H a) (hb : NoTup H b) (h : H p = some (.tup xs)) : H' p = some (.tup xs) :=
  k p _ h (fun e => ha xs (e ▸ h)) (fun e => hb xs (e ▸ h))
theorem ropes_keep {a b : Addr} {H H' : Hp} (k : Kept a b H H') (ha : NoTup H a) (hb : NoTup H b) : ∀ {rs : List RT.Rope} {xs : List V}, Reps H (rs.map ropeD) xs → Reps H' (rs.map ropeD) xs
  | [], _, h => by rw [List.map_nil, reps_nil] at h ⊢; exact h
  | r :: rs, _, h => by
    rw [List.map_cons] at h
    obtain ⟨x, xr, rfl, h1, h2⟩ := reps_cons.mp h
    obtain ⟨p, rfl, hp⟩ := rep_rope.mp h1
    exact reps_cc.mpr ⟨rep_rope.mpr ⟨p, rfl, k.tup ha hb hp⟩, ropes_keep k ha hb h2⟩
mutual
noncomputable def flatD : PyData → Bool
  | .list _ => false
  | .dict _ => false
  | .tuple l => flatAll l
  | _ => true
noncomputable def flatAll : List PyData → Bool
  | [] => true
  | x :: xs => flatD x && flatAll xs
end
mutual
theorem Rep.keep {H H' : Hp} (k : ∀ p xs, H p = some (.tup xs) → H' p = some (.tup xs)) : ∀ {d : PyData} {v : V}, flatD d = true → Rep H d v → Rep H' d v
  | .none, _, _, h => by rw [Rep] at h ⊢; exact h
  | .bool _, _, _, h => by rw [Rep] at h ⊢; exact h
  | .int _, _, _, h => by rw [Rep] at h ⊢; exact h
  | .str _, _, _, h => by rw [Rep] at h ⊢; exact h
  | .list ds, _, f, h => by simp [flatD] at f
  | .tuple ds, _, f, h => by
    obtain ⟨a, xs, rfl, h1, h2⟩ := rep_tup.mp h
    rw [flatD] at f
    exact rep_tup.mpr ⟨a, xs, rfl, k _ _ h1, Reps.keep k f h2⟩
  | .dict _, _, f, h => by simp [flatD] at f
theorem Reps.keep {H H' : Hp} (k : ∀ p xs, H p = some (.tup xs) → H' p = some (.tup xs)) : ∀ {ds : List PyData} {xs : List V}, flatAll ds = true → Reps H ds xs → Reps H' ds xs
  | [], _, _, h => by rw [reps_nil] at h ⊢; exact h
  | d :: ds, _, f, h => by
    obtain ⟨x, r, rfl, h1, h2⟩ := reps_cons.mp h
    rw [flatAll, Bool.and_eq_true] at f
    exact reps_cc.mpr ⟨Rep.keep k f.1 h1, Reps.keep k f.2 h2⟩
end
theorem flat_opt (o : Option Int) : flatD (optD o) = true := by cases o <;> rfl
theorem flat_exch (a b : List Int) : flatD (exchD a b) = true := by
  unfold exchD
  split
  · rfl
  · simp [flatD, flatAll, flat_opt]
noncomputable def New (H0 H : Hp) (d : PyData) (v : V) : Prop := ∀ H', (∀ c o, H c = some o → ((∃ xs, o = .tup xs) ∨ H0 c = none) → H' c = some o) → Rep H' d v
theorem New.flat {H0 H : Hp} {d : PyData} {v : V} (h : Rep H d v) (f : flatD d = true) : New H0 H d v := fun H' k => Rep.keep (fun p xs e => k p _ e (.inl ⟨xs, rfl⟩)) f h
theorem New.ints {H0 H : Hp} {q : Addr} {ns : List Int} (h : H q = some (.lst (ns.map V.int))) (n : H0 q = none) : New H0 H (intsD ns) (.ref q) := fun H' k => rep_ints.mpr ⟨q, rfl, k _ _ h (.inr n)⟩
structure NetAt (C : Addr) (H : Hp) (np pr tp : Addr) (n : Nat) (rs : List RT.Rope) : Prop where
  ob : ∃ dx, H np = some (.ins C dx (flds n pr tp))
  ro : ∃ xr, H pr = some (.lst xr) ∧ Reps H (rs.map ropeD) xr
  tr : H tp = some (.lst ((RT.lt n rs).map V.int))
  ne : tp ≠ pr
  ok : RT.Okr n rs
  ls : RT.Least n rs (RT.lt n rs)
theorem NetAt.mono {C np pr tp : Addr} {H H' : Hp} {n : Nat} {rs : List RT.Rope} (N : NetAt C H np pr tp n rs) (s : Same H H') : NetAt C H' np pr tp n rs := by
  obtain ⟨⟨dx, h1⟩, ⟨xr, h2, h3⟩, h4, h5, h6, h7⟩ := N
  exact ⟨⟨dx, s _ _ h1⟩, ⟨xr, s _ _ h2, h3.mono s⟩, s _ _ h4, h5, h6, h7⟩
theorem NetAt.keep {C np pr tp a b : Addr} {H H' : Hp} {n : Nat} {rs : List RT.Rope} (N : NetAt C H np pr tp n rs) (k : Kept a b H H') (ha : NoTup H a) (hb : NoTup H b) (n1 : np ≠ a) (n2 : np ≠ b) (r1 : pr ≠ a) (r2 : pr ≠ b) (t1 : tp ≠ a) (t2 : tp ≠ b) : NetAt C H' np pr tp n rs := by
  obtain ⟨⟨dx, h1⟩, ⟨xr, h2, h3⟩, h4, h5, h6, h7⟩ := N
  exact ⟨⟨dx, k _ _ h1 n1 n2⟩, ⟨xr, k _ _ h2 r1 r2, ropes_keep k ha hb h3⟩, k _ _ h4 t1 t2, h5, h6, h7⟩
theorem NetAt.np {C np pr tp : Addr} {H : Hp} {n : Nat} {rs : List RT.Rope} (N : NetAt C H np pr tp n rs) : NoTup H np := by
  obtain ⟨dx, h⟩ := N.ob
  exact .ins h
theorem NetAt.pr {C np pr tp : Addr} {H : Hp} {n : Nat} {rs : List RT.Rope} (N : NetAt C H np pr tp n rs) : NoTup H pr := by
  obtain ⟨xr, h, _⟩ := N.ro
  exact .lst h
theorem NetAt.rep {C np pr tp : Addr} {H : Hp} {n : Nat} {rs : List RT.Rope} (N : NetAt C H np pr tp n rs) : Rep H (ropesD rs) (.ref pr) := by
  obtain ⟨xr, h, h2⟩ := N.ro
  exact rep_lst.mpr ⟨pr, xr, rfl, h, h2⟩
theorem NetAt.len {C np pr tp : Addr} {H : Hp} {n : Nat} {rs : List RT.Rope} (N : NetAt C H np pr tp n rs) : (RT.lt n rs).length ≤ rs.length := N.ls.len N.ok
theorem NetAt.okn {C np pr tp : Addr} {H : Hp} {n : Nat} {rs : List RT.Rope} (N : NetAt C H np pr tp n rs) : RT.Okn rs (RT.lt n rs) := (N.ls.tree N.ok).ok
theorem reps_set {H : Hp} : ∀ {ds : List PyData} {xs : List V} {i : Nat} {d : PyData} {v : V}, Reps H ds xs → Rep H d v → Reps H (ds.set i d) (xs.set i v)
  | [], _, _, _, _, h, _ => by rw [reps_nil.mp h]; exact reps_nil.mpr rfl
  | c :: ds, _, 0, d, v, h, k => by
    obtain ⟨x, r, rfl, _, h2⟩ := reps_cons.mp h
    exact reps_cc.mpr ⟨k, h2⟩
  | c :: ds, _, i + 1, d, v, h, k => by
    obtain ⟨x, r, rfl, h1, h2⟩ := reps_cons.mp h
    exact reps_cc.mpr ⟨h1, reps_set h2 k⟩
theorem rep_lay {H : Hp} {x y c : Int} {v : V} (h : Rep H (deedD (.lay x y c)) v) : ∃ a, v = .ref a ∧ H a = some (.tup [.str "lay", .int x, .int y, .int c]) := by
  obtain ⟨a, xs, rfl, ha, hx⟩ := rep_tup.mp h
  obtain ⟨v1, r1, rfl, e1, hx⟩ := reps_cons.mp hx
  obtain ⟨v2, r2, rfl, e2, hx⟩ := reps_cons.mp hx
  obtain ⟨v3, r3, rfl, e3, hx⟩ := reps_cons.mp hx
  obtain ⟨v4, r4, rfl, e4, hx⟩ := reps_cons.mp hx
  rw [rep_str.mp e1, rep_int.mp e2, rep_int.mp e3, rep_int.mp e4, reps_nil.mp hx] at ha
  exact ⟨a, rfl, ha⟩
theorem rep_cost {H : Hp} {x c : Int} {v : V} (h : Rep H (deedD (.cost x c)) v) : ∃ a, v = .ref a ∧ H a = some (.tup [.str "cost", .int x, .int c]) := by
  obtain ⟨a, xs, rfl, ha, hx⟩ := rep_tup.mp h
  obtain ⟨v1, r1, rfl, e1, hx⟩ := reps_cons.mp hx
  obtain ⟨v2, r2, rfl, e2, hx⟩ := reps_cons.mp hx
  obtain ⟨v3, r3, rfl, e3, hx⟩ := reps_cons.mp hx
  rw [rep_str.mp e1, rep_int.mp e2, rep_int.mp e3, reps_nil.mp hx] at ha
  exact ⟨a, rfl, ha⟩
theorem rep_look {H : Hp} {v : V} (h : Rep H (deedD .look) v) : ∃ a, v = .ref a ∧ H a = some (.tup [.str "look"]) := by
  obtain ⟨a, xs, rfl, ha, hx⟩ := rep_tup.mp h
  obtain ⟨v1, r1, rfl, e1, hx⟩ := reps_cons.mp hx
  rw [rep_str.mp e1, reps_nil.mp hx] at ha
  exact ⟨a, rfl, ha⟩
theorem str_ne {a b : Str} (h : ¬ a = b) : ¬ V.str a = V.str b := fun e => h (by injection e)
theorem cost_lay : ¬ V.str "cost" = V.str "lay" := str_ne (by decide +kernel)
theorem look_lay : ¬ V.str "look" = V.str "lay" := str_ne (by decide +kernel)
theorem look_cost : ¬ V.str "look" = V.str "cost" := str_ne (by decide +kernel)
theorem lay_look : ¬ V.str "lay" = V.str "look" := str_ne (by decide +kernel)
theorem cost_look : ¬ V.str "cost" = V.str "look" := str_ne (by decide +kernel)
theorem flat_lay (n : Nat) (rs : List RT.Rope) (x y c : Int) : flatD (ansD n rs (.lay x y c)) = true := by simp [ansD, flatD, flatAll, flat_opt]
theorem flat_cost (n : Nat) (rs : List RT.Rope) (k c : Int) : flatD (ansD n rs (.cost k c)) = true := by simp [ansD, flatD, flatAll, flat_exch]
noncomputable def xcl (XP XR : Addr) : Deed → Addr
  | .lay _ _ _ => XP
  | _ => XR
end
end My
namespace My
open PySem L2
section
variable {P : Program} {w : World} {K : PySem.W.Frag} {mg : Str → Option Value} {base : Heap} {A : Ad}
noncomputable def sp_only_in : Sp := fun vs H Q _ => ∃ (a b : Addr) (xs ys : List Int), vs = [.ref a, .ref b] ∧ H a = some (.lst (xs.map V.int)) ∧ H b = some (.lst (ys.map V.int)) ∧ xs.length ≤ 1000 ∧ ∀ H', Same H H' → Q (optV (RT.miss xs ys)) H'
theorem ok_only_in (T : Txt K mg A) : FnOk P w K mg base CX0 1 A.a_only_in A.d_only_in ["one", "other"] sp_only_in := by
  refine T.f_only_in.ok sc_only_in (fun vs H Q E h => ?_) (fun cdv A' outer s H vs Q E hr h => ?_)
  · obtain ⟨a, b, xs, ys, rfl, _⟩ := h
    rfl
  · obtain ⟨a, b, xs, ys, rfl, ha, hb, hl, k⟩ := h
    refine ⟨_, (pss_cons (ps_setc1 (i := 2) rfl (CompOk.of (os := defScope s_only_in) (N := ["one", "other", "rest"]) (ts := ["number"]) (cs := [1]) (by decide +kernel) rfl rfl) (pi_list (pv 0)) (fun _ _ _ _ _ => (pif_one (pt_cmpR opc_notIn_seq (pv 0) (pv 1) (by rfl)))) (fun _ _ _ _ _ => (pv 0)) sc_only_in.nd rfl (Or.inl rfl))
      (pss_one (ps_ret (pe_ifExp (pt_truth (pv 2) (by intro _; rfl)) (pe_ix ix_list (pv 2) pe_int (fun _ _ => rfl)) pe_non)))), ?_⟩
    rw [show start ["one", "other", "rest"] [.ref a, .ref b] = [some (.ref a), some (.ref b), none] from rfl]
    try simp only [rv0,rvS,rC,rOp,rUn,rTest,rB,rBl,rI0i,rIi,rUi,rEqi,rNei,rEqb,rNeb,rNot,rAnd,rOr,rAndV,rOrV,rNotV,rIf,rSeq,rNext,rDrop,rRet,rRetN,rIfS,rAsg,rName,rNil,rCons,rCB,rBM,rCall,rTup,rLst,rSl,rNoPart,rPart,rInt,rChain,rComp,rIList,rITup,rIRng1,rK,rKn,rKc,rRaise,rIsN,rNotN,rBM0,rFld,rSFld,rMeth,rMake,rGSub,rIRngThree,rTryIf,rMCall,rMMeth,rTryR2,List.set_cons_zero,List.set_cons_succ,List.append_nil,capS,List.map_cons,List.map_nil,List.nil_append,List.cons_append,List.getD_cons_zero,List.getD_cons_succ]
    refine ⟨a, rfl, ⟨_, SqL.of ha⟩, fun D2 hD2 => comp_filter_list (fun x => match x with | .int z => !ys.contains z | _ => false) ha hD2 (by rw [List.length_map]; omega) (fun x mx H' Q' s3 q => ?_) ?_⟩
    · obtain ⟨z, mz, rfl⟩ := List.mem_map.mp mx
      try simp only [rv0,rvS,rC,rOp,rUn,rTest,rB,rBl,rI0i,rIi,rUi,rEqi,rNei,rEqb,rNeb,rNot,rAnd,rOr,rAndV,rOrV,rNotV,rIf,rSeq,rNext,rDrop,rRet,rRetN,rIfS,rAsg,rName,rNil,rCons,rCB,rBM,rCall,rTup,rLst,rSl,rNoPart,rPart,rInt,rChain,rComp,rIList,rITup,rIRng1,rK,rKn,rKc,rRaise,rIsN,rNotN,rBM0,rFld,rSFld,rMeth,rMake,rGSub,rIRngThree,rTryIf,rMCall,rMMeth,rTryR2,List.set_cons_zero,List.set_cons_succ,List.append_nil,capS,List.map_cons,List.map_nil,List.nil_append,List.cons_append,List.getD_cons_zero,List.getD_cons_succ]
      refine ⟨b, _, rfl, .inl (SqL.of (s3 _ _ hb)), rfl, flat_ints _, ?_⟩
      simp only [if_true, inV_ints]
      exact ⟨_, rfl, q⟩
    have ef : (xs.map V.int).filter (fun x => match x with | .int z => !ys.contains z | _ => false) = (xs.filter fun z => !ys.contains z).map V.int := by
      rw [List.filter_map]
      rfl
    rw [ef]
    have kk := k _ (Same.upd_new (o := .lst ((xs.filter fun z => !ys.contains z).map V.int)) hD2)
    unfold RT.miss at kk
    cases ek : xs.filter (fun z => !ys.contains z) with
    | nil =>
      rw [ek] at kk
      try simp only [rv0,rvS,rC,rOp,rUn,rTest,rB,rBl,rI0i,rIi,rUi,rEqi,rNei,rEqb,rNeb,rNot,rAnd,rOr,rAndV,rOrV,rNotV,rIf,rSeq,rNext,rDrop,rRet,rRetN,rIfS,rAsg,rName,rNil,rCons,rCB,rBM,rCall,rTup,rLst,rSl,rNoPart,rPart,rInt,rChain,rComp,rIList,rITup,rIRng1,rK,rKn,rKc,rRaise,rIsN,rNotN,rBM0,rFld,rSFld,rMeth,rMake,rGSub,rIRngThree,rTryIf,rMCall,rMMeth,rTryR2,List.set_cons_zero,List.set_cons_succ,List.append_nil,capS,List.map_cons,List.map_nil,List.nil_append,List.cons_append,List.getD_cons_zero,List.getD_cons_succ]
      refine ⟨false, .inl ⟨_, SqL.of upd_same, rfl⟩, iteF ?_⟩
      exact kk
    | cons x r =>
      rw [ek] at kk
      try simp only [rv0,rvS,rC,rOp,rUn,rTest,rB,rBl,rI0i,rIi,rUi,rEqi,rNei,rEqb,rNeb,rNot,rAnd,rOr,rAndV,rOrV,rNotV,rIf,rSeq,rNext,rDrop,rRet,rRetN,rIfS,rAsg,rName,rNil,rCons,rCB,rBM,rCall,rTup,rLst,rSl,rNoPart,rPart,rInt,rChain,rComp,rIList,rITup,rIRng1,rK,rKn,rKc,rRaise,rIsN,rNotN,rBM0,rFld,rSFld,rMeth,rMake,rGSub,rIRngThree,rTryIf,rMCall,rMMeth,rTryR2,List.set_cons_zero,List.set_cons_succ,List.append_nil,capS,List.map_cons,List.map_nil,List.nil_append,List.cons_append,List.getD_cons_zero,List.getD_cons_succ]
      refine ⟨true, .inl ⟨_, SqL.of upd_same, rfl⟩, iteT ?_⟩
      try simp only [rv0,rvS,rC,rOp,rUn,rTest,rB,rBl,rI0i,rIi,rUi,rEqi,rNei,rEqb,rNeb,rNot,rAnd,rOr,rAndV,rOrV,rNotV,rIf,rSeq,rNext,rDrop,rRet,rRetN,rIfS,rAsg,rName,rNil,rCons,rCB,rBM,rCall,rTup,rLst,rSl,rNoPart,rPart,rInt,rChain,rComp,rIList,rITup,rIRng1,rK,rKn,rKc,rRaise,rIsN,rNotN,rBM0,rFld,rSFld,rMeth,rMake,rGSub,rIRngThree,rTryIf,rMCall,rMMeth,rTryR2,List.set_cons_zero,List.set_cons_succ,List.append_nil,capS,List.map_cons,List.map_nil,List.nil_append,List.cons_append,List.getD_cons_zero,List.getD_cons_succ]
      exact rd_list upd_same (atI_int (Int.le_refl 0) rfl) kk
end
end My
namespace My
open PySem L2
section
variable {P : Program} {w : World} {K : PySem.W.Frag} {mg : Str → Option Value} {base : Heap} {A : Ad}
noncomputable def sp_exchange : Sp := fun vs H Q _ => ∃ (a b : Addr) (xs ys : List Int), vs = [.ref a, .ref b] ∧ H a = some (.lst (xs.map V.int)) ∧ H b = some (.lst (ys.map V.int)) ∧ xs.length ≤ 1000 ∧ ys.length ≤ 1000 ∧ ∀ v H', Same H H' → Rep H' (exchD xs ys) v → Q v H'
theorem ok_exchange (T : Txt K mg A) : FnOk P w K mg base CX0 2 A.a_exchange A.d_exchange ["before", "after"] sp_exchange := by
  have G_only_in : FnOk P w K mg base CX0 _ _ _ _ _ := ok_only_in T
  refine T.f_exchange.ok sc_exchange (fun vs H Q E h => ?_) (fun cdv A' outer s H vs Q E hr h => ?_)
  · obtain ⟨a, b, xs, ys, rfl, _⟩ := h
    rfl
  · obtain ⟨a, b, xs, ys, rfl, ha, hb, hl, hm, k⟩ := h
    refine ⟨_, (pss_cons (ps_set (i := 2) sc_exchange.nd rfl (Or.inl rfl) (pe_call G_only_in (hr.mono (by decide)) rfl T.m_only_in T.k_only_in T.b_only_in .nil pass0 (pa_cons (pv 0) (pa_cons (pv 1) pa_nil))))
      (pss_one (ps_ret (pe_ifExp (pt_cmp (pc_isN (pv 2))) pe_non (pe_tup (pa_cons (pv 2) (pa_cons (pe_call G_only_in (hr.mono (by decide)) rfl T.m_only_in T.k_only_in T.b_only_in .nil pass0 (pa_cons (pv 1) (pa_cons (pv 0) pa_nil))) pa_nil))))))), ?_⟩
    rw [show start ["before", "after", "out"] [.ref a, .ref b] = [some (.ref a), some (.ref b), none] from rfl]
    try simp only [rv0,rvS,rC,rOp,rUn,rTest,rB,rBl,rI0i,rIi,rUi,rEqi,rNei,rEqb,rNeb,rNot,rAnd,rOr,rAndV,rOrV,rNotV,rIf,rSeq,rNext,rDrop,rRet,rRetN,rIfS,rAsg,rName,rNil,rCons,rCB,rBM,rCall,rTup,rLst,rSl,rNoPart,rPart,rInt,rChain,rComp,rIList,rITup,rIRng1,rK,rKn,rKc,rRaise,rIsN,rNotN,rBM0,rFld,rSFld,rMeth,rMake,rGSub,rIRngThree,rTryIf,rMCall,rMMeth,rTryR2,List.set_cons_zero,List.set_cons_succ,List.append_nil,capS,List.map_cons,List.map_nil,List.nil_append,List.cons_append,List.getD_cons_zero,List.getD_cons_succ]
    refine ⟨a, b, xs, ys, rfl, ha, hb, hl, fun H1 s1 => ?_⟩
    have kk := fun v H' s => k v H' s
    unfold exchD at kk
    try simp only [rv0,rvS,rC,rOp,rUn,rTest,rB,rBl,rI0i,rIi,rUi,rEqi,rNei,rEqb,rNeb,rNot,rAnd,rOr,rAndV,rOrV,rNotV,rIf,rSeq,rNext,rDrop,rRet,rRetN,rIfS,rAsg,rName,rNil,rCons,rCB,rBM,rCall,rTup,rLst,rSl,rNoPart,rPart,rInt,rChain,rComp,rIList,rITup,rIRng1,rK,rKn,rKc,rRaise,rIsN,rNotN,rBM0,rFld,rSFld,rMeth,rMake,rGSub,rIRngThree,rTryIf,rMCall,rMMeth,rTryR2,List.set_cons_zero,List.set_cons_succ,List.append_nil,capS,List.map_cons,List.map_nil,List.nil_append,List.cons_append,List.getD_cons_zero,List.getD_cons_succ]
    cases e : RT.miss xs ys with
    | none =>
      rw [e] at kk
      refine iteT ?_
      try simp only [rv0,rvS,rC,rOp,rUn,rTest,rB,rBl,rI0i,rIi,rUi,rEqi,rNei,rEqb,rNeb,rNot,rAnd,rOr,rAndV,rOrV,rNotV,rIf,rSeq,rNext,rDrop,rRet,rRetN,rIfS,rAsg,rName,rNil,rCons,rCB,rBM,rCall,rTup,rLst,rSl,rNoPart,rPart,rInt,rChain,rComp,rIList,rITup,rIRng1,rK,rKn,rKc,rRaise,rIsN,rNotN,rBM0,rFld,rSFld,rMeth,rMake,rGSub,rIRngThree,rTryIf,rMCall,rMMeth,rTryR2,List.set_cons_zero,List.set_cons_succ,List.append_nil,capS,List.map_cons,List.map_nil,List.nil_append,List.cons_append,List.getD_cons_zero,List.getD_cons_succ]
      exact kk _ _ s1 (rep_non.mpr rfl)
    | some g =>
      rw [e] at kk
      refine iteF ?_
      try simp only [rv0,rvS,rC,rOp,rUn,rTest,rB,rBl,rI0i,rIi,rUi,rEqi,rNei,rEqb,rNeb,rNot,rAnd,rOr,rAndV,rOrV,rNotV,rIf,rSeq,rNext,rDrop,rRet,rRetN,rIfS,rAsg,rName,rNil,rCons,rCB,rBM,rCall,rTup,rLst,rSl,rNoPart,rPart,rInt,rChain,rComp,rIList,rITup,rIRng1,rK,rKn,rKc,rRaise,rIsN,rNotN,rBM0,rFld,rSFld,rMeth,rMake,rGSub,rIRngThree,rTryIf,rMCall,rMMeth,rTryR2,List.set_cons_zero,List.set_cons_succ,List.append_nil,capS,List.map_cons,List.map_nil,List.nil_append,List.cons_append,List.getD_cons_zero,List.getD_cons_succ]
      refine ⟨b, a, ys, xs, rfl, s1 _ _ hb, s1 _ _ ha, hm, fun H2 s2 => ?_⟩
      refine ⟨show 2 ≤ sizeLine by decide, fun tp ntp => ?_⟩
      exact kk _ _ ((s1.trans s2).trans (Same.upd_new ntp)) (rep_tup.mpr ⟨tp, _, rfl, upd_same, reps_cc.mpr ⟨rep_int.mpr rfl, reps_cc.mpr ⟨rep_opt.mpr rfl, reps_nil.mpr rfl⟩⟩⟩)
end
end My
namespace My
open PySem L2
section
variable {P : Program} {w : World} {K : PySem.W.Frag} {mg : Str → Option Value} {base : Heap} {A : Ad}
noncomputable def sp_Net___init__ (C : Addr) : Sp := fun vs H Q _ => ∃ (np dx : Addr) (n : Nat), vs = [.ref np, .int n] ∧ H np = some (.ins C dx []) ∧ ∀ pr tp H', H pr = none → H tp = none → NetAt C H' np pr tp n [] → (∀ b o, H b = some o → b ≠ np → H' b = some o) → Q .non H'
theorem ok_Net___init__ (T : Txt K mg A) : FnOk P w K mg base CX0 1 A.a_Net___init__ A.d_Net___init__ ["self", "count"] (sp_Net___init__ A.a_Net) := by
  refine T.f_Net___init__.ok sc_Net___init__ (fun vs H Q E h => ?_) (fun cdv A' outer s H vs Q E hr h => ?_)
  · obtain ⟨np, dx, n, rfl, _⟩ := h
    rfl
  · obtain ⟨np, dx, n, rfl, hp, k⟩ := h
    refine ⟨_, (pss_cons (ps_fld (pv 0) (pv 1) rfl)
      (pss_cons (ps_fld (pv 0) (pe_lst pa_nil) rfl)
      (pss_one (ps_fld (pv 0) (pe_lst pa_nil) rfl)))), ?_⟩
    rw [show start ["self", "count"] [.ref np, .int n] = [some (.ref np), some (.int n)] from rfl]
    try simp only [rv0,rvS,rC,rOp,rUn,rTest,rB,rBl,rI0i,rIi,rUi,rEqi,rNei,rEqb,rNeb,rNot,rAnd,rOr,rAndV,rOrV,rNotV,rIf,rSeq,rNext,rDrop,rRet,rRetN,rIfS,rAsg,rName,rNil,rCons,rCB,rBM,rCall,rTup,rLst,rSl,rNoPart,rPart,rInt,rChain,rComp,rIList,rITup,rIRng1,rK,rKn,rKc,rRaise,rIsN,rNotN,rBM0,rFld,rSFld,rMeth,rMake,rGSub,rIRngThree,rTryIf,rMCall,rMMeth,rTryR2,List.set_cons_zero,List.set_cons_succ,List.append_nil,capS,List.map_cons,List.map_nil,List.nil_append,List.cons_append,List.getD_cons_zero,List.getD_cons_succ]
    refine ⟨np, A.a_Net, dx, [], rfl, hp, T.cl_Net, T.nf_place_count, by decide, ?_⟩
    try simp only [rv0,rvS,rC,rOp,rUn,rTest,rB,rBl,rI0i,rIi,rUi,rEqi,rNei,rEqb,rNeb,rNot,rAnd,rOr,rAndV,rOrV,rNotV,rIf,rSeq,rNext,rDrop,rRet,rRetN,rIfS,rAsg,rName,rNil,rCons,rCB,rBM,rCall,rTup,rLst,rSl,rNoPart,rPart,rInt,rChain,rComp,rIList,rITup,rIRng1,rK,rKn,rKc,rRaise,rIsN,rNotN,rBM0,rFld,rSFld,rMeth,rMake,rGSub,rIRngThree,rTryIf,rMCall,rMMeth,rTryR2,List.set_cons_zero,List.set_cons_succ,List.append_nil,capS,List.map_cons,List.map_nil,List.nil_append,List.cons_append,List.getD_cons_zero,List.getD_cons_succ]
    refine ⟨Nat.zero_le _, fun pr hpr => ?_⟩
    have h1 : upd H np (.ins A.a_Net dx (putF "place_count" (.int n) [])) np = some (.ins A.a_Net dx (putF "place_count" (.int n) [])) := upd_same
    have n1 : np ≠ pr := ne_of_none h1 hpr
    have hpr0 : H pr = none := by rwa [upd_ne n1.symm] at hpr
    refine ⟨np, A.a_Net, dx, _, rfl, (by rw [upd_ne n1]; exact h1), T.cl_Net, T.nf_ropes, by show 1 < 1000; decide, ?_⟩
    try simp only [rv0,rvS,rC,rOp,rUn,rTest,rB,rBl,rI0i,rIi,rUi,rEqi,rNei,rEqb,rNeb,rNot,rAnd,rOr,rAndV,rOrV,rNotV,rIf,rSeq,rNext,rDrop,rRet,rRetN,rIfS,rAsg,rName,rNil,rCons,rCB,rBM,rCall,rTup,rLst,rSl,rNoPart,rPart,rInt,rChain,rComp,rIList,rITup,rIRng1,rK,rKn,rKc,rRaise,rIsN,rNotN,rBM0,rFld,rSFld,rMeth,rMake,rGSub,rIRngThree,rTryIf,rMCall,rMMeth,rTryR2,List.set_cons_zero,List.set_cons_succ,List.append_nil,capS,List.map_cons,List.map_nil,List.nil_append,List.cons_append,List.getD_cons_zero,List.getD_cons_succ]
    refine ⟨Nat.zero_le _, fun tp htp => ?_⟩
    have n2 : np ≠ tp := ne_of_none upd_same htp
    have n3 : pr ≠ tp := ne_of_none (show _ = some (.lst []) by rw [upd_ne n1.symm, upd_same]) htp
    have htp0 : H tp = none := by rwa [upd_ne n2.symm, upd_ne n3.symm, upd_ne n2.symm] at htp
    refine ⟨np, A.a_Net, dx, _, rfl, (by rw [upd_ne n2, upd_same]), T.cl_Net, T.nf_tree, by have := length_putF "ropes" (.ref pr) (putF "place_count" (V.int n) []); have := length_putF "place_count" (V.int n) []; simp only [List.length_nil] at this; omega, ?_⟩
    have e0 := RT.lt_eq (RT.least_none (n := n))
    refine k pr tp _ hpr0 htp0 ⟨⟨dx, upd_same⟩, ⟨[], by rw [upd_ne n1.symm, upd_ne n3, upd_ne n1.symm, upd_same], reps_nil.mpr rfl⟩, by rw [upd_ne n2.symm, upd_same, e0]; rfl, n3.symm, fun r m => by simp at m, by rw [e0]; exact RT.least_none⟩ fun b o e nb => ?_
    rw [upd_ne nb, upd_ne (ne_of_none e htp0), upd_ne nb, upd_ne (ne_of_none e hpr0), upd_ne nb]
    exact e
end
end My
namespace My
open PySem L2
section
variable {P : Program} {w : World} {K : PySem.W.Frag} {mg : Str → Option Value} {base : Heap} {A : Ad}
noncomputable def sp_Net_cost (C : Addr) : Sp := fun vs H Q _ => ∃ (np pr tp : Addr) (n : Nat) (rs : List RT.Rope), vs = [.ref np] ∧ NetAt C H np pr tp n rs ∧ rs.length ≤ 100 ∧ ∀ H', Same H H' → Q (.int (RT.sumC rs (RT.lt n rs))) H'
theorem ok_Net_cost (T : Txt K mg A) : FnOk P w K mg base CX0 2 A.a_Net_cost A.d_Net_cost ["self"] (sp_Net_cost A.a_Net) := by
  have G_cost_of : FnOk P w K mg base CX0 _ _ _ _ _ := ok_cost_of T
  refine T.f_Net_cost.ok sc_Net_cost (fun vs H Q E h => ?_) (fun cdv A' outer s H vs Q E hr h => ?_)
  · obtain ⟨np, pr, tp, n, rs, rfl, _⟩ := h
    rfl
  · obtain ⟨np, pr, tp, n, rs, rfl, N, hl, k⟩ := h
    obtain ⟨dx, h1⟩ := N.ob
    have ll := N.len
    refine ⟨_, (pss_one (ps_ret (pe_call G_cost_of (hr.mono (by decide)) rfl T.m_cost_of T.k_cost_of T.b_cost_of .nil pass0 (pa_cons (pe_fld (pv 0) rfl) (pa_cons (pe_fld (pv 0) rfl) pa_nil))))), ?_⟩
    rw [show start ["self"] [.ref np] = [some (.ref np)] from rfl]
    try simp only [rv0,rvS,rC,rOp,rUn,rTest,rB,rBl,rI0i,rIi,rUi,rEqi,rNei,rEqb,rNeb,rNot,rAnd,rOr,rAndV,rOrV,rNotV,rIf,rSeq,rNext,rDrop,rRet,rRetN,rIfS,rAsg,rName,rNil,rCons,rCB,rBM,rCall,rTup,rLst,rSl,rNoPart,rPart,rInt,rChain,rComp,rIList,rITup,rIRng1,rK,rKn,rKc,rRaise,rIsN,rNotN,rBM0,rFld,rSFld,rMeth,rMake,rGSub,rIRngThree,rTryIf,rMCall,rMMeth,rTryR2,List.set_cons_zero,List.set_cons_succ,List.append_nil,capS,List.map_cons,List.map_nil,List.nil_append,List.cons_append,List.getD_cons_zero,List.getD_cons_succ]
    refine ⟨np, A.a_Net, dx, _, _, rfl, h1, T.cl_Net, T.nf_ropes, flds_r _ _ _, ?_⟩
    try simp only [rv0,rvS,rC,rOp,rUn,rTest,rB,rBl,rI0i,rIi,rUi,rEqi,rNei,rEqb,rNeb,rNot,rAnd,rOr,rAndV,rOrV,rNotV,rIf,rSeq,rNext,rDrop,rRet,rRetN,rIfS,rAsg,rName,rNil,rCons,rCB,rBM,rCall,rTup,rLst,rSl,rNoPart,rPart,rInt,rChain,rComp,rIList,rITup,rIRng1,rK,rKn,rKc,rRaise,rIsN,rNotN,rBM0,rFld,rSFld,rMeth,rMake,rGSub,rIRngThree,rTryIf,rMCall,rMMeth,rTryR2,List.set_cons_zero,List.set_cons_succ,List.append_nil,capS,List.map_cons,List.map_nil,List.nil_append,List.cons_append,List.getD_cons_zero,List.getD_cons_succ]
    refine ⟨np, A.a_Net, dx, _, _, rfl, h1, T.cl_Net, T.nf_tree, flds_t _ _ _, ?_⟩
    try simp only [rv0,rvS,rC,rOp,rUn,rTest,rB,rBl,rI0i,rIi,rUi,rEqi,rNei,rEqb,rNeb,rNot,rAnd,rOr,rAndV,rOrV,rNotV,rIf,rSeq,rNext,rDrop,rRet,rRetN,rIfS,rAsg,rName,rNil,rCons,rCB,rBM,rCall,rTup,rLst,rSl,rNoPart,rPart,rInt,rChain,rComp,rIList,rITup,rIRng1,rK,rKn,rKc,rRaise,rIsN,rNotN,rBM0,rFld,rSFld,rMeth,rMake,rGSub,rIRngThree,rTryIf,rMCall,rMMeth,rTryR2,List.set_cons_zero,List.set_cons_succ,List.append_nil,capS,List.map_cons,List.map_nil,List.nil_append,List.cons_append,List.getD_cons_zero,List.getD_cons_succ]
    exact ⟨pr, tp, rs, RT.lt n rs, rfl, N.rep, N.tr, N.okn, by omega, k⟩
end
end My
namespace My
open PySem L2
section
variable {P : Program} {w : World} {K : PySem.W.Frag} {mg : Str → Option Value} {base : Heap} {A : Ad}
noncomputable def sp_Net_look (C : Addr) : Sp := fun vs H Q _ => ∃ (np pr tp : Addr) (n : Nat) (rs : List RT.Rope), vs = [.ref np] ∧ NetAt C H np pr tp n rs ∧ ∀ D H', Same H H' → H D = none → H' D = some (.lst ((RT.lt n rs).map V.int)) → Q (.ref D) H'
theorem ok_Net_look (T : Txt K mg A) : FnOk P w K mg base CX0 1 A.a_Net_look A.d_Net_look ["self"] (sp_Net_look A.a_Net) := by
  refine T.f_Net_look.ok sc_Net_look (fun vs H Q E h => ?_) (fun cdv A' outer s H vs Q E hr h => ?_)
  · obtain ⟨np, pr, tp, n, rs, rfl, _⟩ := h
    rfl
  · obtain ⟨np, pr, tp, n, rs, rfl, N, k⟩ := h
    obtain ⟨dx, h1⟩ := N.ob
    refine ⟨_, (pss_one (ps_ret (pe_callTy call_list_of rfl T.z_list bo_list (pa_cons (pe_fld (pv 0) rfl) pa_nil)))), ?_⟩
    rw [show start ["self"] [.ref np] = [some (.ref np)] from rfl]
    try simp only [rv0,rvS,rC,rOp,rUn,rTest,rB,rBl,rI0i,rIi,rUi,rEqi,rNei,rEqb,rNeb,rNot,rAnd,rOr,rAndV,rOrV,rNotV,rIf,rSeq,rNext,rDrop,rRet,rRetN,rIfS,rAsg,rName,rNil,rCons,rCB,rBM,rCall,rTup,rLst,rSl,rNoPart,rPart,rInt,rChain,rComp,rIList,rITup,rIRng1,rK,rKn,rKc,rRaise,rIsN,rNotN,rBM0,rFld,rSFld,rMeth,rMake,rGSub,rIRngThree,rTryIf,rMCall,rMMeth,rTryR2,List.set_cons_zero,List.set_cons_succ,List.append_nil,capS,List.map_cons,List.map_nil,List.nil_append,List.cons_append,List.getD_cons_zero,List.getD_cons_succ]
    refine ⟨np, A.a_Net, dx, _, _, rfl, h1, T.cl_Net, T.nf_tree, flds_t _ _ _, ?_⟩
    try simp only [rv0,rvS,rC,rOp,rUn,rTest,rB,rBl,rI0i,rIi,rUi,rEqi,rNei,rEqb,rNeb,rNot,rAnd,rOr,rAndV,rOrV,rNotV,rIf,rSeq,rNext,rDrop,rRet,rRetN,rIfS,rAsg,rName,rNil,rCons,rCB,rBM,rCall,rTup,rLst,rSl,rNoPart,rPart,rInt,rChain,rComp,rIList,rITup,rIRng1,rK,rKn,rKc,rRaise,rIsN,rNotN,rBM0,rFld,rSFld,rMeth,rMake,rGSub,rIRngThree,rTryIf,rMCall,rMMeth,rTryR2,List.set_cons_zero,List.set_cons_succ,List.append_nil,capS,List.map_cons,List.map_nil,List.nil_append,List.cons_append,List.getD_cons_zero,List.getD_cons_succ]
    exact ⟨tp, _, rfl, .inl (SqL.of N.tr), fun D nD => k D _ (Same.upd_new nD) nD upd_same⟩
end
end My
namespace My
open PySem L2
section
variable {P : Program} {w : World} {K : PySem.W.Frag} {mg : Str → Option Value} {base : Heap} {A : Ad}
noncomputable def sp_Net_renew (C T : Addr) : Sp := fun vs H Q _ => ∃ (np pr tp dx : Addr) (n : Nat) (rs : List RT.Rope), vs = [.ref np] ∧ H np = some (.ins C dx (flds n pr tp)) ∧ Rep H (ropesD rs) (.ref pr) ∧ RT.Okr n rs ∧ n ≤ 1000 ∧ rs.length < 64 ∧ H T = some (.ctab q_from_cheapest) ∧
  ∀ tq H', H tq = none → NetAt C H' np pr tq n rs → (∀ b o, H b = some o → b ≠ np → H' b = some o) → Q (.ref tp) H'
theorem ok_Net_renew (T : Txt K mg A) (B : Bm mg base) : FnOk P w K mg base CX0 4 A.a_Net_renew A.d_Net_renew ["self"] (sp_Net_renew A.a_Net A.p_from_cheapest) := by
  have G_least_tree : FnOk P w K mg base CX0 _ _ _ _ _ := ok_least_tree T B
  refine T.f_Net_renew.ok sc_Net_renew (fun vs H Q E h => ?_) (fun cdv A' outer s H vs Q E hr h => ?_)
  · obtain ⟨np, pr, tp, dx, n, rs, rfl, _⟩ := h
    rfl
  · obtain ⟨np, pr, tp, dx, n, rs, rfl, h1, hrep, hv, hn, hl, hT, k⟩ := h
    obtain ⟨pr', xr, e, hpr, hxr⟩ := rep_lst.mp hrep
    cases e
    refine ⟨_, (pss_cons (ps_set (i := 1) sc_Net_renew.nd rfl (Or.inl rfl) (pe_fld (pv 0) rfl))
      (pss_cons (ps_fld (pv 0) (pe_call G_least_tree (hr.mono (by decide)) rfl T.m_least_tree T.k_least_tree T.b_least_tree .nil pass0 (pa_cons (pe_fld (pv 0) rfl) (pa_cons (pe_fld (pv 0) rfl) pa_nil))) rfl)
      (pss_one (ps_ret (pv 1))))), ?_⟩
    rw [show start ["self", "before"] [.ref np] = [some (.ref np), none] from rfl]
    try simp only [rv0,rvS,rC,rOp,rUn,rTest,rB,rBl,rI0i,rIi,rUi,rEqi,rNei,rEqb,rNeb,rNot,rAnd,rOr,rAndV,rOrV,rNotV,rIf,rSeq,rNext,rDrop,rRet,rRetN,rIfS,rAsg,rName,rNil,rCons,rCB,rBM,rCall,rTup,rLst,rSl,rNoPart,rPart,rInt,rChain,rComp,rIList,rITup,rIRng1,rK,rKn,rKc,rRaise,rIsN,rNotN,rBM0,rFld,rSFld,rMeth,rMake,rGSub,rIRngThree,rTryIf,rMCall,rMMeth,rTryR2,List.set_cons_zero,List.set_cons_succ,List.append_nil,capS,List.map_cons,List.map_nil,List.nil_append,List.cons_append,List.getD_cons_zero,List.getD_cons_succ]
    refine ⟨np, A.a_Net, dx, _, _, rfl, h1, T.cl_Net, T.nf_tree, flds_t _ _ _, ?_⟩
    try simp only [rv0,rvS,rC,rOp,rUn,rTest,rB,rBl,rI0i,rIi,rUi,rEqi,rNei,rEqb,rNeb,rNot,rAnd,rOr,rAndV,rOrV,rNotV,rIf,rSeq,rNext,rDrop,rRet,rRetN,rIfS,rAsg,rName,rNil,rCons,rCB,rBM,rCall,rTup,rLst,rSl,rNoPart,rPart,rInt,rChain,rComp,rIList,rITup,rIRng1,rK,rKn,rKc,rRaise,rIsN,rNotN,rBM0,rFld,rSFld,rMeth,rMake,rGSub,rIRngThree,rTryIf,rMCall,rMMeth,rTryR2,List.set_cons_zero,List.set_cons_succ,List.append_nil,capS,List.map_cons,List.map_nil,List.nil_append,List.cons_append,List.getD_cons_zero,List.getD_cons_succ]
    refine ⟨np, A.a_Net, dx, _, _, rfl, h1, T.cl_Net, T.nf_place_count, flds_n _ _ _, ?_⟩
    try simp only [rv0,rvS,rC,rOp,rUn,rTest,rB,rBl,rI0i,rIi,rUi,rEqi,rNei,rEqb,rNeb,rNot,rAnd,rOr,rAndV,rOrV,rNotV,rIf,rSeq,rNext,rDrop,rRet,rRetN,rIfS,rAsg,rName,rNil,rCons,rCB,rBM,rCall,rTup,rLst,rSl,rNoPart,rPart,rInt,rChain,rComp,rIList,rITup,rIRng1,rK,rKn,rKc,rRaise,rIsN,rNotN,rBM0,rFld,rSFld,rMeth,rMake,rGSub,rIRngThree,rTryIf,rMCall,rMMeth,rTryR2,List.set_cons_zero,List.set_cons_succ,List.append_nil,capS,List.map_cons,List.map_nil,List.nil_append,List.cons_append,List.getD_cons_zero,List.getD_cons_succ]
    refine ⟨np, A.a_Net, dx, _, _, rfl, h1, T.cl_Net, T.nf_ropes, flds_r _ _ _, ?_⟩
    try simp only [rv0,rvS,rC,rOp,rUn,rTest,rB,rBl,rI0i,rIi,rUi,rEqi,rNei,rEqb,rNeb,rNot,rAnd,rOr,rAndV,rOrV,rNotV,rIf,rSeq,rNext,rDrop,rRet,rRetN,rIfS,rAsg,rName,rNil,rCons,rCB,rBM,rCall,rTup,rLst,rSl,rNoPart,rPart,rInt,rChain,rComp,rIList,rITup,rIRng1,rK,rKn,rKc,rRaise,rIsN,rNotN,rBM0,rFld,rSFld,rMeth,rMake,rGSub,rIRngThree,rTryIf,rMCall,rMMeth,rTryR2,List.set_cons_zero,List.set_cons_succ,List.append_nil,capS,List.map_cons,List.map_nil,List.nil_append,List.cons_append,List.getD_cons_zero,List.getD_cons_succ]
    refine ⟨n, pr, rs, rfl, hrep, hv, hn, hl, hT, fun D H1 ns s1 nD L eD => ?_⟩
    try simp only [rv0,rvS,rC,rOp,rUn,rTest,rB,rBl,rI0i,rIi,rUi,rEqi,rNei,rEqb,rNeb,rNot,rAnd,rOr,rAndV,rOrV,rNotV,rIf,rSeq,rNext,rDrop,rRet,rRetN,rIfS,rAsg,rName,rNil,rCons,rCB,rBM,rCall,rTup,rLst,rSl,rNoPart,rPart,rInt,rChain,rComp,rIList,rITup,rIRng1,rK,rKn,rKc,rRaise,rIsN,rNotN,rBM0,rFld,rSFld,rMeth,rMake,rGSub,rIRngThree,rTryIf,rMCall,rMMeth,rTryR2,List.set_cons_zero,List.set_cons_succ,List.append_nil,capS,List.map_cons,List.map_nil,List.nil_append,List.cons_append,List.getD_cons_zero,List.getD_cons_succ]
    refine ⟨np, A.a_Net, dx, _, rfl, s1 _ _ h1, T.cl_Net, T.nf_tree, flds_len _ _ _, ?_⟩
    rw [flds_put]
    have nDp : D ≠ np := (ne_of_none h1 nD).symm
    have nDr : D ≠ pr := (ne_of_none hpr nD).symm
    have npr : pr ≠ np := ne_of hpr h1 (by intro z; cases z)
    have kp : ∀ b o, H b = some o → b ≠ np → upd H1 np (.ins A.a_Net dx (flds n pr D)) b = some o := fun b o e nb => by rw [upd_ne nb]; exact s1 _ _ e
    have e0 := RT.lt_eq L
    refine k D _ nD ⟨⟨dx, upd_same⟩, ⟨xr, kp _ _ hpr npr, ?_⟩, by rw [upd_ne nDp, e0]; exact eD, nDr, hv, by rw [e0]; exact L⟩ kp
    exact ropes_keep (a := np) (b := np) (fun b o e n1 _ => kp b o e n1) (.ins h1) (.ins h1) hxr
end
end My
namespace My
open PySem L2
section
variable {P : Program} {w : World} {K : PySem.W.Frag} {mg : Str → Option Value} {base : Heap} {A : Ad}
noncomputable def sp_Net_lay (C T X : Addr) : Sp := fun vs H Q E => ∃ (np pr tp : Addr) (n : Nat) (rs : List RT.Rope) (x y c : Int), vs = [.ref np, .int x, .int y, .int c] ∧ NetAt C H np pr tp n rs ∧ n ≤ 1000 ∧ rs.length < 60 ∧ H T = some (.ctab q_from_cheapest) ∧
  (okD n rs (.lay x y c) = false → ∀ H', Same H H' → E (.ref X) none H') ∧
  (okD n rs (.lay x y c) = true → ∀ v tq H', H tq = none → NetAt C H' np pr tq n (rs ++ [(x, y, c)]) → Kept np pr H H' → Rep H' (ansD n rs (.lay x y c)) v → Q v H')
theorem ok_Net_lay (T : Txt K mg A) (B : Bm mg base) : FnOk P w K mg base (CX1 P w) 5 A.a_Net_lay A.d_Net_lay ["self", "one", "other", "cost"] (sp_Net_lay A.a_Net A.p_from_cheapest A.a_NoPlace) := by
  have B_check_places : FnOk P w K mg base (CX1 P w) _ _ _ _ _ := (ok_check_places T).up.or (bad_check_places T)
  have G_Net_renew : FnOk P w K mg base CX0 _ _ _ _ _ := ok_Net_renew T B
  have G_Net_cost : FnOk P w K mg base CX0 _ _ _ _ _ := ok_Net_cost T
  have G_only_in : FnOk P w K mg base CX0 _ _ _ _ _ := ok_only_in T
  refine T.f_Net_lay.okX sc_Net_lay (fun vs H Q E h => ?_) (fun cdv A' outer s H vs Q E hr h => ?_)
  · obtain ⟨np, pr, tp, n, rs, x, y, c, rfl, _⟩ := h
    rfl
  · obtain ⟨np, pr, tp, n, rs, x, y, c, rfl, N, hn, hl, hT, k1, k2⟩ := h
    obtain ⟨dx, h1⟩ := N.ob
    obtain ⟨xr, hpr, hxr⟩ := N.ro
    have big := big1000
    have lxr : xr.length = rs.length := by have := hxr.length; rw [List.length_map] at this; exact this.symm
    refine ⟨_, (pss_cons (ps_expr (pe_call B_check_places (hr.mono (by decide)) rfl T.m_check_places T.k_check_places T.b_check_places .nil (pass1 fun _ _ _ z => z) (pa_cons (pe_fld (pv 0) rfl) (pa_cons (pe_lst (pa_cons (pv 1) (pa_cons (pv 2) pa_nil))) pa_nil))))
      (pss_cons (ps_expr (pe_bm PySem.F.plainAttrs_list PySem.F.slot_list_append PySem.F.type_list_append mt_append (pe_fld (pv 0) rfl) (pa_cons (pe_tup (pa_cons (pv 1) (pa_cons (pv 2) (pa_cons (pv 3) pa_nil)))) pa_nil)))
      (pss_cons (ps_set (i := 4) sc_Net_lay.nd rfl (Or.inl rfl) (pe_meth0 (pv 0) T.cl_Net T.mt_Net_renew G_Net_renew (hr.mono (by decide)) T.b_Net_renew .nil pass0 ))
      (pss_one (ps_ret (pe_tup (pa_cons (pe_op op_sub (pe_callB call_len_seq rfl T.z_len bo_len (pa_cons (pe_fld (pv 0) rfl) pa_nil)) pe_int) (pa_cons (pe_call G_only_in (hr.mono (by decide)) rfl T.m_only_in T.k_only_in T.b_only_in .nil pass0 (pa_cons (pv 4) (pa_cons (pe_fld (pv 0) rfl) pa_nil))) (pa_cons (pe_meth0 (pv 0) T.cl_Net T.mt_Net_cost G_Net_cost (hr.mono (by decide)) T.b_Net_cost .nil pass0 ) pa_nil))))))))), ?_⟩
    rw [show start ["self", "one", "other", "cost", "before"] [.ref np, .int x, .int y, .int c] = [some (.ref np), some (.int x), some (.int y), some (.int c), none] from rfl]
    try simp only [rv0,rvS,rC,rOp,rUn,rTest,rB,rBl,rI0i,rIi,rUi,rEqi,rNei,rEqb,rNeb,rNot,rAnd,rOr,rAndV,rOrV,rNotV,rIf,rSeq,rNext,rDrop,rRet,rRetN,rIfS,rAsg,rName,rNil,rCons,rCB,rBM,rCall,rTup,rLst,rSl,rNoPart,rPart,rInt,rChain,rComp,rIList,rITup,rIRng1,rK,rKn,rKc,rRaise,rIsN,rNotN,rBM0,rFld,rSFld,rMeth,rMake,rGSub,rIRngThree,rTryIf,rMCall,rMMeth,rTryR2,List.set_cons_zero,List.set_cons_succ,List.append_nil,capS,List.map_cons,List.map_nil,List.nil_append,List.cons_append,List.getD_cons_zero,List.getD_cons_succ]
    refine ⟨np, A.a_Net, dx, _, _, rfl, h1, T.cl_Net, T.nf_place_count, flds_n _ _ _, ?_⟩
    try simp only [rv0,rvS,rC,rOp,rUn,rTest,rB,rBl,rI0i,rIi,rUi,rEqi,rNei,rEqb,rNeb,rNot,rAnd,rOr,rAndV,rOrV,rNotV,rIf,rSeq,rNext,rDrop,rRet,rRetN,rIfS,rAsg,rName,rNil,rCons,rCB,rBM,rCall,rTup,rLst,rSl,rNoPart,rPart,rInt,rChain,rComp,rIList,rITup,rIRng1,rK,rKn,rKc,rRaise,rIsN,rNotN,rBM0,rFld,rSFld,rMeth,rMake,rGSub,rIRngThree,rTryIf,rMCall,rMMeth,rTryR2,List.set_cons_zero,List.set_cons_succ,List.append_nil,capS,List.map_cons,List.map_nil,List.nil_append,List.cons_append,List.getD_cons_zero,List.getD_cons_succ]
    refine ⟨show 2 ≤ sizeLine by decide, fun lp hlp => ?_⟩
    have s0 : Same H (upd H lp (.lst [.int x, .int y])) := Same.upd_new hlp
    have g0 : upd H lp (.lst [.int x, .int y]) lp = some (.lst ([x, y].map V.int)) := upd_same
    generalize upd H lp (.lst [.int x, .int y]) = H0 at s0 g0 ⊢
    cases ok : okD n rs (.lay x y c) with
    | false =>
      have hno : ¬ ((0 ≤ x ∧ x < (n : Int)) ∧ (0 ≤ y ∧ y < (n : Int))) := of_decide_eq_false ok
      exact .inr ⟨n, lp, [x, y], rfl, g0, fun z => hno ⟨z x (by simp), z y (by simp)⟩, k1 ok _ s0⟩
    | true =>
      have hp : (0 ≤ x ∧ x < (n : Int)) ∧ (0 ≤ y ∧ y < (n : Int)) := of_decide_eq_true ok
      refine .inl ⟨n, lp, [x, y], rfl, g0, fun z mz => ?_, ?_⟩
      · rcases List.mem_cons.mp mz with rfl | mz
        · exact hp.1
        · rw [List.mem_singleton.mp mz]; exact hp.2
      have h10 := s0 _ _ h1
      have hpr0 := s0 _ _ hpr
      try simp only [rv0,rvS,rC,rOp,rUn,rTest,rB,rBl,rI0i,rIi,rUi,rEqi,rNei,rEqb,rNeb,rNot,rAnd,rOr,rAndV,rOrV,rNotV,rIf,rSeq,rNext,rDrop,rRet,rRetN,rIfS,rAsg,rName,rNil,rCons,rCB,rBM,rCall,rTup,rLst,rSl,rNoPart,rPart,rInt,rChain,rComp,rIList,rITup,rIRng1,rK,rKn,rKc,rRaise,rIsN,rNotN,rBM0,rFld,rSFld,rMeth,rMake,rGSub,rIRngThree,rTryIf,rMCall,rMMeth,rTryR2,List.set_cons_zero,List.set_cons_succ,List.append_nil,capS,List.map_cons,List.map_nil,List.nil_append,List.cons_append,List.getD_cons_zero,List.getD_cons_succ]
      refine ⟨np, A.a_Net, dx, _, _, rfl, h10, T.cl_Net, T.nf_ropes, flds_r _ _ _, ?_⟩
      try simp only [rv0,rvS,rC,rOp,rUn,rTest,rB,rBl,rI0i,rIi,rUi,rEqi,rNei,rEqb,rNeb,rNot,rAnd,rOr,rAndV,rOrV,rNotV,rIf,rSeq,rNext,rDrop,rRet,rRetN,rIfS,rAsg,rName,rNil,rCons,rCB,rBM,rCall,rTup,rLst,rSl,rNoPart,rPart,rInt,rChain,rComp,rIList,rITup,rIRng1,rK,rKn,rKc,rRaise,rIsN,rNotN,rBM0,rFld,rSFld,rMeth,rMake,rGSub,rIRngThree,rTryIf,rMCall,rMMeth,rTryR2,List.set_cons_zero,List.set_cons_succ,List.append_nil,capS,List.map_cons,List.map_nil,List.nil_append,List.cons_append,List.getD_cons_zero,List.getD_cons_succ]
      refine ⟨.inl ⟨rfl, _, SqL.of hpr0⟩, show 3 ≤ sizeLine by decide, fun q nq => ?_⟩
      have s1 : Same H0 (upd H0 q (.tup [.int x, .int y, .int c])) := Same.upd_new nq
      have g1 : upd H0 q (.tup [.int x, .int y, .int c]) q = some (.tup [.int x, .int y, .int c]) := upd_same
      generalize upd H0 q (.tup [.int x, .int y, .int c]) = H1 at s1 g1 ⊢
      have t1 := s0.trans s1
      have hpr1 := t1 _ _ hpr
      refine ⟨pr, xr, _, rfl, rfl, hpr1, by omega, ?_⟩
      have npr : np ≠ pr := ne_of h1 hpr (by intro z; cases z)
      have kp2 : ∀ b o, H1 b = some o → b ≠ pr → upd H1 pr (.lst (xr ++ [.ref q])) b = some o := fun b o e nb => by rw [upd_ne nb]; exact e
      have hpr2 : upd H1 pr (.lst (xr ++ [.ref q])) pr = some (.lst (xr ++ [.ref q])) := upd_same
      have hrep2 : Reps (upd H1 pr (.lst (xr ++ [.ref q]))) ((rs ++ [(x, y, c)]).map ropeD) (xr ++ [.ref q]) := by
        rw [List.map_append]
        refine (ropes_upd hpr1 (hxr.mono t1)).append (reps_cc.mpr ⟨rep_rope.mpr ⟨q, rfl, kp2 _ _ g1 (ne_of g1 hpr1 (by intro z; cases z))⟩, reps_nil.mpr rfl⟩)
      generalize upd H1 pr (.lst (xr ++ [.ref q])) = H2 at kp2 hpr2 hrep2 ⊢
      have k02 : ∀ b o, H b = some o → b ≠ pr → H2 b = some o := fun b o e nb => kp2 b o (t1 _ _ e) nb
      have hok : RT.Okr n (rs ++ [(x, y, c)]) := okr_aft (d := .lay x y c) N.ok ok
      try simp only [rv0,rvS,rC,rOp,rUn,rTest,rB,rBl,rI0i,rIi,rUi,rEqi,rNei,rEqb,rNeb,rNot,rAnd,rOr,rAndV,rOrV,rNotV,rIf,rSeq,rNext,rDrop,rRet,rRetN,rIfS,rAsg,rName,rNil,rCons,rCB,rBM,rCall,rTup,rLst,rSl,rNoPart,rPart,rInt,rChain,rComp,rIList,rITup,rIRng1,rK,rKn,rKc,rRaise,rIsN,rNotN,rBM0,rFld,rSFld,rMeth,rMake,rGSub,rIRngThree,rTryIf,rMCall,rMMeth,rTryR2,List.set_cons_zero,List.set_cons_succ,List.append_nil,capS,List.map_cons,List.map_nil,List.nil_append,List.cons_append,List.getD_cons_zero,List.getD_cons_succ]
      refine ⟨np, dx, _, rfl, k02 _ _ h1 npr, flds_no _ _ _ (by decide +kernel) (by decide +kernel) (by decide +kernel), ?_⟩
      refine ⟨np, pr, tp, dx, n, rs ++ [(x, y, c)], rfl, k02 _ _ h1 npr, rep_lst.mpr ⟨pr, _, rfl, hpr2, hrep2⟩, hok, hn, by simp; omega, k02 _ _ hT (ne_of hT hpr (by intro z; cases z)), fun tq H3 ntq N3 kp3 => ?_⟩
      have ntq0 : H tq = none := by
        cases e : H tq with
        | none => rfl
        | some o =>
          by_cases z : tq = pr
          · subst z; rw [hpr2] at ntq; cases ntq
          · rw [k02 _ _ e z] at ntq; cases ntq
      have k03 : Kept np pr H H3 := fun b o e n1 n2 => kp3 b o (k02 b o e n2) n1
      have tp3 := k03 _ _ N.tr (ne_of N.tr h1 (by intro z; cases z)) N.ne
      obtain ⟨dx3, h13⟩ := N3.ob
      obtain ⟨xr3, hpr3, hxr3⟩ := N3.ro
      have lxr3 : xr3.length = (rs ++ [(x, y, c)]).length := by have := hxr3.length; rw [List.length_map] at this; exact this.symm
      try simp only [rv0,rvS,rC,rOp,rUn,rTest,rB,rBl,rI0i,rIi,rUi,rEqi,rNei,rEqb,rNeb,rNot,rAnd,rOr,rAndV,rOrV,rNotV,rIf,rSeq,rNext,rDrop,rRet,rRetN,rIfS,rAsg,rName,rNil,rCons,rCB,rBM,rCall,rTup,rLst,rSl,rNoPart,rPart,rInt,rChain,rComp,rIList,rITup,rIRng1,rK,rKn,rKc,rRaise,rIsN,rNotN,rBM0,rFld,rSFld,rMeth,rMake,rGSub,rIRngThree,rTryIf,rMCall,rMMeth,rTryR2,List.set_cons_zero,List.set_cons_succ,List.append_nil,capS,List.map_cons,List.map_nil,List.nil_append,List.cons_append,List.getD_cons_zero,List.getD_cons_succ]
      refine ⟨np, A.a_Net, dx3, _, _, rfl, h13, T.cl_Net, T.nf_ropes, flds_r _ _ _, ?_⟩
      try simp only [rv0,rvS,rC,rOp,rUn,rTest,rB,rBl,rI0i,rIi,rUi,rEqi,rNei,rEqb,rNeb,rNot,rAnd,rOr,rAndV,rOrV,rNotV,rIf,rSeq,rNext,rDrop,rRet,rRetN,rIfS,rAsg,rName,rNil,rCons,rCB,rBM,rCall,rTup,rLst,rSl,rNoPart,rPart,rInt,rChain,rComp,rIList,rITup,rIRng1,rK,rKn,rKc,rRaise,rIsN,rNotN,rBM0,rFld,rSFld,rMeth,rMake,rGSub,rIRngThree,rTryIf,rMCall,rMMeth,rTryR2,List.set_cons_zero,List.set_cons_succ,List.append_nil,capS,List.map_cons,List.map_nil,List.nil_append,List.cons_append,List.getD_cons_zero,List.getD_cons_succ]
      refine ⟨pr, _, rfl, .inl (SqL.of hpr3), ?_⟩
      try simp only [rv0,rvS,rC,rOp,rUn,rTest,rB,rBl,rI0i,rIi,rUi,rEqi,rNei,rEqb,rNeb,rNot,rAnd,rOr,rAndV,rOrV,rNotV,rIf,rSeq,rNext,rDrop,rRet,rRetN,rIfS,rAsg,rName,rNil,rCons,rCB,rBM,rCall,rTup,rLst,rSl,rNoPart,rPart,rInt,rChain,rComp,rIList,rITup,rIRng1,rK,rKn,rKc,rRaise,rIsN,rNotN,rBM0,rFld,rSFld,rMeth,rMake,rGSub,rIRngThree,rTryIf,rMCall,rMMeth,rTryR2,List.set_cons_zero,List.set_cons_succ,List.append_nil,capS,List.map_cons,List.map_nil,List.nil_append,List.cons_append,List.getD_cons_zero,List.getD_cons_succ]
      refine ⟨np, A.a_Net, dx3, _, _, rfl, h13, T.cl_Net, T.nf_tree, flds_t _ _ _, ?_⟩
      try simp only [rv0,rvS,rC,rOp,rUn,rTest,rB,rBl,rI0i,rIi,rUi,rEqi,rNei,rEqb,rNeb,rNot,rAnd,rOr,rAndV,rOrV,rNotV,rIf,rSeq,rNext,rDrop,rRet,rRetN,rIfS,rAsg,rName,rNil,rCons,rCB,rBM,rCall,rTup,rLst,rSl,rNoPart,rPart,rInt,rChain,rComp,rIList,rITup,rIRng1,rK,rKn,rKc,rRaise,rIsN,rNotN,rBM0,rFld,rSFld,rMeth,rMake,rGSub,rIRngThree,rTryIf,rMCall,rMMeth,rTryR2,List.set_cons_zero,List.set_cons_succ,List.append_nil,capS,List.map_cons,List.map_nil,List.nil_append,List.cons_append,List.getD_cons_zero,List.getD_cons_succ]
      refine ⟨tp, tq, RT.lt n rs, RT.lt n (rs ++ [(x, y, c)]), rfl, tp3, N3.tr, by have := N.len; omega, fun H4 s4 => ?_⟩
      try simp only [rv0,rvS,rC,rOp,rUn,rTest,rB,rBl,rI0i,rIi,rUi,rEqi,rNei,rEqb,rNeb,rNot,rAnd,rOr,rAndV,rOrV,rNotV,rIf,rSeq,rNext,rDrop,rRet,rRetN,rIfS,rAsg,rName,rNil,rCons,rCB,rBM,rCall,rTup,rLst,rSl,rNoPart,rPart,rInt,rChain,rComp,rIList,rITup,rIRng1,rK,rKn,rKc,rRaise,rIsN,rNotN,rBM0,rFld,rSFld,rMeth,rMake,rGSub,rIRngThree,rTryIf,rMCall,rMMeth,rTryR2,List.set_cons_zero,List.set_cons_succ,List.append_nil,capS,List.map_cons,List.map_nil,List.nil_append,List.cons_append,List.getD_cons_zero,List.getD_cons_succ]
      refine ⟨np, dx3, _, rfl, s4 _ _ h13, flds_no _ _ _ (by decide +kernel) (by decide +kernel) (by decide +kernel), ?_⟩
      refine ⟨np, pr, tq, n, rs ++ [(x, y, c)], rfl, N3.mono s4, by simp; omega, fun H5 s5 => ?_⟩
      try simp only [rv0,rvS,rC,rOp,rUn,rTest,rB,rBl,rI0i,rIi,rUi,rEqi,rNei,rEqb,rNeb,rNot,rAnd,rOr,rAndV,rOrV,rNotV,rIf,rSeq,rNext,rDrop,rRet,rRetN,rIfS,rAsg,rName,rNil,rCons,rCB,rBM,rCall,rTup,rLst,rSl,rNoPart,rPart,rInt,rChain,rComp,rIList,rITup,rIRng1,rK,rKn,rKc,rRaise,rIsN,rNotN,rBM0,rFld,rSFld,rMeth,rMake,rGSub,rIRngThree,rTryIf,rMCall,rMMeth,rTryR2,List.set_cons_zero,List.set_cons_succ,List.append_nil,capS,List.map_cons,List.map_nil,List.nil_append,List.cons_append,List.getD_cons_zero,List.getD_cons_succ]
      refine ⟨show 3 ≤ sizeLine by decide, fun p np' => ?_⟩
      have s6 := (s4.trans s5).trans (Same.upd_new (o := .tup [.int ((xr3.length : Int) - 1), optV (RT.miss (RT.lt n rs) (RT.lt n (rs ++ [(x, y, c)]))), .int (RT.sumC (rs ++ [(x, y, c)]) (RT.lt n (rs ++ [(x, y, c)])))]) np')
      refine k2 ok _ tq _ ntq0 (N3.mono s6) (k03.trans (Kept.of s6)) ?_
      exact rep_tup.mpr ⟨p, _, rfl, upd_same, reps_cc.mpr ⟨rep_int.mpr (by rw [lxr3]), reps_cc.mpr ⟨rep_opt.mpr rfl, reps_cc.mpr ⟨rep_int.mpr rfl, reps_nil.mpr rfl⟩⟩⟩⟩
end
end My
namespace My
open PySem L2
section
variable {P : Program} {w : World} {K : PySem.W.Frag} {mg : Str → Option Value} {base : Heap} {A : Ad}
noncomputable def sp_Net_recost (C T X : Addr) : Sp := fun vs H Q E => ∃ (np pr tp : Addr) (n : Nat) (rs : List RT.Rope) (m c : Int), vs = [.ref np, .int m, .int c] ∧ NetAt C H np pr tp n rs ∧ n ≤ 1000 ∧ rs.length < 60 ∧ H T = some (.ctab q_from_cheapest) ∧
  (okD n rs (.cost m c) = false → ∀ H', Same H H' → E (.ref X) none H') ∧
  (okD n rs (.cost m c) = true → ∀ v tq H', H tq = none → NetAt C H' np pr tq n (RT.recst rs m c) → Kept np pr H H' → Rep H' (ansD n rs (.cost m c)) v → Q v H')
theorem ok_Net_recost (T : Txt K mg A) (B : Bm mg base) : FnOk P w K mg base (CX1 P w) 5 A.a_Net_recost A.d_Net_recost ["self", "number", "cost"] (sp_Net_recost A.a_Net A.p_from_cheapest A.a_NoRope) := by
  have G_is_rope_number : FnOk P w K mg base CX0 _ _ _ _ _ := ok_is_rope_number T
  have G_Net_renew : FnOk P w K mg base CX0 _ _ _ _ _ := ok_Net_renew T B
  have G_Net_cost : FnOk P w K mg base CX0 _ _ _ _ _ := ok_Net_cost T
  have G_exchange : FnOk P w K mg base CX0 _ _ _ _ _ := ok_exchange T
  refine T.f_Net_recost.okX sc_Net_recost (fun vs H Q E h => ?_) (fun cdv A' outer s H vs Q E hr h => ?_)
  · obtain ⟨np, pr, tp, n, rs, m, c, rfl, _⟩ := h
    rfl
  · obtain ⟨np, pr, tp, n, rs, m, c, rfl, N, hn, hl, hT, k1, k2⟩ := h
    obtain ⟨dx, h1⟩ := N.ob
    obtain ⟨xr, hpr, hxr⟩ := N.ro
    have big := big1000
    have lxr : xr.length = rs.length := by have := hxr.length; rw [List.length_map] at this; exact this.symm
    refine ⟨_, (pss_cons (ps_if (pt_not (pt_val (pe_call G_is_rope_number (hr.mono (by decide)) rfl T.m_is_rope_number T.k_is_rope_number T.b_is_rope_number .nil pass0 (pa_cons (pe_fld (pv 0) rfl) (pa_cons (pv 1) pa_nil))))) (pss_one (ps_raise1 hr.hd T.x_NoRope T.m_NoRope rfl (pa_cons pe_str pa_nil))) pss_nil)
      (pss_cons (ps_set (i := 3) sc_Net_recost.nd rfl (Or.inl rfl) (pe_ix ix_list (pe_fld (pv 0) rfl) (pv 1) (fun _ _ => rfl)))
      (pss_cons (ps_asg (pe_tup (pa_cons (pe_ix ix_tup (pv 3) pe_int (fun _ _ => rfl)) (pa_cons (pe_ix ix_tup (pv 3) pe_int (fun _ _ => rfl)) (pa_cons (pv 2) pa_nil)))) (pg_sub (pe_fld (pv 0) rfl) (pv 1) set_list))
      (pss_cons (ps_set (i := 4) sc_Net_recost.nd rfl (Or.inl rfl) (pe_meth0 (pv 0) T.cl_Net T.mt_Net_renew G_Net_renew (hr.mono (by decide)) T.b_Net_renew .nil pass0 ))
      (pss_one (ps_ret (pe_tup (pa_cons (pe_call G_exchange (hr.mono (by decide)) rfl T.m_exchange T.k_exchange T.b_exchange .nil pass0 (pa_cons (pv 4) (pa_cons (pe_fld (pv 0) rfl) pa_nil))) (pa_cons (pe_meth0 (pv 0) T.cl_Net T.mt_Net_cost G_Net_cost (hr.mono (by decide)) T.b_Net_cost .nil pass0 ) pa_nil))))))))), ?_⟩
    rw [show start ["self", "number", "cost", "rope", "before"] [.ref np, .int m, .int c] = [some (.ref np), some (.int m), some (.int c), none, none] from rfl]
    try simp only [rv0,rvS,rC,rOp,rUn,rTest,rB,rBl,rI0i,rIi,rUi,rEqi,rNei,rEqb,rNeb,rNot,rAnd,rOr,rAndV,rOrV,rNotV,rIf,rSeq,rNext,rDrop,rRet,rRetN,rIfS,rAsg,rName,rNil,rCons,rCB,rBM,rCall,rTup,rLst,rSl,rNoPart,rPart,rInt,rChain,rComp,rIList,rITup,rIRng1,rK,rKn,rKc,rRaise,rIsN,rNotN,rBM0,rFld,rSFld,rMeth,rMake,rGSub,rIRngThree,rTryIf,rMCall,rMMeth,rTryR2,List.set_cons_zero,List.set_cons_succ,List.append_nil,capS,List.map_cons,List.map_nil,List.nil_append,List.cons_append,List.getD_cons_zero,List.getD_cons_succ]
    refine ⟨np, A.a_Net, dx, _, _, rfl, h1, T.cl_Net, T.nf_ropes, flds_r _ _ _, ?_⟩
    try simp only [rv0,rvS,rC,rOp,rUn,rTest,rB,rBl,rI0i,rIi,rUi,rEqi,rNei,rEqb,rNeb,rNot,rAnd,rOr,rAndV,rOrV,rNotV,rIf,rSeq,rNext,rDrop,rRet,rRetN,rIfS,rAsg,rName,rNil,rCons,rCB,rBM,rCall,rTup,rLst,rSl,rNoPart,rPart,rInt,rChain,rComp,rIList,rITup,rIRng1,rK,rKn,rKc,rRaise,rIsN,rNotN,rBM0,rFld,rSFld,rMeth,rMake,rGSub,rIRngThree,rTryIf,rMCall,rMMeth,rTryR2,List.set_cons_zero,List.set_cons_succ,List.append_nil,capS,List.map_cons,List.map_nil,List.nil_append,List.cons_append,List.getD_cons_zero,List.getD_cons_succ]
    refine ⟨pr, xr, m, rfl, hpr, ?_⟩
    rw [lxr]
    cases ok : okD n rs (.cost m c) with
    | false =>
      have hno : ¬ (0 ≤ m ∧ m < (rs.length : Int)) := of_decide_eq_false ok
      try simp only [rv0,rvS,rC,rOp,rUn,rTest,rB,rBl,rI0i,rIi,rUi,rEqi,rNei,rEqb,rNeb,rNot,rAnd,rOr,rAndV,rOrV,rNotV,rIf,rSeq,rNext,rDrop,rRet,rRetN,rIfS,rAsg,rName,rNil,rCons,rCB,rBM,rCall,rTup,rLst,rSl,rNoPart,rPart,rInt,rChain,rComp,rIList,rITup,rIRng1,rK,rKn,rKc,rRaise,rIsN,rNotN,rBM0,rFld,rSFld,rMeth,rMake,rGSub,rIRngThree,rTryIf,rMCall,rMMeth,rTryR2,List.set_cons_zero,List.set_cons_succ,List.append_nil,capS,List.map_cons,List.map_nil,List.nil_append,List.cons_append,List.getD_cons_zero,List.getD_cons_succ]
      rw [decide_eq_false hno]
      refine iteT ?_
      try simp only [rv0,rvS,rC,rOp,rUn,rTest,rB,rBl,rI0i,rIi,rUi,rEqi,rNei,rEqb,rNeb,rNot,rAnd,rOr,rAndV,rOrV,rNotV,rIf,rSeq,rNext,rDrop,rRet,rRetN,rIfS,rAsg,rName,rNil,rCons,rCB,rBM,rCall,rTup,rLst,rSl,rNoPart,rPart,rInt,rChain,rComp,rIList,rITup,rIRng1,rK,rKn,rKc,rRaise,rIsN,rNotN,rBM0,rFld,rSFld,rMeth,rMake,rGSub,rIRngThree,rTryIf,rMCall,rMMeth,rTryR2,List.set_cons_zero,List.set_cons_succ,List.append_nil,capS,List.map_cons,List.map_nil,List.nil_append,List.cons_append,List.getD_cons_zero,List.getD_cons_succ]
      exact ⟨show 1 ≤ sizeLine by decide, k1 ok _ (Same.refl H)⟩
    | true =>
      have hm : 0 ≤ m ∧ m < (rs.length : Int) := of_decide_eq_true ok
      try simp only [rv0,rvS,rC,rOp,rUn,rTest,rB,rBl,rI0i,rIi,rUi,rEqi,rNei,rEqb,rNeb,rNot,rAnd,rOr,rAndV,rOrV,rNotV,rIf,rSeq,rNext,rDrop,rRet,rRetN,rIfS,rAsg,rName,rNil,rCons,rCB,rBM,rCall,rTup,rLst,rSl,rNoPart,rPart,rInt,rChain,rComp,rIList,rITup,rIRng1,rK,rKn,rKc,rRaise,rIsN,rNotN,rBM0,rFld,rSFld,rMeth,rMake,rGSub,rIRngThree,rTryIf,rMCall,rMMeth,rTryR2,List.set_cons_zero,List.set_cons_succ,List.append_nil,capS,List.map_cons,List.map_nil,List.nil_append,List.cons_append,List.getD_cons_zero,List.getD_cons_succ]
      rw [decide_eq_true hm]
      refine iteF ?_
      try simp only [rv0,rvS,rC,rOp,rUn,rTest,rB,rBl,rI0i,rIi,rUi,rEqi,rNei,rEqb,rNeb,rNot,rAnd,rOr,rAndV,rOrV,rNotV,rIf,rSeq,rNext,rDrop,rRet,rRetN,rIfS,rAsg,rName,rNil,rCons,rCB,rBM,rCall,rTup,rLst,rSl,rNoPart,rPart,rInt,rChain,rComp,rIList,rITup,rIRng1,rK,rKn,rKc,rRaise,rIsN,rNotN,rBM0,rFld,rSFld,rMeth,rMake,rGSub,rIRngThree,rTryIf,rMCall,rMMeth,rTryR2,List.set_cons_zero,List.set_cons_succ,List.append_nil,capS,List.map_cons,List.map_nil,List.nil_append,List.cons_append,List.getD_cons_zero,List.getD_cons_succ]
      refine ⟨np, A.a_Net, dx, _, _, rfl, h1, T.cl_Net, T.nf_ropes, flds_r _ _ _, ?_⟩
      try simp only [rv0,rvS,rC,rOp,rUn,rTest,rB,rBl,rI0i,rIi,rUi,rEqi,rNei,rEqb,rNeb,rNot,rAnd,rOr,rAndV,rOrV,rNotV,rIf,rSeq,rNext,rDrop,rRet,rRetN,rIfS,rAsg,rName,rNil,rCons,rCB,rBM,rCall,rTup,rLst,rSl,rNoPart,rPart,rInt,rChain,rComp,rIList,rITup,rIRng1,rK,rKn,rKc,rRaise,rIsN,rNotN,rBM0,rFld,rSFld,rMeth,rMake,rGSub,rIRngThree,rTryIf,rMCall,rMMeth,rTryR2,List.set_cons_zero,List.set_cons_succ,List.append_nil,capS,List.map_cons,List.map_nil,List.nil_append,List.cons_append,List.getD_cons_zero,List.getD_cons_succ]
      obtain ⟨rp, hp1, hp2⟩ := ropes_at hxr hm.1 hm.2
      have hp2 : H rp = some (.tup [.int (RT.rp rs m).1, .int (RT.rp rs m).2.1, .int (RT.rp rs m).2.2]) := hp2
      refine rd_list hpr hp1 ?_
      try simp only [rv0,rvS,rC,rOp,rUn,rTest,rB,rBl,rI0i,rIi,rUi,rEqi,rNei,rEqb,rNeb,rNot,rAnd,rOr,rAndV,rOrV,rNotV,rIf,rSeq,rNext,rDrop,rRet,rRetN,rIfS,rAsg,rName,rNil,rCons,rCB,rBM,rCall,rTup,rLst,rSl,rNoPart,rPart,rInt,rChain,rComp,rIList,rITup,rIRng1,rK,rKn,rKc,rRaise,rIsN,rNotN,rBM0,rFld,rSFld,rMeth,rMake,rGSub,rIRngThree,rTryIf,rMCall,rMMeth,rTryR2,List.set_cons_zero,List.set_cons_succ,List.append_nil,capS,List.map_cons,List.map_nil,List.nil_append,List.cons_append,List.getD_cons_zero,List.getD_cons_succ]
      refine rd_tup hp2 rfl (rd_tup hp2 rfl ?_)
      refine ⟨show 3 ≤ sizeLine by decide, fun q nq => ?_⟩
      have t1 : Same H (upd H q (.tup [.int (RT.rp rs m).1, .int (RT.rp rs m).2.1, .int c])) := Same.upd_new nq
      have g1 : upd H q (.tup [.int (RT.rp rs m).1, .int (RT.rp rs m).2.1, .int c]) q = some (.tup [.int (RT.rp rs m).1, .int (RT.rp rs m).2.1, .int c]) := upd_same
      generalize upd H q (.tup [.int (RT.rp rs m).1, .int (RT.rp rs m).2.1, .int c]) = H1 at t1 g1 ⊢
      have hpr1 := t1 _ _ hpr
      try simp only [rv0,rvS,rC,rOp,rUn,rTest,rB,rBl,rI0i,rIi,rUi,rEqi,rNei,rEqb,rNeb,rNot,rAnd,rOr,rAndV,rOrV,rNotV,rIf,rSeq,rNext,rDrop,rRet,rRetN,rIfS,rAsg,rName,rNil,rCons,rCB,rBM,rCall,rTup,rLst,rSl,rNoPart,rPart,rInt,rChain,rComp,rIList,rITup,rIRng1,rK,rKn,rKc,rRaise,rIsN,rNotN,rBM0,rFld,rSFld,rMeth,rMake,rGSub,rIRngThree,rTryIf,rMCall,rMMeth,rTryR2,List.set_cons_zero,List.set_cons_succ,List.append_nil,capS,List.map_cons,List.map_nil,List.nil_append,List.cons_append,List.getD_cons_zero,List.getD_cons_succ]
      refine ⟨np, A.a_Net, dx, _, _, rfl, t1 _ _ h1, T.cl_Net, T.nf_ropes, flds_r _ _ _, ?_⟩
      try simp only [rv0,rvS,rC,rOp,rUn,rTest,rB,rBl,rI0i,rIi,rUi,rEqi,rNei,rEqb,rNeb,rNot,rAnd,rOr,rAndV,rOrV,rNotV,rIf,rSeq,rNext,rDrop,rRet,rRetN,rIfS,rAsg,rName,rNil,rCons,rCB,rBM,rCall,rTup,rLst,rSl,rNoPart,rPart,rInt,rChain,rComp,rIList,rITup,rIRng1,rK,rKn,rKc,rRaise,rIsN,rNotN,rBM0,rFld,rSFld,rMeth,rMake,rGSub,rIRngThree,rTryIf,rMCall,rMMeth,rTryR2,List.set_cons_zero,List.set_cons_succ,List.append_nil,capS,List.map_cons,List.map_nil,List.nil_append,List.cons_append,List.getD_cons_zero,List.getD_cons_succ]
      refine ⟨pr, xr, m, m.toNat, rfl, rfl, hpr1, by unfold ixN; rw [if_pos hm.1, if_pos (by omega)], ?_⟩
      have npr : np ≠ pr := ne_of h1 hpr (by intro z; cases z)
      have kp2 : ∀ b o, H1 b = some o → b ≠ pr → upd H1 pr (.lst (xr.set m.toNat (.ref q))) b = some o := fun b o e nb => by rw [upd_ne nb]; exact e
      have hpr2 : upd H1 pr (.lst (xr.set m.toNat (.ref q))) pr = some (.lst (xr.set m.toNat (.ref q))) := upd_same
      have hrep2 : Reps (upd H1 pr (.lst (xr.set m.toNat (.ref q)))) ((RT.recst rs m c).map ropeD) (xr.set m.toNat (.ref q)) := by
        unfold RT.recst
        rw [List.map_set]
        exact reps_set (ropes_upd hpr1 (hxr.mono t1)) (rep_rope.mpr ⟨q, rfl, kp2 _ _ g1 (ne_of g1 hpr1 (by intro z; cases z))⟩)
      generalize upd H1 pr (.lst (xr.set m.toNat (.ref q))) = H2 at kp2 hpr2 hrep2 ⊢
      have k02 : ∀ b o, H b = some o → b ≠ pr → H2 b = some o := fun b o e nb => kp2 b o (t1 _ _ e) nb
      have hok : RT.Okr n (RT.recst rs m c) := RT.okr_recst N.ok hm
      have hlr : (RT.recst rs m c).length = rs.length := RT.len_recst
      try simp only [rv0,rvS,rC,rOp,rUn,rTest,rB,rBl,rI0i,rIi,rUi,rEqi,rNei,rEqb,rNeb,rNot,rAnd,rOr,rAndV,rOrV,rNotV,rIf,rSeq,rNext,rDrop,rRet,rRetN,rIfS,rAsg,rName,rNil,rCons,rCB,rBM,rCall,rTup,rLst,rSl,rNoPart,rPart,rInt,rChain,rComp,rIList,rITup,rIRng1,rK,rKn,rKc,rRaise,rIsN,rNotN,rBM0,rFld,rSFld,rMeth,rMake,rGSub,rIRngThree,rTryIf,rMCall,rMMeth,rTryR2,List.set_cons_zero,List.set_cons_succ,List.append_nil,capS,List.map_cons,List.map_nil,List.nil_append,List.cons_append,List.getD_cons_zero,List.getD_cons_succ]
      refine ⟨np, dx, _, rfl, k02 _ _ h1 npr, flds_no _ _ _ (by decide +kernel) (by decide +kernel) (by decide +kernel), ?_⟩
      refine ⟨np, pr, tp, dx, n, RT.recst rs m c, rfl, k02 _ _ h1 npr, rep_lst.mpr ⟨pr, _, rfl, hpr2, hrep2⟩, hok, hn, by omega, k02 _ _ hT (ne_of hT hpr (by intro z; cases z)), fun tq H3 ntq N3 kp3 => ?_⟩
      have ntq0 : H tq = none := by
        cases e : H tq with
        | none => rfl
        | some o =>
          by_cases z : tq = pr
          · subst z; rw [hpr2] at ntq; cases ntq
          · rw [k02 _ _ e z] at ntq; cases ntq
      have k03 : Kept np pr H H3 := fun b o e n1 n2 => kp3 b o (k02 b o e n2) n1
      have tp3 := k03 _ _ N.tr (ne_of N.tr h1 (by intro z; cases z)) N.ne
      obtain ⟨dx3, h13⟩ := N3.ob
      try simp only [rv0,rvS,rC,rOp,rUn,rTest,rB,rBl,rI0i,rIi,rUi,rEqi,rNei,rEqb,rNeb,rNot,rAnd,rOr,rAndV,rOrV,rNotV,rIf,rSeq,rNext,rDrop,rRet,rRetN,rIfS,rAsg,rName,rNil,rCons,rCB,rBM,rCall,rTup,rLst,rSl,rNoPart,rPart,rInt,rChain,rComp,rIList,rITup,rIRng1,rK,rKn,rKc,rRaise,rIsN,rNotN,rBM0,rFld,rSFld,rMeth,rMake,rGSub,rIRngThree,rTryIf,rMCall,rMMeth,rTryR2,List.set_cons_zero,List.set_cons_succ,List.append_nil,capS,List.map_cons,List.map_nil,List.nil_append,List.cons_append,List.getD_cons_zero,List.getD_cons_succ]
      refine ⟨np, A.a_Net, dx3, _, _, rfl, h13, T.cl_Net, T.nf_tree, flds_t _ _ _, ?_⟩
      try simp only [rv0,rvS,rC,rOp,rUn,rTest,rB,rBl,rI0i,rIi,rUi,rEqi,rNei,rEqb,rNeb,rNot,rAnd,rOr,rAndV,rOrV,rNotV,rIf,rSeq,rNext,rDrop,rRet,rRetN,rIfS,rAsg,rName,rNil,rCons,rCB,rBM,rCall,rTup,rLst,rSl,rNoPart,rPart,rInt,rChain,rComp,rIList,rITup,rIRng1,rK,rKn,rKc,rRaise,rIsN,rNotN,rBM0,rFld,rSFld,rMeth,rMake,rGSub,rIRngThree,rTryIf,rMCall,rMMeth,rTryR2,List.set_cons_zero,List.set_cons_succ,List.append_nil,capS,List.map_cons,List.map_nil,List.nil_append,List.cons_append,List.getD_cons_zero,List.getD_cons_succ]
      refine ⟨tp, tq, RT.lt n rs, RT.lt n (RT.recst rs m c), rfl, tp3, N3.tr, by have := N.len; omega, by have := N3.len; omega, fun v H4 s4 hv4 => ?_⟩
      try simp only [rv0,rvS,rC,rOp,rUn,rTest,rB,rBl,rI0i,rIi,rUi,rEqi,rNei,rEqb,rNeb,rNot,rAnd,rOr,rAndV,rOrV,rNotV,rIf,rSeq,rNext,rDrop,rRet,rRetN,rIfS,rAsg,rName,rNil,rCons,rCB,rBM,rCall,rTup,rLst,rSl,rNoPart,rPart,rInt,rChain,rComp,rIList,rITup,rIRng1,rK,rKn,rKc,rRaise,rIsN,rNotN,rBM0,rFld,rSFld,rMeth,rMake,rGSub,rIRngThree,rTryIf,rMCall,rMMeth,rTryR2,List.set_cons_zero,List.set_cons_succ,List.append_nil,capS,List.map_cons,List.map_nil,List.nil_append,List.cons_append,List.getD_cons_zero,List.getD_cons_succ]
      refine ⟨np, dx3, _, rfl, s4 _ _ h13, flds_no _ _ _ (by decide +kernel) (by decide +kernel) (by decide +kernel), ?_⟩
      refine ⟨np, pr, tq, n, RT.recst rs m c, rfl, N3.mono s4, by omega, fun H5 s5 => ?_⟩
      try simp only [rv0,rvS,rC,rOp,rUn,rTest,rB,rBl,rI0i,rIi,rUi,rEqi,rNei,rEqb,rNeb,rNot,rAnd,rOr,rAndV,rOrV,rNotV,rIf,rSeq,rNext,rDrop,rRet,rRetN,rIfS,rAsg,rName,rNil,rCons,rCB,rBM,rCall,rTup,rLst,rSl,rNoPart,rPart,rInt,rChain,rComp,rIList,rITup,rIRng1,rK,rKn,rKc,rRaise,rIsN,rNotN,rBM0,rFld,rSFld,rMeth,rMake,rGSub,rIRngThree,rTryIf,rMCall,rMMeth,rTryR2,List.set_cons_zero,List.set_cons_succ,List.append_nil,capS,List.map_cons,List.map_nil,List.nil_append,List.cons_append,List.getD_cons_zero,List.getD_cons_succ]
      refine ⟨show 2 ≤ sizeLine by decide, fun p np' => ?_⟩
      have s6' := s5.trans (Same.upd_new (o := .tup [v, .int (RT.sumC (RT.recst rs m c) (RT.lt n (RT.recst rs m c)))]) np')
      have s6 := s4.trans s6'
      refine k2 ok _ tq _ ntq0 (N3.mono s6) (k03.trans (Kept.of s6)) ?_
      exact rep_tup.mpr ⟨p, _, rfl, upd_same, reps_cc.mpr ⟨hv4.mono s6', reps_cc.mpr ⟨rep_int.mpr rfl, reps_nil.mpr rfl⟩⟩⟩
end
end My
namespace My
open PySem L2
section
variable {P : Program} {w : World} {K : PySem.W.Frag} {mg : Str → Option Value} {base : Heap} {A : Ad}
noncomputable def sp_do_deed (C T XP XR : Addr) : Sp := fun vs H Q E => ∃ (np pr tp dp : Addr) (n : Nat) (rs : List RT.Rope) (d : Deed), vs = [.ref np, .ref dp] ∧ NetAt C H np pr tp n rs ∧ Rep H (deedD d) (.ref dp) ∧ n ≤ 1000 ∧ rs.length < 60 ∧ H T = some (.ctab q_from_cheapest) ∧
  (okD n rs d = false → ∀ H', Same H H' → E (.ref (xcl XP XR d)) none H') ∧
  (okD n rs d = true → ∀ v tq H', (H tq = none ∨ tq = tp) → NetAt C H' np pr tq n (aft rs d) → Kept np pr H H' → New H H' (ansD n rs d) v → Q v H')
theorem ok_do_deed (T : Txt K mg A) (B : Bm mg base) : FnOk P w K mg base (CX1 P w) 6 A.a_do_deed A.d_do_deed ["net", "deed"] (sp_do_deed A.a_Net A.p_from_cheapest A.a_NoPlace A.a_NoRope) := by
  have B_Net_lay : FnOk P w K mg base (CX1 P w) _ _ _ _ _ := ok_Net_lay T B
  have B_Net_recost : FnOk P w K mg base (CX1 P w) _ _ _ _ _ := ok_Net_recost T B
  have G_Net_look : FnOk P w K mg base CX0 _ _ _ _ _ := ok_Net_look T
  refine T.f_do_deed.okX sc_do_deed (fun vs H Q E h => ?_) (fun cdv A' outer s H vs Q E hr h => ?_)
  · obtain ⟨np, pr, tp, dp, n, rs, d, rfl, _⟩ := h
    rfl
  · obtain ⟨np, pr, tp, dp, n, rs, d, rfl, N, hd, hn, hl, hT, k1, k2⟩ := h
    obtain ⟨dx, h1⟩ := N.ob
    refine ⟨_, (pss_cons (ps_if (pt_cmpR op_eq (pe_ix ix_tup (pv 1) pe_int (fun _ _ => rfl)) pe_str (nomark _)) (pss_one (ps_ret (pe_meth (pv 0) T.cl_Net T.mt_Net_lay B_Net_lay (hr.mono (by decide)) T.b_Net_lay .nil (pass1 fun _ _ _ z => z) (pa_cons (pe_ix ix_tup (pv 1) pe_int (fun _ _ => rfl)) (pa_cons (pe_ix ix_tup (pv 1) pe_int (fun _ _ => rfl)) (pa_cons (pe_ix ix_tup (pv 1) pe_int (fun _ _ => rfl)) pa_nil)))))) pss_nil)
      (pss_cons (ps_if (pt_cmpR op_eq (pe_ix ix_tup (pv 1) pe_int (fun _ _ => rfl)) pe_str (nomark _)) (pss_one (ps_ret (pe_meth (pv 0) T.cl_Net T.mt_Net_recost B_Net_recost (hr.mono (by decide)) T.b_Net_recost .nil (pass1 fun _ _ _ z => z) (pa_cons (pe_ix ix_tup (pv 1) pe_int (fun _ _ => rfl)) (pa_cons (pe_ix ix_tup (pv 1) pe_int (fun _ _ => rfl)) pa_nil))))) pss_nil)
      (pss_one (ps_ret (pe_meth0 (pv 0) T.cl_Net T.mt_Net_look G_Net_look (hr.mono (by decide)) T.b_Net_look .nil pass0 ))))), ?_⟩
    rw [show start ["net", "deed"] [.ref np, .ref dp] = [some (.ref np), some (.ref dp)] from rfl]
    try simp only [rv0,rvS,rC,rOp,rUn,rTest,rB,rBl,rI0i,rIi,rUi,rEqi,rNei,rEqb,rNeb,rNot,rAnd,rOr,rAndV,rOrV,rNotV,rIf,rSeq,rNext,rDrop,rRet,rRetN,rIfS,rAsg,rName,rNil,rCons,rCB,rBM,rCall,rTup,rLst,rSl,rNoPart,rPart,rInt,rChain,rComp,rIList,rITup,rIRng1,rK,rKn,rKc,rRaise,rIsN,rNotN,rBM0,rFld,rSFld,rMeth,rMake,rGSub,rIRngThree,rTryIf,rMCall,rMMeth,rTryR2,List.set_cons_zero,List.set_cons_succ,List.append_nil,capS,List.map_cons,List.map_nil,List.nil_append,List.cons_append,List.getD_cons_zero,List.getD_cons_succ]
    cases d with
    | lay x y c =>
      obtain ⟨dp', e, hd⟩ := rep_lay hd
      cases e
      refine rd_tup hd rfl ?_
      try simp only [rv0,rvS,rC,rOp,rUn,rTest,rB,rBl,rI0i,rIi,rUi,rEqi,rNei,rEqb,rNeb,rNot,rAnd,rOr,rAndV,rOrV,rNotV,rIf,rSeq,rNext,rDrop,rRet,rRetN,rIfS,rAsg,rName,rNil,rCons,rCB,rBM,rCall,rTup,rLst,rSl,rNoPart,rPart,rInt,rChain,rComp,rIList,rITup,rIRng1,rK,rKn,rKc,rRaise,rIsN,rNotN,rBM0,rFld,rSFld,rMeth,rMake,rGSub,rIRngThree,rTryIf,rMCall,rMMeth,rTryR2,List.set_cons_zero,List.set_cons_succ,List.append_nil,capS,List.map_cons,List.map_nil,List.nil_append,List.cons_append,List.getD_cons_zero,List.getD_cons_succ]
      refine ⟨rfl, _, rfl, ite2 (fun _ => ?_) (fun c => absurd (decide_eq_true rfl) c)⟩
      try simp only [rv0,rvS,rC,rOp,rUn,rTest,rB,rBl,rI0i,rIi,rUi,rEqi,rNei,rEqb,rNeb,rNot,rAnd,rOr,rAndV,rOrV,rNotV,rIf,rSeq,rNext,rDrop,rRet,rRetN,rIfS,rAsg,rName,rNil,rCons,rCB,rBM,rCall,rTup,rLst,rSl,rNoPart,rPart,rInt,rChain,rComp,rIList,rITup,rIRng1,rK,rKn,rKc,rRaise,rIsN,rNotN,rBM0,rFld,rSFld,rMeth,rMake,rGSub,rIRngThree,rTryIf,rMCall,rMMeth,rTryR2,List.set_cons_zero,List.set_cons_succ,List.append_nil,capS,List.map_cons,List.map_nil,List.nil_append,List.cons_append,List.getD_cons_zero,List.getD_cons_succ]
      refine ⟨np, dx, _, rfl, h1, flds_no _ _ _ (by decide +kernel) (by decide +kernel) (by decide +kernel), ?_⟩
      refine rd_tup hd rfl (rd_tup hd rfl (rd_tup hd rfl ?_))
      exact ⟨np, pr, tp, n, rs, x, y, c, rfl, N, hn, hl, hT, k1, fun ok v tq H' e N' kp r => k2 ok v tq H' (.inl e) N' kp (.flat r (flat_lay _ _ _ _ _))⟩
    | cost m c =>
      obtain ⟨dp', e, hd⟩ := rep_cost hd
      cases e
      refine rd_tup hd rfl ?_
      try simp only [rv0,rvS,rC,rOp,rUn,rTest,rB,rBl,rI0i,rIi,rUi,rEqi,rNei,rEqb,rNeb,rNot,rAnd,rOr,rAndV,rOrV,rNotV,rIf,rSeq,rNext,rDrop,rRet,rRetN,rIfS,rAsg,rName,rNil,rCons,rCB,rBM,rCall,rTup,rLst,rSl,rNoPart,rPart,rInt,rChain,rComp,rIList,rITup,rIRng1,rK,rKn,rKc,rRaise,rIsN,rNotN,rBM0,rFld,rSFld,rMeth,rMake,rGSub,rIRngThree,rTryIf,rMCall,rMMeth,rTryR2,List.set_cons_zero,List.set_cons_succ,List.append_nil,capS,List.map_cons,List.map_nil,List.nil_append,List.cons_append,List.getD_cons_zero,List.getD_cons_succ]
      refine ⟨rfl, _, rfl, ite2 (fun c => absurd (of_decide_eq_true c) cost_lay) (fun _ => ?_)⟩
      try simp only [rv0,rvS,rC,rOp,rUn,rTest,rB,rBl,rI0i,rIi,rUi,rEqi,rNei,rEqb,rNeb,rNot,rAnd,rOr,rAndV,rOrV,rNotV,rIf,rSeq,rNext,rDrop,rRet,rRetN,rIfS,rAsg,rName,rNil,rCons,rCB,rBM,rCall,rTup,rLst,rSl,rNoPart,rPart,rInt,rChain,rComp,rIList,rITup,rIRng1,rK,rKn,rKc,rRaise,rIsN,rNotN,rBM0,rFld,rSFld,rMeth,rMake,rGSub,rIRngThree,rTryIf,rMCall,rMMeth,rTryR2,List.set_cons_zero,List.set_cons_succ,List.append_nil,capS,List.map_cons,List.map_nil,List.nil_append,List.cons_append,List.getD_cons_zero,List.getD_cons_succ]
      refine rd_tup hd rfl ?_
      try simp only [rv0,rvS,rC,rOp,rUn,rTest,rB,rBl,rI0i,rIi,rUi,rEqi,rNei,rEqb,rNeb,rNot,rAnd,rOr,rAndV,rOrV,rNotV,rIf,rSeq,rNext,rDrop,rRet,rRetN,rIfS,rAsg,rName,rNil,rCons,rCB,rBM,rCall,rTup,rLst,rSl,rNoPart,rPart,rInt,rChain,rComp,rIList,rITup,rIRng1,rK,rKn,rKc,rRaise,rIsN,rNotN,rBM0,rFld,rSFld,rMeth,rMake,rGSub,rIRngThree,rTryIf,rMCall,rMMeth,rTryR2,List.set_cons_zero,List.set_cons_succ,List.append_nil,capS,List.map_cons,List.map_nil,List.nil_append,List.cons_append,List.getD_cons_zero,List.getD_cons_succ]
      refine ⟨rfl, _, rfl, ite2 (fun _ => ?_) (fun c => absurd (decide_eq_true rfl) c)⟩
      try simp only [rv0,rvS,rC,rOp,rUn,rTest,rB,rBl,rI0i,rIi,rUi,rEqi,rNei,rEqb,rNeb,rNot,rAnd,rOr,rAndV,rOrV,rNotV,rIf,rSeq,rNext,rDrop,rRet,rRetN,rIfS,rAsg,rName,rNil,rCons,rCB,rBM,rCall,rTup,rLst,rSl,rNoPart,rPart,rInt,rChain,rComp,rIList,rITup,rIRng1,rK,rKn,rKc,rRaise,rIsN,rNotN,rBM0,rFld,rSFld,rMeth,rMake,rGSub,rIRngThree,rTryIf,rMCall,rMMeth,rTryR2,List.set_cons_zero,List.set_cons_succ,List.append_nil,capS,List.map_cons,List.map_nil,List.nil_append,List.cons_append,List.getD_cons_zero,List.getD_cons_succ]
      refine ⟨np, dx, _, rfl, h1, flds_no _ _ _ (by decide +kernel) (by decide +kernel) (by decide +kernel), ?_⟩
      refine rd_tup hd rfl (rd_tup hd rfl ?_)
      exact ⟨np, pr, tp, n, rs, m, c, rfl, N, hn, hl, hT, k1, fun ok v tq H' e N' kp r => k2 ok v tq H' (.inl e) N' kp (.flat r (flat_cost _ _ _ _))⟩
    | look =>
      obtain ⟨dp', e, hd⟩ := rep_look hd
      cases e
      refine rd_tup hd rfl ?_
      try simp only [rv0,rvS,rC,rOp,rUn,rTest,rB,rBl,rI0i,rIi,rUi,rEqi,rNei,rEqb,rNeb,rNot,rAnd,rOr,rAndV,rOrV,rNotV,rIf,rSeq,rNext,rDrop,rRet,rRetN,rIfS,rAsg,rName,rNil,rCons,rCB,rBM,rCall,rTup,rLst,rSl,rNoPart,rPart,rInt,rChain,rComp,rIList,rITup,rIRng1,rK,rKn,rKc,rRaise,rIsN,rNotN,rBM0,rFld,rSFld,rMeth,rMake,rGSub,rIRngThree,rTryIf,rMCall,rMMeth,rTryR2,List.set_cons_zero,List.set_cons_succ,List.append_nil,capS,List.map_cons,List.map_nil,List.nil_append,List.cons_append,List.getD_cons_zero,List.getD_cons_succ]
      refine ⟨rfl, _, rfl, ite2 (fun c => absurd (of_decide_eq_true c) look_lay) (fun _ => ?_)⟩
      try simp only [rv0,rvS,rC,rOp,rUn,rTest,rB,rBl,rI0i,rIi,rUi,rEqi,rNei,rEqb,rNeb,rNot,rAnd,rOr,rAndV,rOrV,rNotV,rIf,rSeq,rNext,rDrop,rRet,rRetN,rIfS,rAsg,rName,rNil,rCons,rCB,rBM,rCall,rTup,rLst,rSl,rNoPart,rPart,rInt,rChain,rComp,rIList,rITup,rIRng1,rK,rKn,rKc,rRaise,rIsN,rNotN,rBM0,rFld,rSFld,rMeth,rMake,rGSub,rIRngThree,rTryIf,rMCall,rMMeth,rTryR2,List.set_cons_zero,List.set_cons_succ,List.append_nil,capS,List.map_cons,List.map_nil,List.nil_append,List.cons_append,List.getD_cons_zero,List.getD_cons_succ]
      refine rd_tup hd rfl ?_
      try simp only [rv0,rvS,rC,rOp,rUn,rTest,rB,rBl,rI0i,rIi,rUi,rEqi,rNei,rEqb,rNeb,rNot,rAnd,rOr,rAndV,rOrV,rNotV,rIf,rSeq,rNext,rDrop,rRet,rRetN,rIfS,rAsg,rName,rNil,rCons,rCB,rBM,rCall,rTup,rLst,rSl,rNoPart,rPart,rInt,rChain,rComp,rIList,rITup,rIRng1,rK,rKn,rKc,rRaise,rIsN,rNotN,rBM0,rFld,rSFld,rMeth,rMake,rGSub,rIRngThree,rTryIf,rMCall,rMMeth,rTryR2,List.set_cons_zero,List.set_cons_succ,List.append_nil,capS,List.map_cons,List.map_nil,List.nil_append,List.cons_append,List.getD_cons_zero,List.getD_cons_succ]
      refine ⟨rfl, _, rfl, ite2 (fun c => absurd (of_decide_eq_true c) look_cost) (fun _ => ?_)⟩
      try simp only [rv0,rvS,rC,rOp,rUn,rTest,rB,rBl,rI0i,rIi,rUi,rEqi,rNei,rEqb,rNeb,rNot,rAnd,rOr,rAndV,rOrV,rNotV,rIf,rSeq,rNext,rDrop,rRet,rRetN,rIfS,rAsg,rName,rNil,rCons,rCB,rBM,rCall,rTup,rLst,rSl,rNoPart,rPart,rInt,rChain,rComp,rIList,rITup,rIRng1,rK,rKn,rKc,rRaise,rIsN,rNotN,rBM0,rFld,rSFld,rMeth,rMake,rGSub,rIRngThree,rTryIf,rMCall,rMMeth,rTryR2,List.set_cons_zero,List.set_cons_succ,List.append_nil,capS,List.map_cons,List.map_nil,List.nil_append,List.cons_append,List.getD_cons_zero,List.getD_cons_succ]
      refine ⟨np, dx, _, rfl, h1, flds_no _ _ _ (by decide +kernel) (by decide +kernel) (by decide +kernel), ?_⟩
      exact ⟨np, pr, tp, n, rs, rfl, N, fun D H' s nD eD => k2 rfl _ tp H' (.inr rfl) (N.mono s) (Kept.of s) (.ints eD nD)⟩
end
end My
namespace My
open PySem L2
section
variable {P : Program} {w : World} {K : PySem.W.Frag} {mg : Str → Option Value} {base : Heap} {A : Ad}
noncomputable def sp_answer (C T : Addr) : Sp := fun vs H Q _ => ∃ (np pr tp dp : Addr) (n : Nat) (rs : List RT.Rope) (d : Deed), vs = [.ref np, .ref dp] ∧ NetAt C H np pr tp n rs ∧ Rep H (deedD d) (.ref dp) ∧ n ≤ 1000 ∧ rs.length < 60 ∧ H T = some (.ctab q_from_cheapest) ∧
  ∀ v tq H', (H tq = none ∨ tq = tp) → NetAt C H' np pr tq n (next n rs d) → Kept np pr H H' → New H H' (toldD n rs d) v → Q v H'
theorem ok_answer (T : Txt K mg A) (B : Bm mg base) : FnOk P w K mg base CX0 7 A.a_answer A.d_answer ["net", "deed"] (sp_answer A.a_Net A.p_from_cheapest) := by
  have G_do_deed : FnOk P w K mg base (CX1 P w) _ _ _ _ _ := ok_do_deed T B
  refine T.f_answer.ok sc_answer (fun vs H Q E h => ?_) (fun cdv A' outer s H vs Q E hr h => ?_)
  · obtain ⟨np, pr, tp, dp, n, rs, d, rfl, _⟩ := h
    rfl
  · obtain ⟨np, pr, tp, dp, n, rs, d, rfl, N, hd, hn, hl, hT, k⟩ := h
    refine ⟨_, (pss_one (ps_tryR2 (mc_call G_do_deed (hr.mono (by decide)) rfl T.m_do_deed T.k_do_deed T.b_do_deed .nil (pa_cons (pv 0) (pa_cons (pv 1) pa_nil))) rfl T.m_NoPlace rfl T.m_NoRope (fun _ => (pss_one (ps_ret pe_str))) (fun _ => (pss_one (ps_ret pe_str))))), ?_⟩
    rw [show start ["net", "deed"] [.ref np, .ref dp] = [some (.ref np), some (.ref dp)] from rfl]
    try simp only [rv0,rvS,rC,rOp,rUn,rTest,rB,rBl,rI0i,rIi,rUi,rEqi,rNei,rEqb,rNeb,rNot,rAnd,rOr,rAndV,rOrV,rNotV,rIf,rSeq,rNext,rDrop,rRet,rRetN,rIfS,rAsg,rName,rNil,rCons,rCB,rBM,rCall,rTup,rLst,rSl,rNoPart,rPart,rInt,rChain,rComp,rIList,rITup,rIRng1,rK,rKn,rKc,rRaise,rIsN,rNotN,rBM0,rFld,rSFld,rMeth,rMake,rGSub,rIRngThree,rTryIf,rMCall,rMMeth,rTryR2,List.set_cons_zero,List.set_cons_succ,List.append_nil,capS,List.map_cons,List.map_nil,List.nil_append,List.cons_append,List.getD_cons_zero,List.getD_cons_succ]
    refine ⟨np, pr, tp, dp, n, rs, d, rfl, N, hd, hn, hl, hT, fun ok H1 s1 => ?_, fun ok v tq H1 e N1 kp F => ?_⟩
    · have kk := fun v => k v tp H1 (.inr rfl) (by unfold next; rw [ok, if_neg Bool.false_ne_true]; exact N.mono s1) (Kept.of s1)
      have et : toldD n rs d = .str (wordD d) := by unfold toldD; rw [ok, if_neg Bool.false_ne_true]
      rw [et] at kk
      cases d with
      | lay x y c =>
        refine ⟨_, rfl, .inl ⟨T.y_NoPlace_NoPlace, ?_⟩⟩
        try simp only [rv0,rvS,rC,rOp,rUn,rTest,rB,rBl,rI0i,rIi,rUi,rEqi,rNei,rEqb,rNeb,rNot,rAnd,rOr,rAndV,rOrV,rNotV,rIf,rSeq,rNext,rDrop,rRet,rRetN,rIfS,rAsg,rName,rNil,rCons,rCB,rBM,rCall,rTup,rLst,rSl,rNoPart,rPart,rInt,rChain,rComp,rIList,rITup,rIRng1,rK,rKn,rKc,rRaise,rIsN,rNotN,rBM0,rFld,rSFld,rMeth,rMake,rGSub,rIRngThree,rTryIf,rMCall,rMMeth,rTryR2,List.set_cons_zero,List.set_cons_succ,List.append_nil,capS,List.map_cons,List.map_nil,List.nil_append,List.cons_append,List.getD_cons_zero,List.getD_cons_succ]
        exact kk _ fun H2 _ => rep_str.mpr rfl
      | cost m c =>
        refine ⟨_, rfl, .inr ⟨T.y_NoRope_NoPlace, T.y_NoRope_NoRope, ?_⟩⟩
        try simp only [rv0,rvS,rC,rOp,rUn,rTest,rB,rBl,rI0i,rIi,rUi,rEqi,rNei,rEqb,rNeb,rNot,rAnd,rOr,rAndV,rOrV,rNotV,rIf,rSeq,rNext,rDrop,rRet,rRetN,rIfS,rAsg,rName,rNil,rCons,rCB,rBM,rCall,rTup,rLst,rSl,rNoPart,rPart,rInt,rChain,rComp,rIList,rITup,rIRng1,rK,rKn,rKc,rRaise,rIsN,rNotN,rBM0,rFld,rSFld,rMeth,rMake,rGSub,rIRngThree,rTryIf,rMCall,rMMeth,rTryR2,List.set_cons_zero,List.set_cons_succ,List.append_nil,capS,List.map_cons,List.map_nil,List.nil_append,List.cons_append,List.getD_cons_zero,List.getD_cons_succ]
        exact kk _ fun H2 _ => rep_str.mpr rfl
      | look => cases ok
    · refine k v tq H1 e ?_ kp ?_
      · unfold next; rw [ok, if_pos rfl]; exact N1
      · unfold toldD; rw [ok, if_pos rfl]; exact F
end
end My
namespace My
open PySem L2
section
variable {P : Program} {w : World} {K : PySem.W.Frag} {mg : Str → Option Value} {base : Heap} {A : Ad}
noncomputable def ropesAt (n : Nat) (ds : List Deed) (i : Nat) : List RT.Rope := (ds.take i).foldl (next n) []
theorem ropesAt_succ {n : Nat} {ds : List Deed} {i : Nat} {d : Deed} (h : ds[i]? = some d) : ropesAt n ds (i + 1) = next n (ropesAt n ds i) d := by
  unfold ropesAt
  rw [take_snoc h, List.foldl_append]
  rfl
theorem ropesAt_len (n : Nat) (ds : List Deed) : ∀ i, (ropesAt n ds i).length ≤ i
  | 0 => by simp [ropesAt]
  | i + 1 => by
    have ih := ropesAt_len n ds i
    cases h : ds[i]? with
    | none =>
      have e : ropesAt n ds (i + 1) = ropesAt n ds i := by
        unfold ropesAt
        have := List.getElem?_eq_none_iff.mp h
        rw [List.take_of_length_le this, List.take_of_length_le (by omega)]
      rw [e]; omega
    | some d =>
      rw [ropesAt_succ h]
      have := len_next n (ropesAt n ds i) d
      omega
theorem rep_deed {H : Hp} {d : Deed} {v : V} (h : Rep H (deedD d) v) : ∃ a, v = .ref a := by
  cases d with
  | lay x y c => obtain ⟨a, e, _⟩ := rep_lay h; exact ⟨a, e⟩
  | cost x c => obtain ⟨a, e, _⟩ := rep_cost h; exact ⟨a, e⟩
  | look => obtain ⟨a, e, _⟩ := rep_look h; exact ⟨a, e⟩
noncomputable def sp_answers (C T : Addr) : Sp := fun vs H Q _ => ∃ (a : Addr) (n : Nat) (ds : List Deed), vs = [.int n, .ref a] ∧ Rep H (.list (ds.map deedD)) (.ref a) ∧ n ≤ 1000 ∧ ds.length < 60 ∧ H T = some (.ctab q_from_cheapest) ∧
  ∀ D ys H', Same H H' → H' D = some (.lst ys) → ys.length = ds.length → (∀ (j : Nat) y d, ys[j]? = some y → ds[j]? = some d → Rep H' (toldD n (ropesAt n ds j) d) y) → Q (.ref D) H'
theorem ok_answers (T : Txt K mg A) (B : Bm mg base) : FnOk P w K mg base CX0 8 A.a_answers A.d_answers ["count", "deeds"] (sp_answers A.a_Net A.p_from_cheapest) := by
  have G_Net___init__ : FnOk P w K mg base CX0 _ _ _ _ _ := ok_Net___init__ T
  have G_answer : FnOk P w K mg base CX0 _ _ _ _ _ := ok_answer T B
  refine T.f_answers.ok sc_answers (fun vs H Q E h => ?_) (fun cdv A' outer s H vs Q E hr h => ?_)
  · obtain ⟨a, n, ds, rfl, _⟩ := h
    rfl
  · obtain ⟨a, n, ds, rfl, hrep, hn, hl, hT, k⟩ := h
    obtain ⟨a', xs, e, ha, hxs⟩ := rep_lst.mp hrep
    cases e
    have big := big1000
    have lxs : xs.length = ds.length := by have := hxs.length; rw [List.length_map] at this; exact this.symm
    refine ⟨_, (pss_cons (ps_set (i := 2) sc_answers.nd rfl (Or.inr rfl) (pe_make T.mk_Net G_Net___init__ (hr.mono (by decide)) rfl T.m_Net T.b_Net___init__ .nil pass0 (pa_cons (pv 0) pa_nil)))
      (pss_one (ps_ret (pe_comp1 rfl (CompOk.of (os := defScope s_answers) (N := ["count", "deeds", "net"]) (ts := ["deed"]) (cs := [2]) (by decide +kernel) rfl rfl) (pi_list (pv 1)) (fun _ _ _ _ _ => pif_nil) (fun _ _ _ _ _ => (pe_call G_answer (hr.mono (by decide)) rfl T.m_answer T.k_answer T.b_answer .nil pass0 (pa_cons (pv 1) (pa_cons (pv 0) pa_nil)))))))), ?_⟩
    rw [show start ["count", "deeds", "net"] [.int n, .ref a] = [some (.int n), some (.ref a), none] from rfl]
    try simp only [rv0,rvS,rC,rOp,rUn,rTest,rB,rBl,rI0i,rIi,rUi,rEqi,rNei,rEqb,rNeb,rNot,rAnd,rOr,rAndV,rOrV,rNotV,rIf,rSeq,rNext,rDrop,rRet,rRetN,rIfS,rAsg,rName,rNil,rCons,rCB,rBM,rCall,rTup,rLst,rSl,rNoPart,rPart,rInt,rChain,rComp,rIList,rITup,rIRng1,rK,rKn,rKc,rRaise,rIsN,rNotN,rBM0,rFld,rSFld,rMeth,rMake,rGSub,rIRngThree,rTryIf,rMCall,rMMeth,rTryR2,List.set_cons_zero,List.set_cons_succ,List.append_nil,capS,List.map_cons,List.map_nil,List.nil_append,List.cons_append,List.getD_cons_zero,List.getD_cons_succ]
    intro np dx nnp ndx nex
    refine ⟨np, dx, n, rfl, upd_same, fun pr tp H1 npr ntp N1 kp1 => ⟨rfl, ?_⟩⟩
    have s0 : Same H (upd (upd H dx (.own np)) np (.ins A.a_Net dx [])) := fun b o e => by
      rw [upd_ne (ne_of_none e nnp), upd_ne (ne_of_none e ndx)]
      exact e
    have s1 : Same H H1 := fun b o e => kp1 b o (s0 b o e) (ne_of_none e nnp)
    have nnpr : H pr = none := s0.free npr
    try simp only [rv0,rvS,rC,rOp,rUn,rTest,rB,rBl,rI0i,rIi,rUi,rEqi,rNei,rEqb,rNeb,rNot,rAnd,rOr,rAndV,rOrV,rNotV,rIf,rSeq,rNext,rDrop,rRet,rRetN,rIfS,rAsg,rName,rNil,rCons,rCB,rBM,rCall,rTup,rLst,rSl,rNoPart,rPart,rInt,rChain,rComp,rIList,rITup,rIRng1,rK,rKn,rKc,rRaise,rIsN,rNotN,rBM0,rFld,rSFld,rMeth,rMake,rGSub,rIRngThree,rTryIf,rMCall,rMMeth,rTryR2,List.set_cons_zero,List.set_cons_succ,List.append_nil,capS,List.map_cons,List.map_nil,List.nil_append,List.cons_append,List.getD_cons_zero,List.getD_cons_succ]
    refine ⟨a, rfl, ⟨_, SqL.of (s1 _ _ ha)⟩, fun D hD => ?_⟩
    have hDp : D ≠ np := by
      obtain ⟨dx1, h1⟩ := N1.ob
      exact (ne_of_none h1 hD).symm
    have hDr : D ≠ pr := by
      obtain ⟨xr, h1, _⟩ := N1.ro
      exact (ne_of_none h1 hD).symm
    have s2 : Same H1 (upd H1 D (.lst [])) := Same.upd_new hD
    refine comp_list (xs := xs) (fun i ys H2 => Same H H2 ∧ (∃ tq, NetAt A.a_Net H2 np pr tq n (ropesAt n ds i) ∧ tq ≠ D) ∧ H2 D = some (.lst ys) ∧ ys.length = i ∧ ∀ (j : Nat) y d, ys[j]? = some y → ds[j]? = some d → (∀ H', (∀ c o, H2 c = some o → c ≠ np → c ≠ pr → c ≠ D → H' c = some o) → Rep H' (toldD n (ropesAt n ds j) d) y)) ?_ ?_ ?_ ?_
    · exact ⟨s1.trans s2, ⟨tp, N1.mono s2, ne_of_none N1.tr hD⟩, upd_same, rfl, fun j y d e _ => by simp at e⟩
    · rintro i ys H2 _ ⟨s, _, hd, _⟩
      exact ⟨SqL.of (s _ _ ha), hd⟩
    · rintro i x ys H2 hx ⟨sH, ⟨tq, N2, nt⟩, hd, li, hF⟩
      obtain ⟨dd, e1, e2⟩ := hxs.got hx
      rw [List.getElem?_map] at e1
      cases ed : ds[i]? with
      | none => rw [ed] at e1; cases e1
      | some d =>
        rw [ed] at e1
        cases e1
        have hi : i < ds.length := (List.getElem?_eq_some_iff.mp ed).1
        have hlr := ropesAt_len n ds i
        obtain ⟨dp, rfl⟩ := rep_deed e2
        try simp only [rv0,rvS,rC,rOp,rUn,rTest,rB,rBl,rI0i,rIi,rUi,rEqi,rNei,rEqb,rNeb,rNot,rAnd,rOr,rAndV,rOrV,rNotV,rIf,rSeq,rNext,rDrop,rRet,rRetN,rIfS,rAsg,rName,rNil,rCons,rCB,rBM,rCall,rTup,rLst,rSl,rNoPart,rPart,rInt,rChain,rComp,rIList,rITup,rIRng1,rK,rKn,rKc,rRaise,rIsN,rNotN,rBM0,rFld,rSFld,rMeth,rMake,rGSub,rIRngThree,rTryIf,rMCall,rMMeth,rTryR2,List.set_cons_zero,List.set_cons_succ,List.append_nil,capS,List.map_cons,List.map_nil,List.nil_append,List.cons_append,List.getD_cons_zero,List.getD_cons_succ]
        refine ⟨np, pr, tq, dp, n, ropesAt n ds i, d, rfl, N2, e2.mono sH, hn, by omega, sH _ _ hT, fun v tq2 H3 etq N3 kp F => ?_⟩
        have hd3 : H3 D = some (.lst ys) := kp _ _ hd hDp hDr
        have sH3 : Same H H3 := kp.same sH nnp nnpr
        have nt2 : tq2 ≠ D := by
          rcases etq with e | e
          · exact (ne_of_none hd e).symm
          · rw [e]; exact nt
        refine ⟨hd3, by omega, ⟨_, rfl⟩, ?_⟩
        have hDn : H D = none := s1.free hD
        have nD3 : ∀ c o, H3 c = some o → c ≠ D → upd H3 D (.lst (ys ++ [v])) c = some o := fun c o e z => by rw [upd_ne z]; exact e
        have kD : Kept D D H3 (upd H3 D (.lst (ys ++ [v]))) := fun c o e z _ => nD3 c o e z
        refine ⟨sH3.upd_late hDn, ⟨tq2, ?_, nt2⟩, upd_same, by simp [li], fun j y d' ej edj => ?_⟩
        · rw [ropesAt_succ ed]
          exact N3.keep kD (.lst hd3) (.lst hd3) hDp.symm hDp.symm hDr.symm hDr.symm nt2 nt2
        · by_cases hj : j < ys.length
          · rw [List.getElem?_append_left hj] at ej
            intro H' kk
            exact hF j y d' ej edj H' fun c o e n1 n2 n3 => kk c o (nD3 c o (kp c o e n1 n2) n3) n1 n2 n3
          · have ejl : j = ys.length := by
              have := (List.getElem?_eq_some_iff.mp ej).1
              simp at this
              omega
            subst ejl
            rw [List.getElem?_append_right (Nat.le_refl _), Nat.sub_self] at ej
            cases ej
            rw [li, ed] at edj
            cases edj
            rw [li]
            intro H' kk
            obtain ⟨dx3, g1⟩ := N3.ob
            obtain ⟨xr3, g2, _⟩ := N3.ro
            obtain ⟨dx2, f1⟩ := N2.ob
            obtain ⟨xr2, f2, _⟩ := N2.ro
            refine F H' fun c o e h => ?_
            have m1 : c ≠ np := by
              rcases h with ⟨zs, rfl⟩ | h
              · exact ne_of e g1 (by intro z; cases z)
              · exact (ne_of_none f1 h).symm
            have m2 : c ≠ pr := by
              rcases h with ⟨zs, rfl⟩ | h
              · exact ne_of e g2 (by intro z; cases z)
              · exact (ne_of_none f2 h).symm
            have m3 : c ≠ D := by
              rcases h with ⟨zs, rfl⟩ | h
              · exact ne_of e hd3 (by intro z; cases z)
              · exact (ne_of_none hd h).symm
            exact kk c o (nD3 c o e m3) m1 m2 m3
    · rintro ys H2 ⟨sH, _, hd, li, hF⟩
      exact k D ys H2 sH hd (by omega) fun j y d e1 e2 => hF j y d e1 e2 H2 fun c o e _ _ _ => e
end
end My
namespace My
open PySem L2
section
variable {P : Program} {w : World} {K : PySem.W.Frag} {mg : Str → Option Value} {base : Heap} {A : Ad}
noncomputable def sp__law_upto : Sp := fun vs H Q _ => ∃ (a : Addr) (xs : List V) (i j : Int), vs = [.ref a, .int i, .int j] ∧ H a = some (.lst xs) ∧ xs.length ≤ 63 ∧ Q (.int i) H
theorem ok__law_upto (T : Txt K mg A) : FnOk P w K mg base CX0 1 A.a__law_upto A.d__law_upto ["_law_script", "_law_small", "_law_great"] sp__law_upto := by
  refine T.f__law_upto.ok sc__law_upto (fun vs H Q E h => ?_) (fun cdv A' outer s H vs Q E hr h => ?_)
  · obtain ⟨a, xs, i, j, rfl, _⟩ := h
    rfl
  · obtain ⟨a, xs, i, j, rfl, ha, hl, k⟩ := h
    refine ⟨_, (pss_cons (ps_if (pt_cmpR op_gt (pe_callB call_len_seq rfl T.z_len bo_len (pa_cons (pv 0) pa_nil)) pe_int (nomark _)) (pss_one (ps_ret (pv 2))) pss_nil)
      (pss_one (ps_ret (pv 1)))), ?_⟩
    rw [show start ["_law_script", "_law_small", "_law_great"] [.ref a, .int i, .int j] = [some (.ref a), some (.int i), some (.int j)] from rfl]
    try simp only [rv0,rvS,rC,rOp,rUn,rTest,rB,rBl,rI0i,rIi,rUi,rEqi,rNei,rEqb,rNeb,rNot,rAnd,rOr,rAndV,rOrV,rNotV,rIf,rSeq,rNext,rDrop,rRet,rRetN,rIfS,rAsg,rName,rNil,rCons,rCB,rBM,rCall,rTup,rLst,rSl,rNoPart,rPart,rInt,rChain,rComp,rIList,rITup,rIRng1,rK,rKn,rKc,rRaise,rIsN,rNotN,rBM0,rFld,rSFld,rMeth,rMake,rGSub,rIRngThree,rTryIf,rMCall,rMMeth,rTryR2,List.set_cons_zero,List.set_cons_succ,List.append_nil,capS,List.map_cons,List.map_nil,List.nil_append,List.cons_append,List.getD_cons_zero,List.getD_cons_succ]
    refine ⟨a, _, rfl, .inl (SqL.of ha), ?_⟩
    try simp only [rv0,rvS,rC,rOp,rUn,rTest,rB,rBl,rI0i,rIi,rUi,rEqi,rNei,rEqb,rNeb,rNot,rAnd,rOr,rAndV,rOrV,rNotV,rIf,rSeq,rNext,rDrop,rRet,rRetN,rIfS,rAsg,rName,rNil,rCons,rCB,rBM,rCall,rTup,rLst,rSl,rNoPart,rPart,rInt,rChain,rComp,rIList,rITup,rIRng1,rK,rKn,rKc,rRaise,rIsN,rNotN,rBM0,rFld,rSFld,rMeth,rMake,rGSub,rIRngThree,rTryIf,rMCall,rMMeth,rTryR2,List.set_cons_zero,List.set_cons_succ,List.append_nil,capS,List.map_cons,List.map_nil,List.nil_append,List.cons_append,List.getD_cons_zero,List.getD_cons_succ]
    rw [if_neg (by simp; omega)]
    exact k
end
end My
namespace My
open PySem L2
section
variable {P : Program} {w : World} {K : PySem.W.Frag} {mg : Str → Option Value} {base : Heap} {A : Ad}
noncomputable def sp__law_whole : Sp := fun vs H Q _ => ∃ (i : Int), vs = [.int i] ∧ Q (.bl true) H
theorem ok__law_whole (T : Txt K mg A) : FnOk P w K mg base CX0 1 A.a__law_whole A.d__law_whole ["_law_found"] sp__law_whole := by
  refine T.f__law_whole.ok sc__law_whole (fun vs H Q E h => ?_) (fun cdv A' outer s H vs Q E hr h => ?_)
  · obtain ⟨i, rfl, _⟩ := h
    rfl
  · obtain ⟨i, rfl, k⟩ := h
    refine ⟨_, (pss_one (ps_ret (pe_and (pe_callB call_isinst rfl T.z_isinstance bo_isinstance (pa_cons (pv 0) (pa_cons (pe_bltn (v := .ty "int") rfl T.z_int bo_int rfl) pa_nil))) (pe_one (pe_not (pe_callB call_isinst rfl T.z_isinstance bo_isinstance (pa_cons (pv 0) (pa_cons (pe_bltn (v := .ty "bool") rfl T.z_bool bo_bool rfl) pa_nil)))))))), ?_⟩
    rw [show start ["_law_found"] [.int i] = [some (.int i)] from rfl]
    try simp only [rv0,rvS,rC,rOp,rUn,rTest,rB,rBl,rI0i,rIi,rUi,rEqi,rNei,rEqb,rNeb,rNot,rAnd,rOr,rAndV,rOrV,rNotV,rIf,rSeq,rNext,rDrop,rRet,rRetN,rIfS,rAsg,rName,rNil,rCons,rCB,rBM,rCall,rTup,rLst,rSl,rNoPart,rPart,rInt,rChain,rComp,rIList,rITup,rIRng1,rK,rKn,rKc,rRaise,rIsN,rNotN,rBM0,rFld,rSFld,rMeth,rMake,rGSub,rIRngThree,rTryIf,rMCall,rMMeth,rTryR2,List.set_cons_zero,List.set_cons_succ,List.append_nil,capS,List.map_cons,List.map_nil,List.nil_append,List.cons_append,List.getD_cons_zero,List.getD_cons_succ]
    refine ⟨_, _, _, _, rfl, .int i, rfl, ?_⟩
    try simp only [rv0,rvS,rC,rOp,rUn,rTest,rB,rBl,rI0i,rIi,rUi,rEqi,rNei,rEqb,rNeb,rNot,rAnd,rOr,rAndV,rOrV,rNotV,rIf,rSeq,rNext,rDrop,rRet,rRetN,rIfS,rAsg,rName,rNil,rCons,rCB,rBM,rCall,rTup,rLst,rSl,rNoPart,rPart,rInt,rChain,rComp,rIList,rITup,rIRng1,rK,rKn,rKc,rRaise,rIsN,rNotN,rBM0,rFld,rSFld,rMeth,rMake,rGSub,rIRngThree,rTryIf,rMCall,rMMeth,rTryR2,List.set_cons_zero,List.set_cons_succ,List.append_nil,capS,List.map_cons,List.map_nil,List.nil_append,List.cons_append,List.getD_cons_zero,List.getD_cons_succ]
    refine ⟨_, _, _, _, rfl, .int i, rfl, ?_⟩
    try simp only [rv0,rvS,rC,rOp,rUn,rTest,rB,rBl,rI0i,rIi,rUi,rEqi,rNei,rEqb,rNeb,rNot,rAnd,rOr,rAndV,rOrV,rNotV,rIf,rSeq,rNext,rDrop,rRet,rRetN,rIfS,rAsg,rName,rNil,rCons,rCB,rBM,rCall,rTup,rLst,rSl,rNoPart,rPart,rInt,rChain,rComp,rIList,rITup,rIRng1,rK,rKn,rKc,rRaise,rIsN,rNotN,rBM0,rFld,rSFld,rMeth,rMake,rGSub,rIRngThree,rTryIf,rMCall,rMMeth,rTryR2,List.set_cons_zero,List.set_cons_succ,List.append_nil,capS,List.map_cons,List.map_nil,List.nil_append,List.cons_append,List.getD_cons_zero,List.getD_cons_succ]
    exact k
end
end My
namespace My
open PySem L2
section
variable {P : Program} {w : World} {K : PySem.W.Frag} {mg : Str → Option Value} {base : Heap} {A : Ad}
noncomputable def sp__law_at : Sp := fun vs H Q _ => ∃ (a : Addr) (ns : List Int) (i : Int), vs = [.ref a, .int i] ∧ H a = some (.lst (ns.map V.int)) ∧ 0 ≤ i ∧ Q (.int (ns.getD i.toNat 0)) H
theorem ok__law_at (T : Txt K mg A) : FnOk P w K mg base CX0 1 A.a__law_at A.d__law_at ["_law_script", "_law_k"] sp__law_at := by
  refine T.f__law_at.ok sc__law_at (fun vs H Q E h => ?_) (fun cdv A' outer s H vs Q E hr h => ?_)
  · obtain ⟨a, ns, i, rfl, _⟩ := h
    rfl
  · obtain ⟨a, ns, i, rfl, ha, h0, k⟩ := h
    refine ⟨_, (pss_cons (ps_if (pt_cmpR op_lt (pv 1) (pe_callB call_len_seq rfl T.z_len bo_len (pa_cons (pv 0) pa_nil)) (nomark _)) (pss_one (ps_ret (pe_ix ix_list (pv 0) (pv 1) (fun _ _ => rfl)))) pss_nil)
      (pss_one (ps_ret pe_int))), ?_⟩
    rw [show start ["_law_script", "_law_k"] [.ref a, .int i] = [some (.ref a), some (.int i)] from rfl]
    try simp only [rv0,rvS,rC,rOp,rUn,rTest,rB,rBl,rI0i,rIi,rUi,rEqi,rNei,rEqb,rNeb,rNot,rAnd,rOr,rAndV,rOrV,rNotV,rIf,rSeq,rNext,rDrop,rRet,rRetN,rIfS,rAsg,rName,rNil,rCons,rCB,rBM,rCall,rTup,rLst,rSl,rNoPart,rPart,rInt,rChain,rComp,rIList,rITup,rIRng1,rK,rKn,rKc,rRaise,rIsN,rNotN,rBM0,rFld,rSFld,rMeth,rMake,rGSub,rIRngThree,rTryIf,rMCall,rMMeth,rTryR2,List.set_cons_zero,List.set_cons_succ,List.append_nil,capS,List.map_cons,List.map_nil,List.nil_append,List.cons_append,List.getD_cons_zero,List.getD_cons_succ]
    refine ⟨a, _, rfl, .inl (SqL.of ha), ?_⟩
    try simp only [rv0,rvS,rC,rOp,rUn,rTest,rB,rBl,rI0i,rIi,rUi,rEqi,rNei,rEqb,rNeb,rNot,rAnd,rOr,rAndV,rOrV,rNotV,rIf,rSeq,rNext,rDrop,rRet,rRetN,rIfS,rAsg,rName,rNil,rCons,rCB,rBM,rCall,rTup,rLst,rSl,rNoPart,rPart,rInt,rChain,rComp,rIList,rITup,rIRng1,rK,rKn,rKc,rRaise,rIsN,rNotN,rBM0,rFld,rSFld,rMeth,rMake,rGSub,rIRngThree,rTryIf,rMCall,rMMeth,rTryR2,List.set_cons_zero,List.set_cons_succ,List.append_nil,capS,List.map_cons,List.map_nil,List.nil_append,List.cons_append,List.getD_cons_zero,List.getD_cons_succ]
    refine ite2 (fun c => ?_) (fun c => ?_)
    · have hi : i.toNat < ns.length := by simp at c; omega
      refine rd_list ha (atI_int h0 (v := .int (ns.getD i.toNat 0)) ?_) k
      rw [List.getElem?_map, List.getD_eq_getElem?_getD, List.getElem?_eq_getElem hi]
      rfl
    · have e : ns.getD i.toNat 0 = 0 := by
        rw [List.getD_eq_getElem?_getD, List.getElem?_eq_none_iff.mpr (by simp at c; omega)]
        rfl
      rw [e] at k
      exact k
end
end My
namespace My
open PySem L2
section
variable {P : Program} {w : World} {K : PySem.W.Frag} {mg : Str → Option Value} {base : Heap} {A : Ad}
noncomputable def sp__law_whole_row : Sp := fun vs H Q _ => ∃ (a : Addr) (ns : List Int), vs = [.ref a] ∧ H a = some (.lst (ns.map V.int)) ∧ Q (.bl true) H
theorem ok__law_whole_row (T : Txt K mg A) : FnOk P w K mg base CX0 2 A.a__law_whole_row A.d__law_whole_row ["_law_found"] sp__law_whole_row := by
  have G__law_whole : FnOk P w K mg base CX0 _ _ _ _ _ := ok__law_whole T
  refine T.f__law_whole_row.ok sc__law_whole_row (fun vs H Q E h => ?_) (fun cdv A' outer s H vs Q E hr h => ?_)
  · obtain ⟨a, ns, rfl, _⟩ := h
    rfl
  · obtain ⟨a, ns, rfl, ha, k⟩ := h
    refine ⟨_, (pss_cons (ps_if (pt_not (pt_val (pe_callB call_isinst rfl T.z_isinstance bo_isinstance (pa_cons (pv 0) (pa_cons (pe_bltn (v := .ty "list") rfl T.z_list bo_list rfl) pa_nil))))) (pss_one (ps_ret pe_bl)) pss_nil)
      (pss_cons (ps_for PassesOwn.never rfl (pi_list (pv 0)) (pg_name (i := 1) sc__law_whole_row.nd rfl (Or.inl rfl))
      (pss_one (ps_if (pt_not (pt_val (pe_call G__law_whole (hr.mono (by decide)) rfl T.m__law_whole T.k__law_whole T.b__law_whole .nil pass0 (pa_cons (pv 1) pa_nil)))) (pss_one (ps_ret pe_bl)) pss_nil)))
      (pss_one (ps_ret pe_bl)))), ?_⟩
    rw [show start ["_law_found", "_law_one"] [.ref a] = [some (.ref a), none] from rfl]
    try simp only [rv0,rvS,rC,rOp,rUn,rTest,rB,rBl,rI0i,rIi,rUi,rEqi,rNei,rEqb,rNeb,rNot,rAnd,rOr,rAndV,rOrV,rNotV,rIf,rSeq,rNext,rDrop,rRet,rRetN,rIfS,rAsg,rName,rNil,rCons,rCB,rBM,rCall,rTup,rLst,rSl,rNoPart,rPart,rInt,rChain,rComp,rIList,rITup,rIRng1,rK,rKn,rKc,rRaise,rIsN,rNotN,rBM0,rFld,rSFld,rMeth,rMake,rGSub,rIRngThree,rTryIf,rMCall,rMMeth,rTryR2,List.set_cons_zero,List.set_cons_succ,List.append_nil,capS,List.map_cons,List.map_nil,List.nil_append,List.cons_append,List.getD_cons_zero,List.getD_cons_succ]
    refine ⟨_, _, _, _, rfl, .lst ha, rfl, ?_⟩
    try simp only [rv0,rvS,rC,rOp,rUn,rTest,rB,rBl,rI0i,rIi,rUi,rEqi,rNei,rEqb,rNeb,rNot,rAnd,rOr,rAndV,rOrV,rNotV,rIf,rSeq,rNext,rDrop,rRet,rRetN,rIfS,rAsg,rName,rNil,rCons,rCB,rBM,rCall,rTup,rLst,rSl,rNoPart,rPart,rInt,rChain,rComp,rIList,rITup,rIRng1,rK,rKn,rKc,rRaise,rIsN,rNotN,rBM0,rFld,rSFld,rMeth,rMake,rGSub,rIRngThree,rTryIf,rMCall,rMMeth,rTryR2,List.set_cons_zero,List.set_cons_succ,List.append_nil,capS,List.map_cons,List.map_nil,List.nil_append,List.cons_append,List.getD_cons_zero,List.getD_cons_succ]
    refine iteF ?_
    refine ⟨_, rfl, a, rfl, ⟨_, SqL.of ha⟩, for_list (K := K) (a := a) (xs := ns.map V.int) (fun i σ H2 => H2 = H ∧ ∃ v, σ = [some (.ref a), v]) ⟨rfl, none, rfl⟩ (fun i σ H2 _ ⟨e, _⟩ => by rw [e]; exact SqL.of ha) ?_ ?_⟩
    · rintro i x σ H2 hx ⟨rfl, v, rfl⟩
      obtain ⟨z, _, rfl⟩ := ints_got hx
      try simp only [rv0,rvS,rC,rOp,rUn,rTest,rB,rBl,rI0i,rIi,rUi,rEqi,rNei,rEqb,rNeb,rNot,rAnd,rOr,rAndV,rOrV,rNotV,rIf,rSeq,rNext,rDrop,rRet,rRetN,rIfS,rAsg,rName,rNil,rCons,rCB,rBM,rCall,rTup,rLst,rSl,rNoPart,rPart,rInt,rChain,rComp,rIList,rITup,rIRng1,rK,rKn,rKc,rRaise,rIsN,rNotN,rBM0,rFld,rSFld,rMeth,rMake,rGSub,rIRngThree,rTryIf,rMCall,rMMeth,rTryR2,List.set_cons_zero,List.set_cons_succ,List.append_nil,capS,List.map_cons,List.map_nil,List.nil_append,List.cons_append,List.getD_cons_zero,List.getD_cons_succ]
      refine ⟨z, rfl, ?_⟩
      try simp only [rv0,rvS,rC,rOp,rUn,rTest,rB,rBl,rI0i,rIi,rUi,rEqi,rNei,rEqb,rNeb,rNot,rAnd,rOr,rAndV,rOrV,rNotV,rIf,rSeq,rNext,rDrop,rRet,rRetN,rIfS,rAsg,rName,rNil,rCons,rCB,rBM,rCall,rTup,rLst,rSl,rNoPart,rPart,rInt,rChain,rComp,rIList,rITup,rIRng1,rK,rKn,rKc,rRaise,rIsN,rNotN,rBM0,rFld,rSFld,rMeth,rMake,rGSub,rIRngThree,rTryIf,rMCall,rMMeth,rTryR2,List.set_cons_zero,List.set_cons_succ,List.append_nil,capS,List.map_cons,List.map_nil,List.nil_append,List.cons_append,List.getD_cons_zero,List.getD_cons_succ]
      exact iteF ⟨trivial, _, rfl⟩
    · rintro σ H2 ⟨rfl, v, rfl⟩
      exact k
end
end My
namespace My
open PySem L2
section
variable {P : Program} {w : World} {K : PySem.W.Frag} {mg : Str → Option Value} {base : Heap} {A : Ad}
noncomputable def sp__law_least_of : Sp := fun vs H Q _ => ∃ (n : Nat) (a : Addr) (rs : List RT.Rope), vs = [.int n, .ref a] ∧ Rep H (ropesD rs) (.ref a) ∧ RT.Okr n rs ∧ n ≤ 1000 ∧ rs.length < 64 ∧
  ∀ D H' (ns : List Int), Same H H' → H D = none → RT.Least n rs ns → H' D = some (.lst (ns.map V.int)) → Q (.ref D) H'
theorem ok__law_least_of (T : Txt K mg A) : FnOk P w K mg base CX0 1 A.a__law_least_of A.d__law_least_of ["_law_count", "_law_ropes"] sp__law_least_of := by
  refine T.f__law_least_of.ok sc__law_least_of (fun vs H Q E h => ?_) (fun cdv A' outer s H vs Q E hr h => ?_)
  · obtain ⟨n, a, rs, rfl, _⟩ := h
    rfl
  · obtain ⟨n, a, rs, rfl, hrep, hv, hn, hm, k⟩ := h
    obtain ⟨a', xs, e, ha, hxs⟩ := rep_lst.mp hrep
    cases e
    have lx : xs.length = rs.length := by have := hxs.length; rw [List.length_map] at this; exact this.symm
    refine ⟨_, (pss_cons (ps_setc1 (i := 2) rfl (CompOk.of (os := defScope s__law_least_of) (N := ["_law_count", "_law_ropes", "_law_above", "_law_numbers", "_law_cost", "_law_k", "_law_here", "_law_there"]) (ts := ["_law_place"]) (cs := []) (by decide +kernel) rfl rfl) (pi_range1 rfl T.z_range (pa_cons (pv 0) pa_nil)) (fun _ _ _ _ _ => pif_nil) (fun _ _ _ _ _ => (pv 0)) sc__law_least_of.nd rfl (Or.inl rfl))
      (pss_cons (ps_set (i := 3) sc__law_least_of.nd rfl (Or.inl rfl) (pe_lst pa_nil))
      (pss_cons (ps_hide (ps_for PassesOwn.never rfl (pi_list (pe_callB call_sortedT rfl T.z_sorted bo_sorted (pa_cons (pe_comp1 rfl (CompOk.of (os := defScope s__law_least_of) (N := ["_law_count", "_law_ropes", "_law_above", "_law_numbers", "_law_cost", "_law_k", "_law_here", "_law_there"]) (ts := ["_law_k"]) (cs := [1]) (by decide +kernel) rfl rfl) (pi_range1 rfl T.z_range (pa_cons (pe_callB call_len_seq rfl T.z_len bo_len (pa_cons (pv 1) pa_nil)) pa_nil)) (fun _ _ _ _ _ => pif_nil) (fun _ _ _ _ _ => (pe_tup (pa_cons (pe_ix ixc_tup (pe_ix ixc_list (pv 1) (pv 0) (fun _ _ => rfl)) pe_int (fun _ _ => rfl)) (pa_cons (pv 0) pa_nil))))) pa_nil))) (pg_tup rfl (pgs_cons (pg_name (i := 4) sc__law_least_of.nd rfl (Or.inl rfl)) (pgs_cons (pg_name (i := 5) sc__law_least_of.nd rfl (Or.inl rfl)) pgs_nil)))
      (pss_cons (ps_set (i := 6) sc__law_least_of.nd rfl (Or.inr rfl) (pe_ix ix_list (pv 2) (pe_ix ix_tup (pe_ix ix_list (pv 1) (pv 5) (fun _ _ => rfl)) pe_int (fun _ _ => rfl)) (fun _ _ => rfl)))
      (pss_cons (ps_set (i := 7) sc__law_least_of.nd rfl (Or.inr rfl) (pe_ix ix_list (pv 2) (pe_ix ix_tup (pe_ix ix_list (pv 1) (pv 5) (fun _ _ => rfl)) pe_int (fun _ _ => rfl)) (fun _ _ => rfl)))
      (pss_one (ps_if (pt_cmpR op_ne (pv 6) (pv 7) (nomark _)) (pss_cons (ps_expr (pe_bm PySem.F.plainAttrs_list PySem.F.slot_list_append PySem.F.type_list_append mt_append (pv 3) (pa_cons (pv 5) pa_nil)))
      (pss_one (ps_setc1 (i := 2) rfl (CompOk.of (os := defScope s__law_least_of) (N := ["_law_count", "_law_ropes", "_law_above", "_law_numbers", "_law_cost", "_law_k", "_law_here", "_law_there"]) (ts := ["_law_one"]) (cs := [7, 6]) (by decide +kernel) rfl rfl) (pi_list (pv 2)) (fun _ _ _ _ _ => pif_nil) (fun _ _ _ _ _ => (pe_ix ixc_list (pe_lst (pa_cons (pv 0) (pa_cons (pv 1) pa_nil))) (pe_callTy call_int1 rfl T.z_int bo_int (pa_cons (pe_cmpR op_eq (pv 0) (pv 2) (nomark _)) pa_nil)) (fun _ _ => rfl))) sc__law_least_of.nd rfl (Or.inl rfl)))) pss_nil))))))
      (pss_one (ps_ret (pe_callB call_sortedI rfl T.z_sorted bo_sorted (pa_cons (pv 3) pa_nil))))))), ?_⟩
    rw [show start ["_law_count", "_law_ropes", "_law_above", "_law_numbers", "_law_cost", "_law_k", "_law_here", "_law_there"] [.int n, .ref a] = [some (.int n), some (.ref a), none, none, none, none, none, none] from rfl]
    try simp only [rv0,rvS,rC,rOp,rUn,rTest,rB,rBl,rI0i,rIi,rUi,rEqi,rNei,rEqb,rNeb,rNot,rAnd,rOr,rAndV,rOrV,rNotV,rIf,rSeq,rNext,rDrop,rRet,rRetN,rIfS,rAsg,rName,rNil,rCons,rCB,rBM,rCall,rTup,rLst,rSl,rNoPart,rPart,rInt,rChain,rComp,rIList,rITup,rIRng1,rK,rKn,rKc,rRaise,rIsN,rNotN,rBM0,rFld,rSFld,rMeth,rMake,rGSub,rIRngThree,rTryIf,rMCall,rMMeth,rTryR2,List.set_cons_zero,List.set_cons_succ,List.append_nil,capS,List.map_cons,List.map_nil,List.nil_append,List.cons_append,List.getD_cons_zero,List.getD_cons_succ]
    refine ⟨_, rfl, by omega, by omega, fun D hD => ?_⟩
    refine comp_map_range (fun i => .int i) hD (by omega) (fun i hi H' Q' _ q => ?_) ?_
    · try simp only [rv0,rvS,rC,rOp,rUn,rTest,rB,rBl,rI0i,rIi,rUi,rEqi,rNei,rEqb,rNeb,rNot,rAnd,rOr,rAndV,rOrV,rNotV,rIf,rSeq,rNext,rDrop,rRet,rRetN,rIfS,rAsg,rName,rNil,rCons,rCB,rBM,rCall,rTup,rLst,rSl,rNoPart,rPart,rInt,rChain,rComp,rIList,rITup,rIRng1,rK,rKn,rKc,rRaise,rIsN,rNotN,rBM0,rFld,rSFld,rMeth,rMake,rGSub,rIRngThree,rTryIf,rMCall,rMMeth,rTryR2,List.set_cons_zero,List.set_cons_succ,List.append_nil,capS,List.map_cons,List.map_nil,List.nil_append,List.cons_append,List.getD_cons_zero,List.getD_cons_succ]
      rw [Int.zero_add]
      exact q
    have e1 : ((List.range ((n : Int)).toNat).map fun i : Nat => V.int (i : Int)) = (RT.iota n).map V.int := by
      rw [Int.toNat_natCast]
      unfold RT.iota
      rw [List.map_map]
      rfl
    rw [e1]
    have s0 : Same H (upd H D (.lst ((RT.iota n).map V.int))) := Same.upd_new hD
    have g0 : upd H D (.lst ((RT.iota n).map V.int)) D = some (.lst ((RT.iota n).map V.int)) := upd_same
    generalize upd H D (.lst ((RT.iota n).map V.int)) = H0 at s0 g0 ⊢
    try simp only [rv0,rvS,rC,rOp,rUn,rTest,rB,rBl,rI0i,rIi,rUi,rEqi,rNei,rEqb,rNeb,rNot,rAnd,rOr,rAndV,rOrV,rNotV,rIf,rSeq,rNext,rDrop,rRet,rRetN,rIfS,rAsg,rName,rNil,rCons,rCB,rBM,rCall,rTup,rLst,rSl,rNoPart,rPart,rInt,rChain,rComp,rIList,rITup,rIRng1,rK,rKn,rKc,rRaise,rIsN,rNotN,rBM0,rFld,rSFld,rMeth,rMake,rGSub,rIRngThree,rTryIf,rMCall,rMMeth,rTryR2,List.set_cons_zero,List.set_cons_succ,List.append_nil,capS,List.map_cons,List.map_nil,List.nil_append,List.cons_append,List.getD_cons_zero,List.getD_cons_succ]
    refine ⟨Nat.zero_le _, fun np hnp => ?_⟩
    have hnp1 : H np = none := s0.free hnp
    have ne1 : D ≠ np := fun z => by rw [← z, g0] at hnp; cases hnp
    have s1 : Same H0 (upd H0 np (.lst [])) := Same.upd_new hnp
    have g1 : upd H0 np (.lst []) np = some (.lst []) := upd_same
    generalize upd H0 np (.lst []) = H1 at s1 g1 ⊢
    have s2 := s0.trans s1
    try simp only [rv0,rvS,rC,rOp,rUn,rTest,rB,rBl,rI0i,rIi,rUi,rEqi,rNei,rEqb,rNeb,rNot,rAnd,rOr,rAndV,rOrV,rNotV,rIf,rSeq,rNext,rDrop,rRet,rRetN,rIfS,rAsg,rName,rNil,rCons,rCB,rBM,rCall,rTup,rLst,rSl,rNoPart,rPart,rInt,rChain,rComp,rIList,rITup,rIRng1,rK,rKn,rKc,rRaise,rIsN,rNotN,rBM0,rFld,rSFld,rMeth,rMake,rGSub,rIRngThree,rTryIf,rMCall,rMMeth,rTryR2,List.set_cons_zero,List.set_cons_succ,List.append_nil,capS,List.map_cons,List.map_nil,List.nil_append,List.cons_append,List.getD_cons_zero,List.getD_cons_succ]
    unfold tHide tFor
    refine it_key (fun J H3 => ∃ (D3 : Addr) (ps : List Addr) (os : List Nat), J = Itl K D3 ∧ Same H1 H3 ∧ H1 D3 = none ∧ ps.length = rs.length ∧ os.Perm (List.range rs.length) ∧ os.Pairwise (fun i j => RT.rank rs i < RT.rank rs j) ∧ H3 D3 = some (.lst (os.map fun i => V.ref (ps.getD i 0))) ∧
      ∀ (i : Nat) kp, ps[i]? = some kp → H3 kp = some (.tup (([RT.cost rs i, (i : Int)] : List Int).map V.int))) (fun KK hKK => ?_) ?_
    · try simp only [rv0,rvS,rC,rOp,rUn,rTest,rB,rBl,rI0i,rIi,rUi,rEqi,rNei,rEqb,rNeb,rNot,rAnd,rOr,rAndV,rOrV,rNotV,rIf,rSeq,rNext,rDrop,rRet,rRetN,rIfS,rAsg,rName,rNil,rCons,rCB,rBM,rCall,rTup,rLst,rSl,rNoPart,rPart,rInt,rChain,rComp,rIList,rITup,rIRng1,rK,rKn,rKc,rRaise,rIsN,rNotN,rBM0,rFld,rSFld,rMeth,rMake,rGSub,rIRngThree,rTryIf,rMCall,rMMeth,rTryR2,List.set_cons_zero,List.set_cons_succ,List.append_nil,capS,List.map_cons,List.map_nil,List.nil_append,List.cons_append,List.getD_cons_zero,List.getD_cons_succ]
      refine ⟨a, _, rfl, .inl (SqL.of (s2 _ _ ha)), ?_⟩
      try simp only [rv0,rvS,rC,rOp,rUn,rTest,rB,rBl,rI0i,rIi,rUi,rEqi,rNei,rEqb,rNeb,rNot,rAnd,rOr,rAndV,rOrV,rNotV,rIf,rSeq,rNext,rDrop,rRet,rRetN,rIfS,rAsg,rName,rNil,rCons,rCB,rBM,rCall,rTup,rLst,rSl,rNoPart,rPart,rInt,rChain,rComp,rIList,rITup,rIRng1,rK,rKn,rKc,rRaise,rIsN,rNotN,rBM0,rFld,rSFld,rMeth,rMake,rGSub,rIRngThree,rTryIf,rMCall,rMMeth,rTryR2,List.set_cons_zero,List.set_cons_succ,List.append_nil,capS,List.map_cons,List.map_nil,List.nil_append,List.cons_append,List.getD_cons_zero,List.getD_cons_succ]
      refine ⟨_, rfl, by omega, by omega, fun D2 hD2 => ?_⟩
      refine comp_tups (fun i => [RT.cost rs i, i]) hD2 (by omega) (fun i hi H' Q' s3 q => ?_) (fun H2 ps s3 lps hps hD2' => ?_)
      · have s4 := s2.trans s3
        have hi : i < rs.length := by omega
        obtain ⟨rp, hp1, hp2⟩ := ropes_at (k := (0 : Int) + (i : Nat)) (hxs.mono s4) (by omega) (by omega)
        try simp only [rv0,rvS,rC,rOp,rUn,rTest,rB,rBl,rI0i,rIi,rUi,rEqi,rNei,rEqb,rNeb,rNot,rAnd,rOr,rAndV,rOrV,rNotV,rIf,rSeq,rNext,rDrop,rRet,rRetN,rIfS,rAsg,rName,rNil,rCons,rCB,rBM,rCall,rTup,rLst,rSl,rNoPart,rPart,rInt,rChain,rComp,rIList,rITup,rIRng1,rK,rKn,rKc,rRaise,rIsN,rNotN,rBM0,rFld,rSFld,rMeth,rMake,rGSub,rIRngThree,rTryIf,rMCall,rMMeth,rTryR2,List.set_cons_zero,List.set_cons_succ,List.append_nil,capS,List.map_cons,List.map_nil,List.nil_append,List.cons_append,List.getD_cons_zero,List.getD_cons_succ]
        refine rd_list (s4 _ _ ha) hp1 (rd_tup hp2 rfl ?_)
        try simp only [rv0,rvS,rC,rOp,rUn,rTest,rB,rBl,rI0i,rIi,rUi,rEqi,rNei,rEqb,rNeb,rNot,rAnd,rOr,rAndV,rOrV,rNotV,rIf,rSeq,rNext,rDrop,rRet,rRetN,rIfS,rAsg,rName,rNil,rCons,rCB,rBM,rCall,rTup,rLst,rSl,rNoPart,rPart,rInt,rChain,rComp,rIList,rITup,rIRng1,rK,rKn,rKc,rRaise,rIsN,rNotN,rBM0,rFld,rSFld,rMeth,rMake,rGSub,rIRngThree,rTryIf,rMCall,rMMeth,rTryR2,List.set_cons_zero,List.set_cons_succ,List.append_nil,capS,List.map_cons,List.map_nil,List.nil_append,List.cons_append,List.getD_cons_zero,List.getD_cons_succ]
        refine ⟨show 2 ≤ sizeLine by decide, fun kp hkp => q kp _ (Same.upd_new hkp) ?_⟩
        rw [upd_same]
        simp [RT.cost, RT.rp]
      have lps : ps.length = rs.length := by omega
      try simp only [rv0,rvS,rC,rOp,rUn,rTest,rB,rBl,rI0i,rIi,rUi,rEqi,rNei,rEqb,rNeb,rNot,rAnd,rOr,rAndV,rOrV,rNotV,rIf,rSeq,rNext,rDrop,rRet,rRetN,rIfS,rAsg,rName,rNil,rCons,rCB,rBM,rCall,rTup,rLst,rSl,rNoPart,rPart,rInt,rChain,rComp,rIList,rITup,rIRng1,rK,rKn,rKc,rRaise,rIsN,rNotN,rBM0,rFld,rSFld,rMeth,rMake,rGSub,rIRngThree,rTryIf,rMCall,rMMeth,rTryR2,List.set_cons_zero,List.set_cons_succ,List.append_nil,capS,List.map_cons,List.map_nil,List.nil_append,List.cons_append,List.getD_cons_zero,List.getD_cons_succ]
      refine ⟨D2, ps, fun i => [RT.cost rs i, i], RT.rank rs, rfl, hD2', by omega, fun i => by simp, hps, fun i j hi hj => ?_, fun i j hi hj e => ?_, fun D3 os o1 o2 nD3 => ?_⟩
      · rw [lps] at hi hj
        have r := RT.rank_iff hi hj
        unfold RT.Chp at r
        rw [Bool.eq_iff_iff, decide_eq_true_iff, r]
        simp only [HT.lexLt]
        split
        · split
          · simp; omega
          · simp; omega
        · simp; omega
      · rw [lps] at hi hj
        exact RT.rank_inj hi hj e
      rw [lps] at o1
      exact ⟨D3, rfl, ⟨_, SqL.of upd_same⟩, hKK _ _ ⟨D3, ps, os, rfl, s3.trans (Same.upd_new nD3), s3.free nD3, lps, o1, o2, upd_same, fun i kp e => (Same.upd_new nD3) _ _ (hps i kp e)⟩⟩
    rintro J H3 ⟨D3, ps, os, rfl, s4, nD3, lps, o1, o2, g4, hps4⟩
    have O := RT.ord_of o1 o2
    have lo : os.length = rs.length := by have := o1.length_eq; simpa using this
    have hos : ∀ i ∈ os, i < rs.length := fun i m => by have := o1.mem_iff.mp m; simpa using this
    have t4 := s2.trans s4
    refine for_list (K := K) (a := D3) (xs := os.map fun i => V.ref (ps.getD i 0)) (fun i σ H4 => ∃ gp x4 x5 x6 x7, σ = [some (.int n), some (.ref a), some (.ref gp), some (.ref np), x4, x5, x6, x7] ∧ Same H H4 ∧ gp ≠ np ∧ H gp = none ∧ H4 D3 = some (.lst (os.map fun i => V.ref (ps.getD i 0))) ∧ gp ≠ D3 ∧ np ≠ D3 ∧
      (∀ (i : Nat) kp, ps[i]? = some kp → H4 kp = some (.tup (([RT.cost rs i, (i : Int)] : List Int).map V.int))) ∧ H4 gp = some (.lst ((RT.run false n rs ((os.take i).map fun i : Nat => (i : Int))).1.map V.int)) ∧ H4 np = some (.lst ((RT.run false n rs ((os.take i).map fun i : Nat => (i : Int))).2.map V.int)))
      ⟨D, none, none, none, none, rfl, t4, ne1, hD, g4, ?_, ?_, hps4, (s1.trans s4) _ _ g0, s4 _ _ g1⟩ (fun i σ H4 _ ⟨_, _, _, _, _, _, _, _, _, q, _⟩ => SqL.of q) ?_ ?_
    · intro z
      have := s1 _ _ g0
      rw [z, nD3] at this
      cases this
    · intro z
      rw [z, nD3] at g1
      cases g1
    · rintro i x σ H4 hx ⟨gp, x4, x5, x6, x7, rfl, s5, ne2, hgp, g5, n5, n6, hps5, hg, ht⟩
      rw [List.getElem?_map] at hx
      cases eo : os[i]? with
      | none => rw [eo] at hx; cases hx
      | some z =>
        rw [eo] at hx
        have hx : V.ref (ps.getD z 0) = x := Option.some.inj hx
        subst hx
        have hz := hos z (List.mem_of_getElem? eo)
        have ez : ps[z]? = some (ps.getD z 0) := by rw [List.getD_eq_getElem?_getD, List.getElem?_eq_getElem (by omega)]; rfl
        have hkz := hps5 z _ ez
        have hz' : 0 ≤ (z : Int) ∧ (z : Int) < rs.length := by omega
        have okp : RT.Okn rs ((os.take i).map fun i : Nat => (i : Int)) := fun j m => by
          obtain ⟨y, my, rfl⟩ := List.mem_map.mp m
          have := hos y (List.mem_of_mem_take my)
          omega
        have L := (RT.took (d := false) hv okp)
        have hlen2 := L.lb.len
        obtain ⟨p, hp1, hp2⟩ := ropes_at (hxs.mono s5) hz'.1 hz'.2
        obtain ⟨⟨v1, v2⟩, v3, v4⟩ := hv.at hz'
        have i1 := lab_at (g := (RT.run false n rs ((os.take i).map fun i : Nat => (i : Int))).1) v1 (by rw [hlen2]; exact v2)
        have i2 := lab_at (g := (RT.run false n rs ((os.take i).map fun i : Nat => (i : Int))).1) v3 (by rw [hlen2]; exact v4)
        have step : RT.run false n rs ((os.take (i + 1)).map fun i : Nat => (i : Int)) = RT.tstep false rs (RT.run false n rs ((os.take i).map fun i : Nat => (i : Int))) z := by
          rw [take_snoc eo, List.map_append]
          exact RT.run_snoc
        refine ⟨_, _, rfl, SqT.of hkz, rfl, _, _, rfl, ?_⟩
        refine ⟨_, _, rfl, ?_⟩
        refine ⟨rfl, ?_⟩
        try simp only [rv0,rvS,rC,rOp,rUn,rTest,rB,rBl,rI0i,rIi,rUi,rEqi,rNei,rEqb,rNeb,rNot,rAnd,rOr,rAndV,rOrV,rNotV,rIf,rSeq,rNext,rDrop,rRet,rRetN,rIfS,rAsg,rName,rNil,rCons,rCB,rBM,rCall,rTup,rLst,rSl,rNoPart,rPart,rInt,rChain,rComp,rIList,rITup,rIRng1,rK,rKn,rKc,rRaise,rIsN,rNotN,rBM0,rFld,rSFld,rMeth,rMake,rGSub,rIRngThree,rTryIf,rMCall,rMMeth,rTryR2,List.set_cons_zero,List.set_cons_succ,List.append_nil,capS,List.map_cons,List.map_nil,List.nil_append,List.cons_append,List.getD_cons_zero,List.getD_cons_succ]
        refine rd_list (s5 _ _ ha) hp1 (rd_tup hp2 rfl (rd_list hg i1 ?_))
        try simp only [rv0,rvS,rC,rOp,rUn,rTest,rB,rBl,rI0i,rIi,rUi,rEqi,rNei,rEqb,rNeb,rNot,rAnd,rOr,rAndV,rOrV,rNotV,rIf,rSeq,rNext,rDrop,rRet,rRetN,rIfS,rAsg,rName,rNil,rCons,rCB,rBM,rCall,rTup,rLst,rSl,rNoPart,rPart,rInt,rChain,rComp,rIList,rITup,rIRng1,rK,rKn,rKc,rRaise,rIsN,rNotN,rBM0,rFld,rSFld,rMeth,rMake,rGSub,rIRngThree,rTryIf,rMCall,rMMeth,rTryR2,List.set_cons_zero,List.set_cons_succ,List.append_nil,capS,List.map_cons,List.map_nil,List.nil_append,List.cons_append,List.getD_cons_zero,List.getD_cons_succ]
        refine rd_list (s5 _ _ ha) hp1 (rd_tup hp2 rfl (rd_list hg i2 ?_))
        try simp only [rv0,rvS,rC,rOp,rUn,rTest,rB,rBl,rI0i,rIi,rUi,rEqi,rNei,rEqb,rNeb,rNot,rAnd,rOr,rAndV,rOrV,rNotV,rIf,rSeq,rNext,rDrop,rRet,rRetN,rIfS,rAsg,rName,rNil,rCons,rCB,rBM,rCall,rTup,rLst,rSl,rNoPart,rPart,rInt,rChain,rComp,rIList,rITup,rIRng1,rK,rKn,rKc,rRaise,rIsN,rNotN,rBM0,rFld,rSFld,rMeth,rMake,rGSub,rIRngThree,rTryIf,rMCall,rMMeth,rTryR2,List.set_cons_zero,List.set_cons_succ,List.append_nil,capS,List.map_cons,List.map_nil,List.nil_append,List.cons_append,List.getD_cons_zero,List.getD_cons_succ]
        refine ite2 (fun c => ?_) (fun c => ?_)
        · have c : RT.lab (RT.run false n rs ((os.take i).map fun i : Nat => (i : Int))).1 (RT.rp rs z).1 ≠ RT.lab (RT.run false n rs ((os.take i).map fun i : Nat => (i : Int))).1 (RT.rp rs z).2.1 := by simpa using c
          try simp only [rv0,rvS,rC,rOp,rUn,rTest,rB,rBl,rI0i,rIi,rUi,rEqi,rNei,rEqb,rNeb,rNot,rAnd,rOr,rAndV,rOrV,rNotV,rIf,rSeq,rNext,rDrop,rRet,rRetN,rIfS,rAsg,rName,rNil,rCons,rCB,rBM,rCall,rTup,rLst,rSl,rNoPart,rPart,rInt,rChain,rComp,rIList,rITup,rIRng1,rK,rKn,rKc,rRaise,rIsN,rNotN,rBM0,rFld,rSFld,rMeth,rMake,rGSub,rIRngThree,rTryIf,rMCall,rMMeth,rTryR2,List.set_cons_zero,List.set_cons_succ,List.append_nil,capS,List.map_cons,List.map_nil,List.nil_append,List.cons_append,List.getD_cons_zero,List.getD_cons_succ]
          refine ⟨.inl ⟨rfl, _, SqL.of ht⟩, np, _, _, rfl, rfl, ht, ?_, ?_⟩
          · rw [List.length_map]
            have := L.sub.length_le
            rw [List.length_map, List.length_take] at this
            have := big1000
            omega
          generalize RT.run false n rs ((os.take i).map fun i : Nat => (i : Int)) = R at *
          have s7 : Same H (upd H4 np (.lst (R.2.map V.int ++ [.int z]))) := s5.upd_late hnp1
          have hg7 : upd H4 np (.lst (R.2.map V.int ++ [.int z])) gp = some (.lst (R.1.map V.int)) := by rw [upd_ne ne2]; exact hg
          have hn7 : upd H4 np (.lst (R.2.map V.int ++ [.int z])) np = some (.lst (R.2.map V.int ++ [.int z])) := upd_same
          have g7 : upd H4 np (.lst (R.2.map V.int ++ [.int z])) D3 = some (.lst (os.map fun i => V.ref (ps.getD i 0))) := by rw [upd_ne n6.symm]; exact g5
          have hps7 : ∀ (i : Nat) kp, ps[i]? = some kp → upd H4 np (.lst (R.2.map V.int ++ [.int z])) kp = some (.tup (([RT.cost rs i, (i : Int)] : List Int).map V.int)) := fun i kp e => by
            have := hps5 i kp e
            rw [upd_ne (fun q => by rw [q, ht] at this; cases this)]
            exact this
          generalize upd H4 np (.lst (R.2.map V.int ++ [.int z])) = H5 at s7 hg7 hn7 g7 hps7 ⊢
          try simp only [rv0,rvS,rC,rOp,rUn,rTest,rB,rBl,rI0i,rIi,rUi,rEqi,rNei,rEqb,rNeb,rNot,rAnd,rOr,rAndV,rOrV,rNotV,rIf,rSeq,rNext,rDrop,rRet,rRetN,rIfS,rAsg,rName,rNil,rCons,rCB,rBM,rCall,rTup,rLst,rSl,rNoPart,rPart,rInt,rChain,rComp,rIList,rITup,rIRng1,rK,rKn,rKc,rRaise,rIsN,rNotN,rBM0,rFld,rSFld,rMeth,rMake,rGSub,rIRngThree,rTryIf,rMCall,rMMeth,rTryR2,List.set_cons_zero,List.set_cons_succ,List.append_nil,capS,List.map_cons,List.map_nil,List.nil_append,List.cons_append,List.getD_cons_zero,List.getD_cons_succ]
          refine ⟨gp, rfl, ⟨_, SqL.of hg7⟩, fun D5 hD5 => ?_⟩
          refine comp_grow_list (fun x => if x = .int (RT.lab R.1 (RT.rp rs z).1) then .int (RT.lab R.1 (RT.rp rs z).2.1) else x) hg7 hD5 (by rw [List.length_map, hlen2]; exact hn) (fun x mx H' Q' _ q => ?_) (fun H' s8 hd8 => ?_)
          · obtain ⟨y, _, rfl⟩ := List.mem_map.mp mx
            try simp only [rv0,rvS,rC,rOp,rUn,rTest,rB,rBl,rI0i,rIi,rUi,rEqi,rNei,rEqb,rNeb,rNot,rAnd,rOr,rAndV,rOrV,rNotV,rIf,rSeq,rNext,rDrop,rRet,rRetN,rIfS,rAsg,rName,rNil,rCons,rCB,rBM,rCall,rTup,rLst,rSl,rNoPart,rPart,rInt,rChain,rComp,rIList,rITup,rIRng1,rK,rKn,rKc,rRaise,rIsN,rNotN,rBM0,rFld,rSFld,rMeth,rMake,rGSub,rIRngThree,rTryIf,rMCall,rMMeth,rTryR2,List.set_cons_zero,List.set_cons_succ,List.append_nil,capS,List.map_cons,List.map_nil,List.nil_append,List.cons_append,List.getD_cons_zero,List.getD_cons_succ]
            refine ⟨(show 2 ≤ sizeLine by decide), fun l hl => ?_⟩
            try simp only [rv0,rvS,rC,rOp,rUn,rTest,rB,rBl,rI0i,rIi,rUi,rEqi,rNei,rEqb,rNeb,rNot,rAnd,rOr,rAndV,rOrV,rNotV,rIf,rSeq,rNext,rDrop,rRet,rRetN,rIfS,rAsg,rName,rNil,rCons,rCB,rBM,rCall,rTup,rLst,rSl,rNoPart,rPart,rInt,rChain,rComp,rIList,rITup,rIRng1,rK,rKn,rKc,rRaise,rIsN,rNotN,rBM0,rFld,rSFld,rMeth,rMake,rGSub,rIRngThree,rTryIf,rMCall,rMMeth,rTryR2,List.set_cons_zero,List.set_cons_succ,List.append_nil,capS,List.map_cons,List.map_nil,List.nil_append,List.cons_append,List.getD_cons_zero,List.getD_cons_succ]
            refine .inr ⟨_, rfl, ?_⟩
            by_cases e : y = RT.lab R.1 (RT.rp rs z).1
            · refine rd_list upd_same (v := .int (RT.lab R.1 (RT.rp rs z).2.1)) (by rw [decide_eq_true e]; rfl) ?_
              have q := q _ (Same.upd_new (o := .lst [.int y, .int (RT.lab R.1 (RT.rp rs z).2.1)]) hl)
              rw [if_pos (by rw [e])] at q
              exact q
            · refine rd_list upd_same (v := .int y) (by rw [decide_eq_false e]; rfl) ?_
              have q := q _ (Same.upd_new (o := .lst [.int y, .int (RT.lab R.1 (RT.rp rs z).2.1)]) hl)
              rw [if_neg (fun z => e (by injection z))] at q
              exact q
          · try simp only [rv0,rvS,rC,rOp,rUn,rTest,rB,rBl,rI0i,rIi,rUi,rEqi,rNei,rEqb,rNeb,rNot,rAnd,rOr,rAndV,rOrV,rNotV,rIf,rSeq,rNext,rDrop,rRet,rRetN,rIfS,rAsg,rName,rNil,rCons,rCB,rBM,rCall,rTup,rLst,rSl,rNoPart,rPart,rInt,rChain,rComp,rIList,rITup,rIRng1,rK,rKn,rKc,rRaise,rIsN,rNotN,rBM0,rFld,rSFld,rMeth,rMake,rGSub,rIRngThree,rTryIf,rMCall,rMMeth,rTryR2,List.set_cons_zero,List.set_cons_succ,List.append_nil,capS,List.map_cons,List.map_nil,List.nil_append,List.cons_append,List.getD_cons_zero,List.getD_cons_succ]
            refine ⟨D5, _, _, _, _, rfl, s7.trans s8, (fun q => by rw [q, hn7] at hD5; cases hD5), s7.free hD5, s8 _ _ g7, (fun q => by rw [q, g7] at hD5; cases hD5), n6, fun i kp e => s8 _ _ (hps7 i kp e), ?_, ?_⟩
            · rw [hd8, step]
              unfold RT.tstep
              rw [if_pos c]
              congr 2
              exact relab_map _ _ _
            · rw [s8 _ _ hn7, step]
              unfold RT.tstep
              rw [if_pos c, List.map_append]
              rfl
        · have c : ¬ RT.lab (RT.run false n rs ((os.take i).map fun i : Nat => (i : Int))).1 (RT.rp rs z).1 ≠ RT.lab (RT.run false n rs ((os.take i).map fun i : Nat => (i : Int))).1 (RT.rp rs z).2.1 := by simpa using c
          try simp only [rv0,rvS,rC,rOp,rUn,rTest,rB,rBl,rI0i,rIi,rUi,rEqi,rNei,rEqb,rNeb,rNot,rAnd,rOr,rAndV,rOrV,rNotV,rIf,rSeq,rNext,rDrop,rRet,rRetN,rIfS,rAsg,rName,rNil,rCons,rCB,rBM,rCall,rTup,rLst,rSl,rNoPart,rPart,rInt,rChain,rComp,rIList,rITup,rIRng1,rK,rKn,rKc,rRaise,rIsN,rNotN,rBM0,rFld,rSFld,rMeth,rMake,rGSub,rIRngThree,rTryIf,rMCall,rMMeth,rTryR2,List.set_cons_zero,List.set_cons_succ,List.append_nil,capS,List.map_cons,List.map_nil,List.nil_append,List.cons_append,List.getD_cons_zero,List.getD_cons_succ]
          refine ⟨gp, _, _, _, _, rfl, s5, ne2, hgp, g5, n5, n6, hps5, ?_, ?_⟩
          · rw [step]; unfold RT.tstep; rw [if_neg c]; exact hg
          · rw [step]; unfold RT.tstep; rw [if_neg c]; exact ht
    · rintro σ H4 ⟨gp, x4, x5, x6, x7, rfl, s5, ne2, hgp, g5, n5, n6, hps5, hg, ht⟩
      try simp only [rv0,rvS,rC,rOp,rUn,rTest,rB,rBl,rI0i,rIi,rUi,rEqi,rNei,rEqb,rNeb,rNot,rAnd,rOr,rAndV,rOrV,rNotV,rIf,rSeq,rNext,rDrop,rRet,rRetN,rIfS,rAsg,rName,rNil,rCons,rCB,rBM,rCall,rTup,rLst,rSl,rNoPart,rPart,rInt,rChain,rComp,rIList,rITup,rIRng1,rK,rKn,rKc,rRaise,rIsN,rNotN,rBM0,rFld,rSFld,rMeth,rMake,rGSub,rIRngThree,rTryIf,rMCall,rMMeth,rTryR2,List.set_cons_zero,List.set_cons_succ,List.append_nil,capS,List.map_cons,List.map_nil,List.nil_append,List.cons_append,List.getD_cons_zero,List.getD_cons_succ]
      rw [List.length_map, List.take_length] at ht
      have lt := (RT.take_sub (d := false) hv O.okn).length_le
      rw [List.length_map] at lt
      refine ⟨np, _, rfl, ht, ?_, fun D6 ns' p1 p2 n7 => ?_⟩
      · unfold RT.take at lt
        omega
      exact k D6 _ ns' (s5.trans (Same.upd_new n7)) (s5.free n7) (RT.least_of_take hv O p1 p2) upd_same
end
end My
namespace My
open PySem L2
section
variable {P : Program} {w : World} {K : PySem.W.Frag} {mg : Str → Option Value} {base : Heap} {A : Ad}
theorem flat_deeds : ∀ ds : List Deed, flatAll (ds.map deedD) = true
  | [] => rfl
  | d :: ds => by rw [List.map_cons, flatAll, flat_deeds ds]; cases d <;> simp [deedD, flatD, flatAll]
theorem deeds_grow {H : Hp} {ap q : Addr} {ds : List Deed} {d : Deed} {xs : List V} (ha : H ap = some (.lst xs)) (h : Reps H (ds.map deedD) xs) (hq : Rep H (deedD d) (.ref q)) : Reps (upd H ap (.lst (xs ++ [.ref q]))) ((ds ++ [d]).map deedD) (xs ++ [.ref q]) := by
  have kp : ∀ p zs, H p = some (.tup zs) → upd H ap (.lst (xs ++ [.ref q])) p = some (.tup zs) := fun p zs e => by
    rw [upd_ne (ne_of e ha (by intro z; cases z))]; exact e
  rw [List.map_append]
  exact (Reps.keep kp (flat_deeds ds) h).append (reps_cc.mpr ⟨Rep.keep kp (by cases d <;> simp [deedD, flatD, flatAll]) hq, reps_nil.mpr rfl⟩)
noncomputable def sp__law_deeds : Sp := fun vs H Q _ => ∃ (a : Addr) (n : Nat) (cs : List Int), vs = [.ref a, .int n] ∧ H a = some (.lst (cs.map V.int)) ∧ cs.length ≤ 100 ∧
  ∀ (D : Addr) (ds : List Deed) (H' : Hp), Same H H' → ds.length ≤ cs.length + 1 → Rep H' (.list (ds.map deedD)) (.ref D) → Q (.ref D) H'
noncomputable def DeedsP (H : Hp) (a ap : Addr) (n : Nat) (i : Nat) (σ : St) (H2 : Hp) : Prop := ∃ (ds : List Deed) (xs : List V) (ld : Int) (x4 x5 x6 x7 x8 x9 x10 : Option V), σ = [some (.ref a), some (.int n), some (.ref ap), some (.int ld), x4, x5, x6, x7, x8, x9, x10] ∧ 0 ≤ ld ∧ Same H H2 ∧ ds.length = i ∧ H2 ap = some (.lst xs) ∧ Reps H2 (ds.map deedD) xs
theorem ok__law_deeds (T : Txt K mg A) : FnOk P w K mg base CX0 1 A.a__law_deeds A.d__law_deeds ["_law_cells", "_law_count"] sp__law_deeds := by
  refine T.f__law_deeds.ok sc__law_deeds (fun vs H Q E h => ?_) (fun cdv A' outer s H vs Q E hr h => ?_)
  · obtain ⟨a, n, cs, rfl, _⟩ := h
    rfl
  · obtain ⟨a, n, cs, rfl, ha, hl, k⟩ := h
    have big := big1000
    refine ⟨_, (pss_cons (ps_set (i := 2) sc__law_deeds.nd rfl (Or.inl rfl) (pe_lst pa_nil))
      (pss_cons (ps_set (i := 3) sc__law_deeds.nd rfl (Or.inl rfl) pe_int)
      (pss_cons (ps_for PassesOwn.never rfl (pi_rangeThree rfl T.z_range (pa_cons pe_int (pa_cons (pe_op op_sub (pe_callB call_len_seq rfl T.z_len bo_len (pa_cons (pv 0) pa_nil)) pe_int) (pa_cons pe_int pa_nil)))) (pg_name (i := 4) sc__law_deeds.nd rfl (Or.inl rfl))
      (pss_cons (ps_set (i := 5) sc__law_deeds.nd rfl (Or.inl rfl) (pe_op op_sub (pe_op op_mod (pe_ix ix_list (pv 0) (pe_op op_add (pv 4) pe_int) (fun _ _ => rfl)) pe_int) pe_int))
      (pss_cons (ps_cut (ps_if (pt_cmpR op_eq (pe_op op_mod (pe_ix ix_list (pv 0) (pe_op op_add (pv 4) pe_int) (fun _ _ => rfl)) pe_int) pe_int (nomark _)) (pss_one (ps_set (i := 5) sc__law_deeds.nd rfl (Or.inl rfl) (pe_ix ix_list (pe_lst (pa_cons (pe_op op_pow pe_int pe_int) (pa_cons (pe_un un_neg (pe_op op_pow pe_int pe_int)) (pa_cons (pe_op op_mod (pe_ix ix_list (pv 0) (pe_op op_add (pv 4) pe_int) (fun _ _ => rfl)) (pe_op op_pow pe_int pe_int)) pa_nil)))) (pe_op op_mod (pe_op op_fdiv (pv 4) pe_int) pe_int) (fun _ _ => rfl)))) pss_nil))
      (pss_one (ps_cut (ps_if (pt_cmpR op_lt (pe_op op_mod (pe_ix ix_list (pv 0) (pv 4) (fun _ _ => rfl)) pe_int) pe_int (nomark _)) (pss_cons (ps_set (i := 6) sc__law_deeds.nd rfl (Or.inl rfl) (pe_op op_mod (pe_op op_add (pe_ix ix_list (pv 0) (pe_op op_add (pv 4) pe_int) (fun _ _ => rfl)) (pv 4)) (pe_callB (call_max2 rfl) rfl T.z_max bo_max (pa_cons pe_int (pa_cons (pv 1) pa_nil)))))
      (pss_cons (ps_cut (ps_set (i := 7) sc__law_deeds.nd rfl (Or.inl rfl) (pe_ix ix_list (pe_lst (pa_cons pe_int (pa_cons (pe_callB (call_max2 rfl) rfl T.z_max bo_max (pa_cons pe_int (pa_cons (pe_op op_sub (pv 1) pe_int) pa_nil))) pa_nil))) (pe_op op_mod (pe_op op_fdiv (pv 4) pe_int) pe_int) (fun _ _ => rfl))))
      (pss_cons (ps_set (i := 8) sc__law_deeds.nd rfl (Or.inl rfl) (pe_op op_mod (pe_op op_add (pe_op op_add (pv 6) pe_int) (pe_op op_mod (pe_ix ix_list (pv 0) (pe_op op_add (pv 4) pe_int) (fun _ _ => rfl)) (pv 7))) (pe_callB (call_max2 rfl) rfl T.z_max bo_max (pa_cons pe_int (pa_cons (pv 1) pa_nil)))))
      (pss_cons (ps_cut (ps_set (i := 9) sc__law_deeds.nd rfl (Or.inl rfl) (pe_ix ix_list (pe_lst (pa_cons (pe_un un_neg pe_int) (pa_cons (pv 1) (pa_cons (pe_op op_pow pe_int pe_int) (pa_cons (pe_un un_neg pe_int) (pa_cons (pe_op op_sub pe_int (pv 1)) (pa_cons (pe_un un_neg (pe_op op_pow pe_int pe_int)) pa_nil))))))) (pe_op op_mod (pe_ix ix_list (pv 0) (pv 4) (fun _ _ => rfl)) pe_int) (fun _ _ => rfl))))
      (pss_cons (ps_cut (ps_if (PW.pt (pw_and (pt_cmpR op_eq (pe_op op_mod (pe_ix ix_list (pv 0) (pe_op op_add (pv 4) pe_int) (fun _ _ => rfl)) pe_int) pe_int (nomark _)) (pw_and1 (pt_cmpR op_eq (pe_op op_mod (pv 4) pe_int) pe_int (nomark _))))) (pss_one (ps_set (i := 6) sc__law_deeds.nd rfl (Or.inl rfl) (pv 9))) (pss_one (ps_cut (ps_if (pt_cmpR op_eq (pe_op op_mod (pe_ix ix_list (pv 0) (pe_op op_add (pv 4) pe_int) (fun _ _ => rfl)) pe_int) pe_int (nomark _)) (pss_one (ps_set (i := 8) sc__law_deeds.nd rfl (Or.inl rfl) (pv 9))) pss_nil)))))
      (pss_cons (ps_expr (pe_bm PySem.F.plainAttrs_list PySem.F.slot_list_append PySem.F.type_list_append mt_append (pv 2) (pa_cons (pe_tup (pa_cons pe_str (pa_cons (pv 6) (pa_cons (pv 8) (pa_cons (pv 5) pa_nil))))) pa_nil)))
      (pss_one (ps_set (i := 3) sc__law_deeds.nd rfl (Or.inl rfl) (pe_op op_add (pv 3) (pe_callTy call_int1 rfl T.z_int bo_int (pa_cons (pe_and (pe_chain op_le op_lt pe_int (pv 8) (pv 1)) (pe_one (pe_chain op_le op_lt pe_int (pv 6) (pv 1)))) pa_nil))))))))))) (pss_one (ps_cut (ps_if (pt_cmpR op_lt (pe_op op_mod (pe_ix ix_list (pv 0) (pv 4) (fun _ _ => rfl)) pe_int) pe_int (nomark _)) (pss_cons (ps_set (i := 10) sc__law_deeds.nd rfl (Or.inl rfl) (pe_op op_sub (pe_op op_mod (pe_ix ix_list (pv 0) (pe_op op_add (pv 4) pe_int) (fun _ _ => rfl)) (pe_op op_add (pv 3) pe_int)) pe_int))
      (pss_cons (ps_cut (ps_if (pt_cmpR op_eq (pe_op op_mod (pe_ix ix_list (pv 0) (pe_op op_add (pv 4) pe_int) (fun _ _ => rfl)) pe_int) pe_int (nomark _)) (pss_one (ps_set (i := 10) sc__law_deeds.nd rfl (Or.inl rfl) (pe_op op_pow pe_int pe_int))) pss_nil))
      (pss_one (ps_expr (pe_bm PySem.F.plainAttrs_list PySem.F.slot_list_append PySem.F.type_list_append mt_append (pv 2) (pa_cons (pe_tup (pa_cons pe_str (pa_cons (pv 10) (pa_cons (pv 5) pa_nil)))) pa_nil)))))) (pss_one (ps_expr (pe_bm PySem.F.plainAttrs_list PySem.F.slot_list_append PySem.F.type_list_append mt_append (pv 2) (pa_cons (pe_tup (pa_cons pe_str pa_nil)) pa_nil)))))))))))))
      (pss_one (ps_ret (pe_op op_cat (pv 2) (pe_lst (pa_cons (pe_tup (pa_cons pe_str pa_nil)) pa_nil)))))))), ?_⟩
    rw [show start ["_law_cells", "_law_count", "_law_asked", "_law_laid", "_law_k", "_law_cost", "_law_one", "_law_hop", "_law_other", "_law_strange", "_law_number"] [.ref a, .int n] = [some (.ref a), some (.int n), none, none, none, none, none, none, none, none, none] from rfl]
    try simp only [rv0,rvS,rC,rOp,rUn,rTest,rB,rBl,rI0i,rIi,rUi,rEqi,rNei,rEqb,rNeb,rNot,rAnd,rOr,rAndV,rOrV,rNotV,rIf,rSeq,rNext,rDrop,rRet,rRetN,rIfS,rAsg,rName,rNil,rCons,rCB,rBM,rCall,rTup,rLst,rSl,rNoPart,rPart,rInt,rChain,rComp,rIList,rITup,rIRng1,rK,rKn,rKc,rRaise,rIsN,rNotN,rBM0,rFld,rSFld,rMeth,rMake,rGSub,rIRngThree,rTryIf,rMCall,rMMeth,rTryR2,List.set_cons_zero,List.set_cons_succ,List.append_nil,capS,List.map_cons,List.map_nil,List.nil_append,List.cons_append,List.getD_cons_zero,List.getD_cons_succ]
    refine ⟨Nat.zero_le _, fun ap nap => ?_⟩
    have s0 := Same.upd_new (o := .lst []) nap
    have g0 : upd H ap (.lst []) ap = some (.lst []) := upd_same
    generalize upd H ap (.lst []) = H0 at s0 g0 ⊢
    try simp only [rv0,rvS,rC,rOp,rUn,rTest,rB,rBl,rI0i,rIi,rUi,rEqi,rNei,rEqb,rNeb,rNot,rAnd,rOr,rAndV,rOrV,rNotV,rIf,rSeq,rNext,rDrop,rRet,rRetN,rIfS,rAsg,rName,rNil,rCons,rCB,rBM,rCall,rTup,rLst,rSl,rNoPart,rPart,rInt,rChain,rComp,rIList,rITup,rIRng1,rK,rKn,rKc,rRaise,rIsN,rNotN,rBM0,rFld,rSFld,rMeth,rMake,rGSub,rIRngThree,rTryIf,rMCall,rMMeth,rTryR2,List.set_cons_zero,List.set_cons_succ,List.append_nil,capS,List.map_cons,List.map_nil,List.nil_append,List.cons_append,List.getD_cons_zero,List.getD_cons_succ]
    refine ⟨_, rfl, a, _, rfl, .inl (SqL.of (s0 _ _ ha)), _, _, rfl, rfl, _, rfl, ⟨by rw [List.length_map]; omega, by rw [List.length_map]; omega⟩, for_rangeC (lo := 0) (c := 3) (DeedsP H a ap n) ⟨[], [], 0, none, none, none, none, none, none, none, rfl, by omega, s0, rfl, g0, reps_nil.mpr rfl⟩ ?_ ?_⟩
    · rintro i σ H2 hi ⟨ds, xs, ld, x4, x5, x6, x7, x8, x9, x10, rfl, hld, s2, hi2, hap, hxs⟩
      rw [List.length_map] at hi
      have hk0 : (0 : Int) ≤ 0 + i * 3 := by omega
      have i0 := cell_at (ns := cs) hk0 (by omega)
      have i1 := cell_at (ns := cs) (i := (0 : Int) + i * 3 + 1) (by omega) (by omega)
      have i2 := cell_at (ns := cs) (i := (0 : Int) + i * 3 + 2) (by omega) (by omega)
      generalize cs.getD ((0 : Int) + i * 3).toNat 0 = c0 at i0
      generalize cs.getD ((0 : Int) + i * 3 + 1).toNat 0 = c1 at i1
      generalize cs.getD ((0 : Int) + i * 3 + 2).toNat 0 = c2 at i2
      have ha2 := s2 _ _ ha
      generalize (0 : Int) + i * 3 = kk at hk0 i0 i1 i2 ⊢
      try simp only [rv0,rvS,rC,rOp,rUn,rTest,rB,rBl,rI0i,rIi,rUi,rEqi,rNei,rEqb,rNeb,rNot,rAnd,rOr,rAndV,rOrV,rNotV,rIf,rSeq,rNext,rDrop,rRet,rRetN,rIfS,rAsg,rName,rNil,rCons,rCB,rBM,rCall,rTup,rLst,rSl,rNoPart,rPart,rInt,rChain,rComp,rIList,rITup,rIRng1,rK,rKn,rKc,rRaise,rIsN,rNotN,rBM0,rFld,rSFld,rMeth,rMake,rGSub,rIRngThree,rTryIf,rMCall,rMMeth,rTryR2,List.set_cons_zero,List.set_cons_succ,List.append_nil,capS,List.map_cons,List.map_nil,List.nil_append,List.cons_append,List.getD_cons_zero,List.getD_cons_succ]
      refine rd_list ha2 i1 ?_
      try simp only [rv0,rvS,rC,rOp,rUn,rTest,rB,rBl,rI0i,rIi,rUi,rEqi,rNei,rEqb,rNeb,rNot,rAnd,rOr,rAndV,rOrV,rNotV,rIf,rSeq,rNext,rDrop,rRet,rRetN,rIfS,rAsg,rName,rNil,rCons,rCB,rBM,rCall,rTup,rLst,rSl,rNoPart,rPart,rInt,rChain,rComp,rIList,rITup,rIRng1,rK,rKn,rKc,rRaise,rIsN,rNotN,rBM0,rFld,rSFld,rMeth,rMake,rGSub,rIRngThree,rTryIf,rMCall,rMMeth,rTryR2,List.set_cons_zero,List.set_cons_succ,List.append_nil,capS,List.map_cons,List.map_nil,List.nil_append,List.cons_append,List.getD_cons_zero,List.getD_cons_succ]
      have mx : 0 < (if (n : Int) > 1 then (n : Int) else 1) := by split <;> omega
      refine ⟨by decide, ?_⟩
      refine ⟨fun σ' H' => ∃ co : Int, σ' = [some (.ref a), some (.int n), some (.ref ap), some (.int ld), some (.int kk), some (.int co), x6, x7, x8, x9, x10] ∧ Same H2 H', ?_, ?_⟩
      · try simp only [rv0,rvS,rC,rOp,rUn,rTest,rB,rBl,rI0i,rIi,rUi,rEqi,rNei,rEqb,rNeb,rNot,rAnd,rOr,rAndV,rOrV,rNotV,rIf,rSeq,rNext,rDrop,rRet,rRetN,rIfS,rAsg,rName,rNil,rCons,rCB,rBM,rCall,rTup,rLst,rSl,rNoPart,rPart,rInt,rChain,rComp,rIList,rITup,rIRng1,rK,rKn,rKc,rRaise,rIsN,rNotN,rBM0,rFld,rSFld,rMeth,rMake,rGSub,rIRngThree,rTryIf,rMCall,rMMeth,rTryR2,List.set_cons_zero,List.set_cons_succ,List.append_nil,capS,List.map_cons,List.map_nil,List.nil_append,List.cons_append,List.getD_cons_zero,List.getD_cons_succ]
        refine rd_list ha2 i2 ?_
        try simp only [rv0,rvS,rC,rOp,rUn,rTest,rB,rBl,rI0i,rIi,rUi,rEqi,rNei,rEqb,rNeb,rNot,rAnd,rOr,rAndV,rOrV,rNotV,rIf,rSeq,rNext,rDrop,rRet,rRetN,rIfS,rAsg,rName,rNil,rCons,rCB,rBM,rCall,rTup,rLst,rSl,rNoPart,rPart,rInt,rChain,rComp,rIList,rITup,rIRng1,rK,rKn,rKc,rRaise,rIsN,rNotN,rBM0,rFld,rSFld,rMeth,rMake,rGSub,rIRngThree,rTryIf,rMCall,rMMeth,rTryR2,List.set_cons_zero,List.set_cons_succ,List.append_nil,capS,List.map_cons,List.map_nil,List.nil_append,List.cons_append,List.getD_cons_zero,List.getD_cons_succ]
        refine ⟨by decide, ite2 (fun _ => ?_) (fun _ => ⟨_, rfl, Same.refl _⟩)⟩
        try simp only [rv0,rvS,rC,rOp,rUn,rTest,rB,rBl,rI0i,rIi,rUi,rEqi,rNei,rEqb,rNeb,rNot,rAnd,rOr,rAndV,rOrV,rNotV,rIf,rSeq,rNext,rDrop,rRet,rRetN,rIfS,rAsg,rName,rNil,rCons,rCB,rBM,rCall,rTup,rLst,rSl,rNoPart,rPart,rInt,rChain,rComp,rIList,rITup,rIRng1,rK,rKn,rKc,rRaise,rIsN,rNotN,rBM0,rFld,rSFld,rMeth,rMake,rGSub,rIRngThree,rTryIf,rMCall,rMMeth,rTryR2,List.set_cons_zero,List.set_cons_succ,List.append_nil,capS,List.map_cons,List.map_nil,List.nil_append,List.cons_append,List.getD_cons_zero,List.getD_cons_succ]
        refine ⟨⟨by decide, by decide, by decide⟩, ⟨by decide, by decide, by decide⟩, rd_list ha2 i1 ?_⟩
        try simp only [rv0,rvS,rC,rOp,rUn,rTest,rB,rBl,rI0i,rIi,rUi,rEqi,rNei,rEqb,rNeb,rNot,rAnd,rOr,rAndV,rOrV,rNotV,rIf,rSeq,rNext,rDrop,rRet,rRetN,rIfS,rAsg,rName,rNil,rCons,rCB,rBM,rCall,rTup,rLst,rSl,rNoPart,rPart,rInt,rChain,rComp,rIList,rITup,rIRng1,rK,rKn,rKc,rRaise,rIsN,rNotN,rBM0,rFld,rSFld,rMeth,rMake,rGSub,rIRngThree,rTryIf,rMCall,rMMeth,rTryR2,List.set_cons_zero,List.set_cons_succ,List.append_nil,capS,List.map_cons,List.map_nil,List.nil_append,List.cons_append,List.getD_cons_zero,List.getD_cons_succ]
        refine ⟨⟨by decide, by decide, by decide⟩, by decide, show 3 ≤ sizeLine by decide, fun l2 hl2 => ?_⟩
        refine ⟨⟨by decide, by decide⟩, by decide, ?_⟩
        obtain ⟨fr, _, ef⟩ := pick_at (ns := [10 ^ (20 : Int).toNat, -10 ^ (20 : Int).toNat, c1 % 10 ^ (30 : Int).toNat]) (i := kk / 3 % 3) (by omega) (by simp; omega)
        refine rd_list upd_same ef ?_
        exact ⟨fr, rfl, Same.upd_new hl2⟩
      rintro σ' H3 ⟨co, rfl, s3⟩
      have t3 := s2.trans s3
      have ha3 := s3 _ _ ha2
      have hap3 := s3 _ _ hap
      have hxs3 := hxs.mono s3
      have lxs : xs.length = ds.length := by have := hxs.length; rw [List.length_map] at this; exact this.symm
      clear s2 s3 ha2 hap hxs x5
      try simp only [rv0,rvS,rC,rOp,rUn,rTest,rB,rBl,rI0i,rIi,rUi,rEqi,rNei,rEqb,rNeb,rNot,rAnd,rOr,rAndV,rOrV,rNotV,rIf,rSeq,rNext,rDrop,rRet,rRetN,rIfS,rAsg,rName,rNil,rCons,rCB,rBM,rCall,rTup,rLst,rSl,rNoPart,rPart,rInt,rChain,rComp,rIList,rITup,rIRng1,rK,rKn,rKc,rRaise,rIsN,rNotN,rBM0,rFld,rSFld,rMeth,rMake,rGSub,rIRngThree,rTryIf,rMCall,rMMeth,rTryR2,List.set_cons_zero,List.set_cons_succ,List.append_nil,capS,List.map_cons,List.map_nil,List.nil_append,List.cons_append,List.getD_cons_zero,List.getD_cons_succ]
      refine ⟨DeedsP H a ap n (i + 1), ?_, fun _ _ z => z⟩
      try simp only [rv0,rvS,rC,rOp,rUn,rTest,rB,rBl,rI0i,rIi,rUi,rEqi,rNei,rEqb,rNeb,rNot,rAnd,rOr,rAndV,rOrV,rNotV,rIf,rSeq,rNext,rDrop,rRet,rRetN,rIfS,rAsg,rName,rNil,rCons,rCB,rBM,rCall,rTup,rLst,rSl,rNoPart,rPart,rInt,rChain,rComp,rIList,rITup,rIRng1,rK,rKn,rKc,rRaise,rIsN,rNotN,rBM0,rFld,rSFld,rMeth,rMake,rGSub,rIRngThree,rTryIf,rMCall,rMMeth,rTryR2,List.set_cons_zero,List.set_cons_succ,List.append_nil,capS,List.map_cons,List.map_nil,List.nil_append,List.cons_append,List.getD_cons_zero,List.getD_cons_succ]
      refine rd_list ha3 i0 ?_
      try simp only [rv0,rvS,rC,rOp,rUn,rTest,rB,rBl,rI0i,rIi,rUi,rEqi,rNei,rEqb,rNeb,rNot,rAnd,rOr,rAndV,rOrV,rNotV,rIf,rSeq,rNext,rDrop,rRet,rRetN,rIfS,rAsg,rName,rNil,rCons,rCB,rBM,rCall,rTup,rLst,rSl,rNoPart,rPart,rInt,rChain,rComp,rIList,rITup,rIRng1,rK,rKn,rKc,rRaise,rIsN,rNotN,rBM0,rFld,rSFld,rMeth,rMake,rGSub,rIRngThree,rTryIf,rMCall,rMMeth,rTryR2,List.set_cons_zero,List.set_cons_succ,List.append_nil,capS,List.map_cons,List.map_nil,List.nil_append,List.cons_append,List.getD_cons_zero,List.getD_cons_succ]
      refine ⟨by decide, ite2 (fun _ => ?_) (fun _ => ?_)⟩
      · try simp only [rv0,rvS,rC,rOp,rUn,rTest,rB,rBl,rI0i,rIi,rUi,rEqi,rNei,rEqb,rNeb,rNot,rAnd,rOr,rAndV,rOrV,rNotV,rIf,rSeq,rNext,rDrop,rRet,rRetN,rIfS,rAsg,rName,rNil,rCons,rCB,rBM,rCall,rTup,rLst,rSl,rNoPart,rPart,rInt,rChain,rComp,rIList,rITup,rIRng1,rK,rKn,rKc,rRaise,rIsN,rNotN,rBM0,rFld,rSFld,rMeth,rMake,rGSub,rIRngThree,rTryIf,rMCall,rMMeth,rTryR2,List.set_cons_zero,List.set_cons_succ,List.append_nil,capS,List.map_cons,List.map_nil,List.nil_append,List.cons_append,List.getD_cons_zero,List.getD_cons_succ]
        refine rd_list ha3 i2 ?_
        try simp only [rv0,rvS,rC,rOp,rUn,rTest,rB,rBl,rI0i,rIi,rUi,rEqi,rNei,rEqb,rNeb,rNot,rAnd,rOr,rAndV,rOrV,rNotV,rIf,rSeq,rNext,rDrop,rRet,rRetN,rIfS,rAsg,rName,rNil,rCons,rCB,rBM,rCall,rTup,rLst,rSl,rNoPart,rPart,rInt,rChain,rComp,rIList,rITup,rIRng1,rK,rKn,rKc,rRaise,rIsN,rNotN,rBM0,rFld,rSFld,rMeth,rMake,rGSub,rIRngThree,rTryIf,rMCall,rMMeth,rTryR2,List.set_cons_zero,List.set_cons_succ,List.append_nil,capS,List.map_cons,List.map_nil,List.nil_append,List.cons_append,List.getD_cons_zero,List.getD_cons_succ]
        refine ⟨1, (n : Int), rfl, mx, ?_⟩
        generalize (c2 + kk) % (if (n : Int) > 1 then (n : Int) else 1) = one
        refine ⟨fun σ' H' => ∃ hp : Int, 0 < hp ∧ σ' = [some (.ref a), some (.int n), some (.ref ap), some (.int ld), some (.int kk), some (.int co), some (.int one), some (.int hp), x8, x9, x10] ∧ Same H3 H', ?_, ?_⟩
        · try simp only [rv0,rvS,rC,rOp,rUn,rTest,rB,rBl,rI0i,rIi,rUi,rEqi,rNei,rEqb,rNeb,rNot,rAnd,rOr,rAndV,rOrV,rNotV,rIf,rSeq,rNext,rDrop,rRet,rRetN,rIfS,rAsg,rName,rNil,rCons,rCB,rBM,rCall,rTup,rLst,rSl,rNoPart,rPart,rInt,rChain,rComp,rIList,rITup,rIRng1,rK,rKn,rKc,rRaise,rIsN,rNotN,rBM0,rFld,rSFld,rMeth,rMake,rGSub,rIRngThree,rTryIf,rMCall,rMMeth,rTryR2,List.set_cons_zero,List.set_cons_succ,List.append_nil,capS,List.map_cons,List.map_nil,List.nil_append,List.cons_append,List.getD_cons_zero,List.getD_cons_succ]
          refine ⟨1, (n : Int) - 1, rfl, show 2 ≤ sizeLine by decide, fun l3 hl3 => ⟨⟨by decide, by decide⟩, by decide, ?_⟩⟩
          obtain ⟨hp, mh, eh⟩ := pick_at (ns := [3, if (n : Int) - 1 > 1 then (n : Int) - 1 else 1]) (i := kk / 3 % 2) (by omega) (by simp; omega)
          have hh : 0 < hp := by
            rcases List.mem_cons.mp mh with e | e
            · omega
            · rw [List.mem_singleton.mp e]
              split <;> omega
          refine rd_list upd_same eh ?_
          exact ⟨hp, hh, rfl, Same.upd_new hl3⟩
        rintro σ' H4 ⟨hp, hhp, rfl, s4⟩
        have t4 := t3.trans s4
        have ha4 := s4 _ _ ha3
        have hap4 := s4 _ _ hap3
        have hxs4 := hxs3.mono s4
        try simp only [rv0,rvS,rC,rOp,rUn,rTest,rB,rBl,rI0i,rIi,rUi,rEqi,rNei,rEqb,rNeb,rNot,rAnd,rOr,rAndV,rOrV,rNotV,rIf,rSeq,rNext,rDrop,rRet,rRetN,rIfS,rAsg,rName,rNil,rCons,rCB,rBM,rCall,rTup,rLst,rSl,rNoPart,rPart,rInt,rChain,rComp,rIList,rITup,rIRng1,rK,rKn,rKc,rRaise,rIsN,rNotN,rBM0,rFld,rSFld,rMeth,rMake,rGSub,rIRngThree,rTryIf,rMCall,rMMeth,rTryR2,List.set_cons_zero,List.set_cons_succ,List.append_nil,capS,List.map_cons,List.map_nil,List.nil_append,List.cons_append,List.getD_cons_zero,List.getD_cons_succ]
        refine rd_list ha4 i1 ?_
        try simp only [rv0,rvS,rC,rOp,rUn,rTest,rB,rBl,rI0i,rIi,rUi,rEqi,rNei,rEqb,rNeb,rNot,rAnd,rOr,rAndV,rOrV,rNotV,rIf,rSeq,rNext,rDrop,rRet,rRetN,rIfS,rAsg,rName,rNil,rCons,rCB,rBM,rCall,rTup,rLst,rSl,rNoPart,rPart,rInt,rChain,rComp,rIList,rITup,rIRng1,rK,rKn,rKc,rRaise,rIsN,rNotN,rBM0,rFld,rSFld,rMeth,rMake,rGSub,rIRngThree,rTryIf,rMCall,rMMeth,rTryR2,List.set_cons_zero,List.set_cons_succ,List.append_nil,capS,List.map_cons,List.map_nil,List.nil_append,List.cons_append,List.getD_cons_zero,List.getD_cons_succ]
        refine ⟨hhp, 1, (n : Int), rfl, mx, ?_⟩
        generalize (one + 1 + c1 % hp) % (if (n : Int) > 1 then (n : Int) else 1) = other
        refine ⟨fun σ' H' => ∃ st : Int, σ' = [some (.ref a), some (.int n), some (.ref ap), some (.int ld), some (.int kk), some (.int co), some (.int one), some (.int hp), some (.int other), some (.int st), x10] ∧ Same H4 H', ?_, ?_⟩
        · try simp only [rv0,rvS,rC,rOp,rUn,rTest,rB,rBl,rI0i,rIi,rUi,rEqi,rNei,rEqb,rNeb,rNot,rAnd,rOr,rAndV,rOrV,rNotV,rIf,rSeq,rNext,rDrop,rRet,rRetN,rIfS,rAsg,rName,rNil,rCons,rCB,rBM,rCall,rTup,rLst,rSl,rNoPart,rPart,rInt,rChain,rComp,rIList,rITup,rIRng1,rK,rKn,rKc,rRaise,rIsN,rNotN,rBM0,rFld,rSFld,rMeth,rMake,rGSub,rIRngThree,rTryIf,rMCall,rMMeth,rTryR2,List.set_cons_zero,List.set_cons_succ,List.append_nil,capS,List.map_cons,List.map_nil,List.nil_append,List.cons_append,List.getD_cons_zero,List.getD_cons_succ]
          refine ⟨⟨by decide, by decide, by decide⟩, ⟨by decide, by decide, by decide⟩, show 6 ≤ sizeLine by decide, fun lp nlp => ?_⟩
          have s5 := Same.upd_new (o := .lst ([.int (-1), .int n, .int (10 ^ (20 : Int).toNat), .int (-2), .int (0 - (n : Int)), .int (-10 ^ (20 : Int).toNat)])) nlp
          refine rd_list (s5 _ _ ha4) i0 ?_
          try simp only [rv0,rvS,rC,rOp,rUn,rTest,rB,rBl,rI0i,rIi,rUi,rEqi,rNei,rEqb,rNeb,rNot,rAnd,rOr,rAndV,rOrV,rNotV,rIf,rSeq,rNext,rDrop,rRet,rRetN,rIfS,rAsg,rName,rNil,rCons,rCB,rBM,rCall,rTup,rLst,rSl,rNoPart,rPart,rInt,rChain,rComp,rIList,rITup,rIRng1,rK,rKn,rKc,rRaise,rIsN,rNotN,rBM0,rFld,rSFld,rMeth,rMake,rGSub,rIRngThree,rTryIf,rMCall,rMMeth,rTryR2,List.set_cons_zero,List.set_cons_succ,List.append_nil,capS,List.map_cons,List.map_nil,List.nil_append,List.cons_append,List.getD_cons_zero,List.getD_cons_succ]
          refine ⟨by decide, ?_⟩
          obtain ⟨z, mz, ez⟩ := pick_at (ns := [-1, (n : Int), 10 ^ (20 : Int).toNat, -2, 0 - (n : Int), -10 ^ (20 : Int).toNat]) (i := c0 % 6) (by omega) (by simp; omega)
          refine rd_list upd_same ez ?_
          exact ⟨z, rfl, s5⟩
        rintro σ' H5 ⟨st, rfl, s5⟩
        have t5 := t4.trans s5
        have ha5 := s5 _ _ ha4
        have hap5 := s5 _ _ hap4
        have hxs5 := hxs4.mono s5
        try simp only [rv0,rvS,rC,rOp,rUn,rTest,rB,rBl,rI0i,rIi,rUi,rEqi,rNei,rEqb,rNeb,rNot,rAnd,rOr,rAndV,rOrV,rNotV,rIf,rSeq,rNext,rDrop,rRet,rRetN,rIfS,rAsg,rName,rNil,rCons,rCB,rBM,rCall,rTup,rLst,rSl,rNoPart,rPart,rInt,rChain,rComp,rIList,rITup,rIRng1,rK,rKn,rKc,rRaise,rIsN,rNotN,rBM0,rFld,rSFld,rMeth,rMake,rGSub,rIRngThree,rTryIf,rMCall,rMMeth,rTryR2,List.set_cons_zero,List.set_cons_succ,List.append_nil,capS,List.map_cons,List.map_nil,List.nil_append,List.cons_append,List.getD_cons_zero,List.getD_cons_succ]
        refine ⟨fun σ' H' => ∃ x y : Int, σ' = [some (.ref a), some (.int n), some (.ref ap), some (.int ld), some (.int kk), some (.int co), some (.int x), some (.int hp), some (.int y), some (.int st), x10] ∧ H5 = H', ?_, ?_⟩
        · try simp only [rv0,rvS,rC,rOp,rUn,rTest,rB,rBl,rI0i,rIi,rUi,rEqi,rNei,rEqb,rNeb,rNot,rAnd,rOr,rAndV,rOrV,rNotV,rIf,rSeq,rNext,rDrop,rRet,rRetN,rIfS,rAsg,rName,rNil,rCons,rCB,rBM,rCall,rTup,rLst,rSl,rNoPart,rPart,rInt,rChain,rComp,rIList,rITup,rIRng1,rK,rKn,rKc,rRaise,rIsN,rNotN,rBM0,rFld,rSFld,rMeth,rMake,rGSub,rIRngThree,rTryIf,rMCall,rMMeth,rTryR2,List.set_cons_zero,List.set_cons_succ,List.append_nil,capS,List.map_cons,List.map_nil,List.nil_append,List.cons_append,List.getD_cons_zero,List.getD_cons_succ]
          refine rd_list ha5 i1 ?_
          try simp only [rv0,rvS,rC,rOp,rUn,rTest,rB,rBl,rI0i,rIi,rUi,rEqi,rNei,rEqb,rNeb,rNot,rAnd,rOr,rAndV,rOrV,rNotV,rIf,rSeq,rNext,rDrop,rRet,rRetN,rIfS,rAsg,rName,rNil,rCons,rCB,rBM,rCall,rTup,rLst,rSl,rNoPart,rPart,rInt,rChain,rComp,rIList,rITup,rIRng1,rK,rKn,rKc,rRaise,rIsN,rNotN,rBM0,rFld,rSFld,rMeth,rMake,rGSub,rIRngThree,rTryIf,rMCall,rMMeth,rTryR2,List.set_cons_zero,List.set_cons_succ,List.append_nil,capS,List.map_cons,List.map_nil,List.nil_append,List.cons_append,List.getD_cons_zero,List.getD_cons_succ]
          refine ⟨by decide, ite2 (fun _ => ⟨by decide, ite2 (fun _ => ⟨st, other, rfl, trivial⟩) (fun _ => ?_)⟩) (fun _ => iteF ?_)⟩
          all_goals
            refine ⟨fun σ' H' => ∃ x y : Int, σ' = [some (.ref a), some (.int n), some (.ref ap), some (.int ld), some (.int kk), some (.int co), some (.int x), some (.int hp), some (.int y), some (.int st), x10] ∧ H5 = H', ?_, fun _ _ z => z⟩
            try simp only [rv0,rvS,rC,rOp,rUn,rTest,rB,rBl,rI0i,rIi,rUi,rEqi,rNei,rEqb,rNeb,rNot,rAnd,rOr,rAndV,rOrV,rNotV,rIf,rSeq,rNext,rDrop,rRet,rRetN,rIfS,rAsg,rName,rNil,rCons,rCB,rBM,rCall,rTup,rLst,rSl,rNoPart,rPart,rInt,rChain,rComp,rIList,rITup,rIRng1,rK,rKn,rKc,rRaise,rIsN,rNotN,rBM0,rFld,rSFld,rMeth,rMake,rGSub,rIRngThree,rTryIf,rMCall,rMMeth,rTryR2,List.set_cons_zero,List.set_cons_succ,List.append_nil,capS,List.map_cons,List.map_nil,List.nil_append,List.cons_append,List.getD_cons_zero,List.getD_cons_succ]
            refine rd_list ha5 i1 ?_
            try simp only [rv0,rvS,rC,rOp,rUn,rTest,rB,rBl,rI0i,rIi,rUi,rEqi,rNei,rEqb,rNeb,rNot,rAnd,rOr,rAndV,rOrV,rNotV,rIf,rSeq,rNext,rDrop,rRet,rRetN,rIfS,rAsg,rName,rNil,rCons,rCB,rBM,rCall,rTup,rLst,rSl,rNoPart,rPart,rInt,rChain,rComp,rIList,rITup,rIRng1,rK,rKn,rKc,rRaise,rIsN,rNotN,rBM0,rFld,rSFld,rMeth,rMake,rGSub,rIRngThree,rTryIf,rMCall,rMMeth,rTryR2,List.set_cons_zero,List.set_cons_succ,List.append_nil,capS,List.map_cons,List.map_nil,List.nil_append,List.cons_append,List.getD_cons_zero,List.getD_cons_succ]
            exact ⟨by decide, ite2 (fun _ => ⟨one, st, rfl, trivial⟩) (fun _ => ⟨one, other, rfl, trivial⟩)⟩
        rintro σ' H' ⟨x, y, rfl, rfl⟩
        try simp only [rv0,rvS,rC,rOp,rUn,rTest,rB,rBl,rI0i,rIi,rUi,rEqi,rNei,rEqb,rNeb,rNot,rAnd,rOr,rAndV,rOrV,rNotV,rIf,rSeq,rNext,rDrop,rRet,rRetN,rIfS,rAsg,rName,rNil,rCons,rCB,rBM,rCall,rTup,rLst,rSl,rNoPart,rPart,rInt,rChain,rComp,rIList,rITup,rIRng1,rK,rKn,rKc,rRaise,rIsN,rNotN,rBM0,rFld,rSFld,rMeth,rMake,rGSub,rIRngThree,rTryIf,rMCall,rMMeth,rTryR2,List.set_cons_zero,List.set_cons_succ,List.append_nil,capS,List.map_cons,List.map_nil,List.nil_append,List.cons_append,List.getD_cons_zero,List.getD_cons_succ]
        refine ⟨.inl ⟨rfl, _, SqL.of hap5⟩, show 4 ≤ sizeLine by decide, fun q nq => ?_⟩
        have s6 := Same.upd_new (o := .tup [.str "lay", .int x, .int y, .int co]) nq
        have g6 : upd H5 q (.tup [.str "lay", .int x, .int y, .int co]) q = some (.tup [.str "lay", .int x, .int y, .int co]) := upd_same
        generalize upd H5 q (.tup [.str "lay", .int x, .int y, .int co]) = H6 at s6 g6 ⊢
        refine ⟨ap, xs, _, rfl, rfl, s6 _ _ hap5, by omega, ?_⟩
        have rq : Rep H6 (deedD (.lay x y co)) (.ref q) := rep_tup.mpr ⟨q, _, rfl, g6, reps_cc.mpr ⟨rep_str.mpr rfl, reps_cc.mpr ⟨rep_int.mpr rfl, reps_cc.mpr ⟨rep_int.mpr rfl, reps_cc.mpr ⟨rep_int.mpr rfl, reps_nil.mpr rfl⟩⟩⟩⟩⟩
        have gr := deeds_grow (s6 _ _ hap5) (hxs5.mono s6) rq
        have fin : ∀ (ld' : Int) (σ : St), 0 ≤ ld' → (∃ x4 x5 x6 x7 x8 x9 x10, σ = [some (.ref a), some (.int n), some (.ref ap), some (.int ld'), x4, x5, x6, x7, x8, x9, x10]) → DeedsP H a ap n (i + 1) σ (upd H6 ap (.lst (xs ++ [.ref q]))) := fun ld' σ h e => by
          obtain ⟨x4, x5, x6, x7, x8, x9, x10, rfl⟩ := e
          exact ⟨ds ++ [.lay x y co], _, ld', x4, x5, x6, x7, x8, x9, x10, rfl, h, (t5.trans s6).upd_late nap, by simp [hi2], upd_same, gr⟩
        try simp only [rv0,rvS,rC,rOp,rUn,rTest,rB,rBl,rI0i,rIi,rUi,rEqi,rNei,rEqb,rNeb,rNot,rAnd,rOr,rAndV,rOrV,rNotV,rIf,rSeq,rNext,rDrop,rRet,rRetN,rIfS,rAsg,rName,rNil,rCons,rCB,rBM,rCall,rTup,rLst,rSl,rNoPart,rPart,rInt,rChain,rComp,rIList,rITup,rIRng1,rK,rKn,rKc,rRaise,rIsN,rNotN,rBM0,rFld,rSFld,rMeth,rMake,rGSub,rIRngThree,rTryIf,rMCall,rMMeth,rTryR2,List.set_cons_zero,List.set_cons_succ,List.append_nil,capS,List.map_cons,List.map_nil,List.nil_append,List.cons_append,List.getD_cons_zero,List.getD_cons_succ]
        have fin2 : ∀ b : Bool, DeedsP H a ap n (i + 1) [some (.ref a), some (.int n), some (.ref ap), some (.int (ld + if b = true then 1 else 0)), some (.int kk), some (.int co), some (.int x), some (.int hp), some (.int y), some (.int st), x10] (upd H6 ap (.lst (xs ++ [.ref q]))) := fun b => fin _ _ (by split <;> omega) ⟨_, _, _, _, _, _, _, rfl⟩
        exact ite2 (fun _ => ite2 (fun _ => ite2 (fun _ => .inr ⟨_, rfl, fin2 _⟩) (fun _ => .inr ⟨_, rfl, fin2 _⟩)) (fun _ => .inr ⟨_, rfl, fin2 _⟩)) (fun _ => .inr ⟨_, rfl, fin2 _⟩)
      · refine ⟨DeedsP H a ap n (i + 1), ?_, fun _ _ z => z⟩
        try simp only [rv0,rvS,rC,rOp,rUn,rTest,rB,rBl,rI0i,rIi,rUi,rEqi,rNei,rEqb,rNeb,rNot,rAnd,rOr,rAndV,rOrV,rNotV,rIf,rSeq,rNext,rDrop,rRet,rRetN,rIfS,rAsg,rName,rNil,rCons,rCB,rBM,rCall,rTup,rLst,rSl,rNoPart,rPart,rInt,rChain,rComp,rIList,rITup,rIRng1,rK,rKn,rKc,rRaise,rIsN,rNotN,rBM0,rFld,rSFld,rMeth,rMake,rGSub,rIRngThree,rTryIf,rMCall,rMMeth,rTryR2,List.set_cons_zero,List.set_cons_succ,List.append_nil,capS,List.map_cons,List.map_nil,List.nil_append,List.cons_append,List.getD_cons_zero,List.getD_cons_succ]
        refine rd_list ha3 i0 ?_
        try simp only [rv0,rvS,rC,rOp,rUn,rTest,rB,rBl,rI0i,rIi,rUi,rEqi,rNei,rEqb,rNeb,rNot,rAnd,rOr,rAndV,rOrV,rNotV,rIf,rSeq,rNext,rDrop,rRet,rRetN,rIfS,rAsg,rName,rNil,rCons,rCB,rBM,rCall,rTup,rLst,rSl,rNoPart,rPart,rInt,rChain,rComp,rIList,rITup,rIRng1,rK,rKn,rKc,rRaise,rIsN,rNotN,rBM0,rFld,rSFld,rMeth,rMake,rGSub,rIRngThree,rTryIf,rMCall,rMMeth,rTryR2,List.set_cons_zero,List.set_cons_succ,List.append_nil,capS,List.map_cons,List.map_nil,List.nil_append,List.cons_append,List.getD_cons_zero,List.getD_cons_succ]
        refine ⟨by decide, ite2 (fun _ => ?_) (fun _ => ?_)⟩
        · try simp only [rv0,rvS,rC,rOp,rUn,rTest,rB,rBl,rI0i,rIi,rUi,rEqi,rNei,rEqb,rNeb,rNot,rAnd,rOr,rAndV,rOrV,rNotV,rIf,rSeq,rNext,rDrop,rRet,rRetN,rIfS,rAsg,rName,rNil,rCons,rCB,rBM,rCall,rTup,rLst,rSl,rNoPart,rPart,rInt,rChain,rComp,rIList,rITup,rIRng1,rK,rKn,rKc,rRaise,rIsN,rNotN,rBM0,rFld,rSFld,rMeth,rMake,rGSub,rIRngThree,rTryIf,rMCall,rMMeth,rTryR2,List.set_cons_zero,List.set_cons_succ,List.append_nil,capS,List.map_cons,List.map_nil,List.nil_append,List.cons_append,List.getD_cons_zero,List.getD_cons_succ]
          refine rd_list ha3 i2 ?_
          try simp only [rv0,rvS,rC,rOp,rUn,rTest,rB,rBl,rI0i,rIi,rUi,rEqi,rNei,rEqb,rNeb,rNot,rAnd,rOr,rAndV,rOrV,rNotV,rIf,rSeq,rNext,rDrop,rRet,rRetN,rIfS,rAsg,rName,rNil,rCons,rCB,rBM,rCall,rTup,rLst,rSl,rNoPart,rPart,rInt,rChain,rComp,rIList,rITup,rIRng1,rK,rKn,rKc,rRaise,rIsN,rNotN,rBM0,rFld,rSFld,rMeth,rMake,rGSub,rIRngThree,rTryIf,rMCall,rMMeth,rTryR2,List.set_cons_zero,List.set_cons_succ,List.append_nil,capS,List.map_cons,List.map_nil,List.nil_append,List.cons_append,List.getD_cons_zero,List.getD_cons_succ]
          refine ⟨by omega, ?_⟩
          refine ⟨fun σ' H' => ∃ m : Int, σ' = [some (.ref a), some (.int n), some (.ref ap), some (.int ld), some (.int kk), some (.int co), x6, x7, x8, x9, some (.int m)] ∧ H3 = H', ?_, ?_⟩
          · try simp only [rv0,rvS,rC,rOp,rUn,rTest,rB,rBl,rI0i,rIi,rUi,rEqi,rNei,rEqb,rNeb,rNot,rAnd,rOr,rAndV,rOrV,rNotV,rIf,rSeq,rNext,rDrop,rRet,rRetN,rIfS,rAsg,rName,rNil,rCons,rCB,rBM,rCall,rTup,rLst,rSl,rNoPart,rPart,rInt,rChain,rComp,rIList,rITup,rIRng1,rK,rKn,rKc,rRaise,rIsN,rNotN,rBM0,rFld,rSFld,rMeth,rMake,rGSub,rIRngThree,rTryIf,rMCall,rMMeth,rTryR2,List.set_cons_zero,List.set_cons_succ,List.append_nil,capS,List.map_cons,List.map_nil,List.nil_append,List.cons_append,List.getD_cons_zero,List.getD_cons_succ]
            refine rd_list ha3 i1 ?_
            try simp only [rv0,rvS,rC,rOp,rUn,rTest,rB,rBl,rI0i,rIi,rUi,rEqi,rNei,rEqb,rNeb,rNot,rAnd,rOr,rAndV,rOrV,rNotV,rIf,rSeq,rNext,rDrop,rRet,rRetN,rIfS,rAsg,rName,rNil,rCons,rCB,rBM,rCall,rTup,rLst,rSl,rNoPart,rPart,rInt,rChain,rComp,rIList,rITup,rIRng1,rK,rKn,rKc,rRaise,rIsN,rNotN,rBM0,rFld,rSFld,rMeth,rMake,rGSub,rIRngThree,rTryIf,rMCall,rMMeth,rTryR2,List.set_cons_zero,List.set_cons_succ,List.append_nil,capS,List.map_cons,List.map_nil,List.nil_append,List.cons_append,List.getD_cons_zero,List.getD_cons_succ]
            refine ⟨by decide, ite2 (fun _ => ?_) (fun _ => ⟨_, rfl, trivial⟩)⟩
            try simp only [rv0,rvS,rC,rOp,rUn,rTest,rB,rBl,rI0i,rIi,rUi,rEqi,rNei,rEqb,rNeb,rNot,rAnd,rOr,rAndV,rOrV,rNotV,rIf,rSeq,rNext,rDrop,rRet,rRetN,rIfS,rAsg,rName,rNil,rCons,rCB,rBM,rCall,rTup,rLst,rSl,rNoPart,rPart,rInt,rChain,rComp,rIList,rITup,rIRng1,rK,rKn,rKc,rRaise,rIsN,rNotN,rBM0,rFld,rSFld,rMeth,rMake,rGSub,rIRngThree,rTryIf,rMCall,rMMeth,rTryR2,List.set_cons_zero,List.set_cons_succ,List.append_nil,capS,List.map_cons,List.map_nil,List.nil_append,List.cons_append,List.getD_cons_zero,List.getD_cons_succ]
            exact ⟨⟨by decide, by decide, by decide⟩, _, rfl, trivial⟩
          rintro σ' H' ⟨m, rfl, rfl⟩
          try simp only [rv0,rvS,rC,rOp,rUn,rTest,rB,rBl,rI0i,rIi,rUi,rEqi,rNei,rEqb,rNeb,rNot,rAnd,rOr,rAndV,rOrV,rNotV,rIf,rSeq,rNext,rDrop,rRet,rRetN,rIfS,rAsg,rName,rNil,rCons,rCB,rBM,rCall,rTup,rLst,rSl,rNoPart,rPart,rInt,rChain,rComp,rIList,rITup,rIRng1,rK,rKn,rKc,rRaise,rIsN,rNotN,rBM0,rFld,rSFld,rMeth,rMake,rGSub,rIRngThree,rTryIf,rMCall,rMMeth,rTryR2,List.set_cons_zero,List.set_cons_succ,List.append_nil,capS,List.map_cons,List.map_nil,List.nil_append,List.cons_append,List.getD_cons_zero,List.getD_cons_succ]
          refine ⟨.inl ⟨rfl, _, SqL.of hap3⟩, show 3 ≤ sizeLine by decide, fun q nq => ?_⟩
          have s6 := Same.upd_new (o := .tup [.str "cost", .int m, .int co]) nq
          have g6 : upd H3 q (.tup [.str "cost", .int m, .int co]) q = some (.tup [.str "cost", .int m, .int co]) := upd_same
          generalize upd H3 q (.tup [.str "cost", .int m, .int co]) = H6 at s6 g6 ⊢
          refine ⟨ap, xs, _, rfl, rfl, s6 _ _ hap3, by omega, ?_⟩
          have rq : Rep H6 (deedD (.cost m co)) (.ref q) := rep_tup.mpr ⟨q, _, rfl, g6, reps_cc.mpr ⟨rep_str.mpr rfl, reps_cc.mpr ⟨rep_int.mpr rfl, reps_cc.mpr ⟨rep_int.mpr rfl, reps_nil.mpr rfl⟩⟩⟩⟩
          exact ⟨ds ++ [.cost m co], _, ld, _, _, _, _, _, _, _, rfl, hld, (t3.trans s6).upd_late nap, by simp [hi2], upd_same, deeds_grow (s6 _ _ hap3) (hxs3.mono s6) rq⟩
        · try simp only [rv0,rvS,rC,rOp,rUn,rTest,rB,rBl,rI0i,rIi,rUi,rEqi,rNei,rEqb,rNeb,rNot,rAnd,rOr,rAndV,rOrV,rNotV,rIf,rSeq,rNext,rDrop,rRet,rRetN,rIfS,rAsg,rName,rNil,rCons,rCB,rBM,rCall,rTup,rLst,rSl,rNoPart,rPart,rInt,rChain,rComp,rIList,rITup,rIRng1,rK,rKn,rKc,rRaise,rIsN,rNotN,rBM0,rFld,rSFld,rMeth,rMake,rGSub,rIRngThree,rTryIf,rMCall,rMMeth,rTryR2,List.set_cons_zero,List.set_cons_succ,List.append_nil,capS,List.map_cons,List.map_nil,List.nil_append,List.cons_append,List.getD_cons_zero,List.getD_cons_succ]
          refine ⟨.inl ⟨rfl, _, SqL.of hap3⟩, show 1 ≤ sizeLine by decide, fun q nq => ?_⟩
          have s6 := Same.upd_new (o := .tup [.str "look"]) nq
          have g6 : upd H3 q (.tup [.str "look"]) q = some (.tup [.str "look"]) := upd_same
          generalize upd H3 q (.tup [.str "look"]) = H6 at s6 g6 ⊢
          refine ⟨ap, xs, _, rfl, rfl, s6 _ _ hap3, by omega, ?_⟩
          have rq : Rep H6 (deedD .look) (.ref q) := rep_tup.mpr ⟨q, _, rfl, g6, reps_cc.mpr ⟨rep_str.mpr rfl, reps_nil.mpr rfl⟩⟩
          exact ⟨ds ++ [.look], _, ld, _, _, _, _, _, _, _, rfl, hld, (t3.trans s6).upd_late nap, by simp [hi2], upd_same, deeds_grow (s6 _ _ hap3) (hxs3.mono s6) rq⟩
    · rintro σ H2 ⟨ds, xs, ld, x4, x5, x6, x7, x8, x9, x10, rfl, hld, s2, hi2, hap, hxs⟩
      rw [List.length_map] at hi2
      have lxs : xs.length = ds.length := by have := hxs.length; rw [List.length_map] at this; exact this.symm
      try simp only [rv0,rvS,rC,rOp,rUn,rTest,rB,rBl,rI0i,rIi,rUi,rEqi,rNei,rEqb,rNeb,rNot,rAnd,rOr,rAndV,rOrV,rNotV,rIf,rSeq,rNext,rDrop,rRet,rRetN,rIfS,rAsg,rName,rNil,rCons,rCB,rBM,rCall,rTup,rLst,rSl,rNoPart,rPart,rInt,rChain,rComp,rIList,rITup,rIRng1,rK,rKn,rKc,rRaise,rIsN,rNotN,rBM0,rFld,rSFld,rMeth,rMake,rGSub,rIRngThree,rTryIf,rMCall,rMMeth,rTryR2,List.set_cons_zero,List.set_cons_succ,List.append_nil,capS,List.map_cons,List.map_nil,List.nil_append,List.cons_append,List.getD_cons_zero,List.getD_cons_succ]
      refine ⟨show 1 ≤ sizeLine by decide, fun q nq => ?_⟩
      have s6 := Same.upd_new (o := .tup [.str "look"]) nq
      have g6 : upd H2 q (.tup [.str "look"]) q = some (.tup [.str "look"]) := upd_same
      generalize upd H2 q (.tup [.str "look"]) = H6 at s6 g6 ⊢
      refine ⟨show 1 ≤ sizeLine by decide, fun l nl => ?_⟩
      have s7 := Same.upd_new (o := .lst [.ref q]) nl
      refine ⟨ap, l, _, _, rfl, rfl, (s6.trans s7) _ _ hap, upd_same, by simp only [List.length_cons, List.length_nil]; omega, fun p hp => ?_⟩
      have s8 := s6.trans (s7.trans (Same.upd_new (o := .lst (xs ++ [.ref q])) hp))
      refine k p (ds ++ [.look]) _ (s2.trans s8) (by simp; omega) (rep_lst.mpr ⟨p, _, rfl, upd_same, ?_⟩)
      rw [List.map_append]
      refine (hxs.mono s8).append (reps_cc.mpr ⟨?_, reps_nil.mpr rfl⟩)
      exact Rep.mono (rep_tup.mpr ⟨q, _, rfl, g6, reps_cc.mpr ⟨rep_str.mpr rfl, reps_nil.mpr rfl⟩⟩) (s7.trans (Same.upd_new hp))
end
end My
namespace My
open PySem L2
section
variable {P : Program} {w : World} {K : PySem.W.Frag} {mg : Str → Option Value} {base : Heap} {A : Ad}
theorem ixx_list {X : Cx} {ea : Addr} : IxR (cxX X ea) (rIxL X.K) := ix_list
noncomputable def sp__law_told_by (C T : Addr) : Sp := fun vs H Q _ => ∃ (np pr tp dp : Addr) (n : Nat) (rs : List RT.Rope) (d : Deed), vs = [.ref np, .ref dp] ∧ NetAt C H np pr tp n rs ∧ Rep H (deedD d) (.ref dp) ∧ d ≠ .look ∧ n ≤ 1000 ∧ rs.length < 60 ∧ H T = some (.ctab q_from_cheapest) ∧
  ∀ v tq H', (H tq = none ∨ tq = tp) → NetAt C H' np pr tq n (next n rs d) → Kept np pr H H' → Rep H' (handD n rs d) v → Q v H'
theorem ok__law_told_by (T : Txt K mg A) (B : Bm mg base) : FnOk P w K mg base CX0 6 A.a__law_told_by A.d__law_told_by ["_law_net", "_law_deed"] (sp__law_told_by A.a_Net A.p_from_cheapest) := by
  have G_Net_lay : FnOk P w K mg base (CX1 P w) _ _ _ _ _ := ok_Net_lay T B
  have G_Net_recost : FnOk P w K mg base (CX1 P w) _ _ _ _ _ := ok_Net_recost T B
  refine T.f__law_told_by.ok sc__law_told_by (fun vs H Q E h => ?_) (fun cdv A' outer s H vs Q E hr h => ?_)
  · obtain ⟨np, pr, tp, dp, n, rs, d, rfl, _⟩ := h
    rfl
  · obtain ⟨np, pr, tp, dp, n, rs, d, rfl, N, hd, hnl, hn, hl, hT, k⟩ := h
    obtain ⟨dx, h1⟩ := N.ob
    refine ⟨_, (pss_cons (ps_set (i := 2) sc__law_told_by.nd rfl (Or.inl rfl) pe_str)
      (pss_cons (ps_tryIf (i := 3) (jj := 2) (pt_cmpR op_eq (pe_ix ix_tup (pv 1) pe_int (fun _ _ => rfl)) pe_str (nomark _)) (mc_meth (pv 0) T.cl_Net T.mt_Net_lay G_Net_lay (hr.mono (by decide)) T.b_Net_lay .nil (pa_cons (pe_ix ix_tup (pv 1) pe_int (fun _ _ => rfl)) (pa_cons (pe_ix ix_tup (pv 1) pe_int (fun _ _ => rfl)) (pa_cons (pe_ix ix_tup (pv 1) pe_int (fun _ _ => rfl)) pa_nil)))) (mc_meth (pv 0) T.cl_Net T.mt_Net_recost G_Net_recost (hr.mono (by decide)) T.b_Net_recost .nil (pa_cons (pe_ix ix_tup (pv 1) pe_int (fun _ _ => rfl)) (pa_cons (pe_ix ix_tup (pv 1) pe_int (fun _ _ => rfl)) pa_nil))) rfl T.m_RopeError sc__law_told_by.nd rfl rfl rfl (Or.inl rfl) (fun _ => (pss_cons (ps_set (i := 2) sc__law_told_by.nd rfl (Or.inl rfl) pe_str)
      (pss_cons (ps_if (pt_val (pe_callB callx_exc rfl T.z_isinstance bo_isinstance (pa_cons (pv 3) (pa_cons (pe_glob (v := .ref A.a_NoPlace) rfl T.m_NoPlace rfl) pa_nil)))) (pss_one (ps_set (i := 2) sc__law_told_by.nd rfl (Or.inl rfl) pe_str)) pss_nil)
      (pss_cons (ps_if (pt_val (pe_callB callx_exc rfl T.z_isinstance bo_isinstance (pa_cons (pv 3) (pa_cons (pe_glob (v := .ref A.a_NoRope) rfl T.m_NoRope rfl) pa_nil)))) (pss_one (ps_set (i := 2) sc__law_told_by.nd rfl (Or.inl rfl) (pe_ix ixx_list (pe_lst (pa_cons pe_str (pa_cons pe_str pa_nil))) (pe_callTy call_int1 rfl T.z_int bo_int (pa_cons (pe_cmpR op_eq (pv 2) pe_str (nomark _)) pa_nil)) (fun _ _ => rfl)))) pss_nil)
      (pss_cons (ps_if (pt_not (pt_val (pe_callB callx_exc rfl T.z_isinstance bo_isinstance (pa_cons (pv 3) (pa_cons (pe_bltn (v := .ty "ValueError") rfl T.z_ValueError bo_ValueError rfl) pa_nil))))) (pss_one (ps_set (i := 2) sc__law_told_by.nd rfl (Or.inl rfl) pe_str)) pss_nil)
      (pss_one (ps_set (i := 2) sc__law_told_by.nd rfl (Or.inl rfl) (pe_tup (pa_cons pe_str (pa_cons (pv 2) pa_nil)))))))))))
      (pss_one (ps_ret (pv 2))))), ?_⟩
    rw [show start ["_law_net", "_law_deed", "_law_word", "e"] [.ref np, .ref dp] = [some (.ref np), some (.ref dp), none, none] from rfl]
    have bad : okD n rs d = false → ∀ H1, Same H H1 → ∀ p, H1 p = some (.tup [.str "refused", .str (wordD d)]) → Q (.ref p) H1 := fun ok H1 s1 p e => by
      refine k _ tp H1 (.inr rfl) ?_ (Kept.of s1) ?_
      · unfold next; rw [ok, if_neg Bool.false_ne_true]; exact N.mono s1
      · unfold handD; rw [ok, if_neg Bool.false_ne_true]
        exact rep_tup.mpr ⟨p, _, rfl, e, reps_cc.mpr ⟨rep_str.mpr rfl, reps_cc.mpr ⟨rep_str.mpr rfl, reps_nil.mpr rfl⟩⟩⟩
    have good : okD n rs d = true → ∀ v tq H1, H tq = none → NetAt A.a_Net H1 np pr tq n (aft rs d) → Kept np pr H H1 → Rep H1 (ansD n rs d) v → Q v H1 := fun ok v tq H1 e N1 kp r => by
      refine k v tq H1 (.inl e) ?_ kp ?_
      · unfold next; rw [ok, if_pos rfl]; exact N1
      · unfold handD; rw [ok, if_pos rfl]; exact r
    try simp only [rv0,rvS,rC,rOp,rUn,rTest,rB,rBl,rI0i,rIi,rUi,rEqi,rNei,rEqb,rNeb,rNot,rAnd,rOr,rAndV,rOrV,rNotV,rIf,rSeq,rNext,rDrop,rRet,rRetN,rIfS,rAsg,rName,rNil,rCons,rCB,rBM,rCall,rTup,rLst,rSl,rNoPart,rPart,rInt,rChain,rComp,rIList,rITup,rIRng1,rK,rKn,rKc,rRaise,rIsN,rNotN,rBM0,rFld,rSFld,rMeth,rMake,rGSub,rIRngThree,rTryIf,rMCall,rMMeth,rTryR2,List.set_cons_zero,List.set_cons_succ,List.append_nil,capS,List.map_cons,List.map_nil,List.nil_append,List.cons_append,List.getD_cons_zero,List.getD_cons_succ]
    cases d with
    | lay x y c =>
      obtain ⟨dp', e, hd⟩ := rep_lay hd
      cases e
      refine rd_tup hd rfl ?_
      try simp only [rv0,rvS,rC,rOp,rUn,rTest,rB,rBl,rI0i,rIi,rUi,rEqi,rNei,rEqb,rNeb,rNot,rAnd,rOr,rAndV,rOrV,rNotV,rIf,rSeq,rNext,rDrop,rRet,rRetN,rIfS,rAsg,rName,rNil,rCons,rCB,rBM,rCall,rTup,rLst,rSl,rNoPart,rPart,rInt,rChain,rComp,rIList,rITup,rIRng1,rK,rKn,rKc,rRaise,rIsN,rNotN,rBM0,rFld,rSFld,rMeth,rMake,rGSub,rIRngThree,rTryIf,rMCall,rMMeth,rTryR2,List.set_cons_zero,List.set_cons_succ,List.append_nil,capS,List.map_cons,List.map_nil,List.nil_append,List.cons_append,List.getD_cons_zero,List.getD_cons_succ]
      refine ⟨rfl, _, rfl, ite2 (fun _ => ?_) (fun c => absurd (decide_eq_true rfl) c)⟩
      try simp only [rv0,rvS,rC,rOp,rUn,rTest,rB,rBl,rI0i,rIi,rUi,rEqi,rNei,rEqb,rNeb,rNot,rAnd,rOr,rAndV,rOrV,rNotV,rIf,rSeq,rNext,rDrop,rRet,rRetN,rIfS,rAsg,rName,rNil,rCons,rCB,rBM,rCall,rTup,rLst,rSl,rNoPart,rPart,rInt,rChain,rComp,rIList,rITup,rIRng1,rK,rKn,rKc,rRaise,rIsN,rNotN,rBM0,rFld,rSFld,rMeth,rMake,rGSub,rIRngThree,rTryIf,rMCall,rMMeth,rTryR2,List.set_cons_zero,List.set_cons_succ,List.append_nil,capS,List.map_cons,List.map_nil,List.nil_append,List.cons_append,List.getD_cons_zero,List.getD_cons_succ]
      refine ⟨np, dx, _, rfl, h1, flds_no _ _ _ (by decide +kernel) (by decide +kernel) (by decide +kernel), ?_⟩
      refine rd_tup hd rfl (rd_tup hd rfl (rd_tup hd rfl ?_))
      refine ⟨np, pr, tp, n, rs, x, y, c, rfl, N, hn, hl, hT, fun ok H1 s1 => ?_, fun ok v tq H1 e N1 kp r => ?_⟩
      · refine ⟨_, rfl, T.y_NoPlace_RopeError, fun ea hea => ?_⟩
        try simp only [rv0,rvS,rC,rOp,rUn,rTest,rB,rBl,rI0i,rIi,rUi,rEqi,rNei,rEqb,rNeb,rNot,rAnd,rOr,rAndV,rOrV,rNotV,rIf,rSeq,rNext,rDrop,rRet,rRetN,rIfS,rAsg,rName,rNil,rCons,rCB,rBM,rCall,rTup,rLst,rSl,rNoPart,rPart,rInt,rChain,rComp,rIList,rITup,rIRng1,rK,rKn,rKc,rRaise,rIsN,rNotN,rBM0,rFld,rSFld,rMeth,rMake,rGSub,rIRngThree,rTryIf,rMCall,rMMeth,rTryR2,List.set_cons_zero,List.set_cons_succ,List.append_nil,capS,List.map_cons,List.map_nil,List.nil_append,List.cons_append,List.getD_cons_zero,List.getD_cons_succ]
        refine ⟨ea, A.a_NoPlace, _, _, _, rfl, .inl ⟨_, rfl, rfl⟩, T.i_NoPlace_NoPlace, (fun z => nomatch z), upd_same, iteT ?_⟩
        try simp only [rv0,rvS,rC,rOp,rUn,rTest,rB,rBl,rI0i,rIi,rUi,rEqi,rNei,rEqb,rNeb,rNot,rAnd,rOr,rAndV,rOrV,rNotV,rIf,rSeq,rNext,rDrop,rRet,rRetN,rIfS,rAsg,rName,rNil,rCons,rCB,rBM,rCall,rTup,rLst,rSl,rNoPart,rPart,rInt,rChain,rComp,rIList,rITup,rIRng1,rK,rKn,rKc,rRaise,rIsN,rNotN,rBM0,rFld,rSFld,rMeth,rMake,rGSub,rIRngThree,rTryIf,rMCall,rMMeth,rTryR2,List.set_cons_zero,List.set_cons_succ,List.append_nil,capS,List.map_cons,List.map_nil,List.nil_append,List.cons_append,List.getD_cons_zero,List.getD_cons_succ]
        refine ⟨ea, A.a_NoPlace, _, _, _, rfl, .inl ⟨_, rfl, rfl⟩, T.i_NoPlace_NoRope, (fun _ => T.n_NoPlace), upd_same, iteF ?_⟩
        try simp only [rv0,rvS,rC,rOp,rUn,rTest,rB,rBl,rI0i,rIi,rUi,rEqi,rNei,rEqb,rNeb,rNot,rAnd,rOr,rAndV,rOrV,rNotV,rIf,rSeq,rNext,rDrop,rRet,rRetN,rIfS,rAsg,rName,rNil,rCons,rCB,rBM,rCall,rTup,rLst,rSl,rNoPart,rPart,rInt,rChain,rComp,rIList,rITup,rIRng1,rK,rKn,rKc,rRaise,rIsN,rNotN,rBM0,rFld,rSFld,rMeth,rMake,rGSub,rIRngThree,rTryIf,rMCall,rMMeth,rTryR2,List.set_cons_zero,List.set_cons_succ,List.append_nil,capS,List.map_cons,List.map_nil,List.nil_append,List.cons_append,List.getD_cons_zero,List.getD_cons_succ]
        refine ⟨ea, A.a_NoPlace, _, _, _, rfl, .inr ⟨_, rfl, rfl⟩, T.i_NoPlace_ValueError, (fun z => nomatch z), upd_same, iteF ?_⟩
        try simp only [rv0,rvS,rC,rOp,rUn,rTest,rB,rBl,rI0i,rIi,rUi,rEqi,rNei,rEqb,rNeb,rNot,rAnd,rOr,rAndV,rOrV,rNotV,rIf,rSeq,rNext,rDrop,rRet,rRetN,rIfS,rAsg,rName,rNil,rCons,rCB,rBM,rCall,rTup,rLst,rSl,rNoPart,rPart,rInt,rChain,rComp,rIList,rITup,rIRng1,rK,rKn,rKc,rRaise,rIsN,rNotN,rBM0,rFld,rSFld,rMeth,rMake,rGSub,rIRngThree,rTryIf,rMCall,rMMeth,rTryR2,List.set_cons_zero,List.set_cons_succ,List.append_nil,capS,List.map_cons,List.map_nil,List.nil_append,List.cons_append,List.getD_cons_zero,List.getD_cons_succ]
        refine ⟨show 2 ≤ sizeLine by decide, fun wp nwp => ?_⟩
        exact bad ok _ ((s1.trans (Same.upd_new hea)).trans (Same.upd_new nwp)) wp upd_same
      · exact good ok v tq H1 e N1 kp r
    | cost m c =>
      obtain ⟨dp', e, hd⟩ := rep_cost hd
      cases e
      refine rd_tup hd rfl ?_
      try simp only [rv0,rvS,rC,rOp,rUn,rTest,rB,rBl,rI0i,rIi,rUi,rEqi,rNei,rEqb,rNeb,rNot,rAnd,rOr,rAndV,rOrV,rNotV,rIf,rSeq,rNext,rDrop,rRet,rRetN,rIfS,rAsg,rName,rNil,rCons,rCB,rBM,rCall,rTup,rLst,rSl,rNoPart,rPart,rInt,rChain,rComp,rIList,rITup,rIRng1,rK,rKn,rKc,rRaise,rIsN,rNotN,rBM0,rFld,rSFld,rMeth,rMake,rGSub,rIRngThree,rTryIf,rMCall,rMMeth,rTryR2,List.set_cons_zero,List.set_cons_succ,List.append_nil,capS,List.map_cons,List.map_nil,List.nil_append,List.cons_append,List.getD_cons_zero,List.getD_cons_succ]
      refine ⟨rfl, _, rfl, ite2 (fun c => absurd (of_decide_eq_true c) cost_lay) (fun _ => ?_)⟩
      try simp only [rv0,rvS,rC,rOp,rUn,rTest,rB,rBl,rI0i,rIi,rUi,rEqi,rNei,rEqb,rNeb,rNot,rAnd,rOr,rAndV,rOrV,rNotV,rIf,rSeq,rNext,rDrop,rRet,rRetN,rIfS,rAsg,rName,rNil,rCons,rCB,rBM,rCall,rTup,rLst,rSl,rNoPart,rPart,rInt,rChain,rComp,rIList,rITup,rIRng1,rK,rKn,rKc,rRaise,rIsN,rNotN,rBM0,rFld,rSFld,rMeth,rMake,rGSub,rIRngThree,rTryIf,rMCall,rMMeth,rTryR2,List.set_cons_zero,List.set_cons_succ,List.append_nil,capS,List.map_cons,List.map_nil,List.nil_append,List.cons_append,List.getD_cons_zero,List.getD_cons_succ]
      refine ⟨np, dx, _, rfl, h1, flds_no _ _ _ (by decide +kernel) (by decide +kernel) (by decide +kernel), ?_⟩
      refine rd_tup hd rfl (rd_tup hd rfl ?_)
      refine ⟨np, pr, tp, n, rs, m, c, rfl, N, hn, hl, hT, fun ok H1 s1 => ?_, fun ok v tq H1 e N1 kp r => ?_⟩
      · refine ⟨_, rfl, T.y_NoRope_RopeError, fun ea hea => ?_⟩
        try simp only [rv0,rvS,rC,rOp,rUn,rTest,rB,rBl,rI0i,rIi,rUi,rEqi,rNei,rEqb,rNeb,rNot,rAnd,rOr,rAndV,rOrV,rNotV,rIf,rSeq,rNext,rDrop,rRet,rRetN,rIfS,rAsg,rName,rNil,rCons,rCB,rBM,rCall,rTup,rLst,rSl,rNoPart,rPart,rInt,rChain,rComp,rIList,rITup,rIRng1,rK,rKn,rKc,rRaise,rIsN,rNotN,rBM0,rFld,rSFld,rMeth,rMake,rGSub,rIRngThree,rTryIf,rMCall,rMMeth,rTryR2,List.set_cons_zero,List.set_cons_succ,List.append_nil,capS,List.map_cons,List.map_nil,List.nil_append,List.cons_append,List.getD_cons_zero,List.getD_cons_succ]
        refine ⟨ea, A.a_NoRope, _, _, _, rfl, .inl ⟨_, rfl, rfl⟩, T.i_NoRope_NoPlace, (fun _ => T.n_NoRope), upd_same, iteF ?_⟩
        try simp only [rv0,rvS,rC,rOp,rUn,rTest,rB,rBl,rI0i,rIi,rUi,rEqi,rNei,rEqb,rNeb,rNot,rAnd,rOr,rAndV,rOrV,rNotV,rIf,rSeq,rNext,rDrop,rRet,rRetN,rIfS,rAsg,rName,rNil,rCons,rCB,rBM,rCall,rTup,rLst,rSl,rNoPart,rPart,rInt,rChain,rComp,rIList,rITup,rIRng1,rK,rKn,rKc,rRaise,rIsN,rNotN,rBM0,rFld,rSFld,rMeth,rMake,rGSub,rIRngThree,rTryIf,rMCall,rMMeth,rTryR2,List.set_cons_zero,List.set_cons_succ,List.append_nil,capS,List.map_cons,List.map_nil,List.nil_append,List.cons_append,List.getD_cons_zero,List.getD_cons_succ]
        refine ⟨ea, A.a_NoRope, _, _, _, rfl, .inl ⟨_, rfl, rfl⟩, T.i_NoRope_NoRope, (fun z => nomatch z), upd_same, iteT ?_⟩
        try simp only [rv0,rvS,rC,rOp,rUn,rTest,rB,rBl,rI0i,rIi,rUi,rEqi,rNei,rEqb,rNeb,rNot,rAnd,rOr,rAndV,rOrV,rNotV,rIf,rSeq,rNext,rDrop,rRet,rRetN,rIfS,rAsg,rName,rNil,rCons,rCB,rBM,rCall,rTup,rLst,rSl,rNoPart,rPart,rInt,rChain,rComp,rIList,rITup,rIRng1,rK,rKn,rKc,rRaise,rIsN,rNotN,rBM0,rFld,rSFld,rMeth,rMake,rGSub,rIRngThree,rTryIf,rMCall,rMMeth,rTryR2,List.set_cons_zero,List.set_cons_succ,List.append_nil,capS,List.map_cons,List.map_nil,List.nil_append,List.cons_append,List.getD_cons_zero,List.getD_cons_succ]
        refine ⟨show 2 ≤ sizeLine by decide, fun lp nlp => ⟨rfl, .inr ⟨_, rfl, ?_⟩⟩⟩
        simp only [decide_true, if_true]
        refine rd_list upd_same (atI_int (by decide) rfl) ?_
        refine ⟨ea, A.a_NoRope, _, _, _, rfl, .inr ⟨_, rfl, rfl⟩, T.i_NoRope_ValueError, (fun z => nomatch z), (Same.upd_new nlp) _ _ upd_same, iteF ?_⟩
        refine ⟨show 2 ≤ sizeLine by decide, fun wp nwp => ?_⟩
        exact bad ok _ (((s1.trans (Same.upd_new hea)).trans (Same.upd_new nlp)).trans (Same.upd_new nwp)) wp upd_same
      · exact good ok v tq H1 e N1 kp r
    | look => exact absurd rfl hnl
end
end My
namespace My
open PySem L2
section
variable {P : Program} {w : World} {K : PySem.W.Frag} {mg : Str → Option Value} {base : Heap} {A : Ad}
noncomputable def El (e : PyData) : Prop := (∃ i, e = .int i) ∨ e = .none ∨ ∃ is : List Int, e = .tuple (is.map .int)
noncomputable def NiceD (d : PyData) : Prop := ((∃ w, d = .str w) ∨ ∃ ds, d = .tuple ds ∧ (∀ e ∈ ds, El e) ∧ ds.length ≤ 100) ∧ SeqAt.shaped d = true ∧ d.canLay0 = true
noncomputable def sp__law_alike : Sp := fun vs H Q _ => ∃ (d : PyData) (x y : V), vs = [x, y] ∧ Rep H d x ∧ Rep H d y ∧ NiceD d ∧ ∀ H', Same H H' → Q (.bl true) H'
theorem ok__law_alike (T : Txt K mg A) : FnOk P w K mg base CX0 3 A.a__law_alike A.d__law_alike ["_law_found", "_law_due"] sp__law_alike := by
  have G__law_whole : FnOk P w K mg base CX0 _ _ _ _ _ := ok__law_whole T
  have G__law_whole_row : FnOk P w K mg base CX0 _ _ _ _ _ := ok__law_whole_row T
  refine T.f__law_alike.ok sc__law_alike (fun vs H Q E h => ?_) (fun cdv A' outer s H vs Q E hr h => ?_)
  · obtain ⟨d, x, y, rfl, _⟩ := h
    rfl
  · obtain ⟨d, x, y, rfl, hx, hy, ⟨hk, hsh, hly⟩, k⟩ := h
    have hu64 := hr.units
    refine ⟨_, (pss_cons (ps_if (pt_val (pe_callB call_isinst rfl T.z_isinstance bo_isinstance (pa_cons (pv 1) (pa_cons (pe_bltn (v := .ty "str") rfl T.z_str bo_str rfl) pa_nil)))) (pss_one (ps_ret (pe_and (pe_callB call_isinst rfl T.z_isinstance bo_isinstance (pa_cons (pv 0) (pa_cons (pe_bltn (v := .ty "str") rfl T.z_str bo_str rfl) pa_nil))) (pe_one (pe_cmpR (op_eqD hu64) (pv 0) (pv 1) (nomark _)))))) pss_nil)
      (pss_cons (ps_if (pt_cmp (pc_isN (pv 1))) (pss_one (ps_ret (pe_cmp (pc_isN (pv 0))))) pss_nil)
      (pss_cons (ps_if (pt_not (pt_val (pe_callB call_isinst rfl T.z_isinstance bo_isinstance (pa_cons (pv 1) (pa_cons (pe_bltn (v := .ty "tuple") rfl T.z_tuple bo_tuple rfl) pa_nil))))) (pss_one (ps_ret (pe_and (pe_call G__law_whole (hr.mono (by decide)) rfl T.m__law_whole T.k__law_whole T.b__law_whole .nil pass0 (pa_cons (pv 0) pa_nil)) (pe_one (pe_cmpR (op_eqD hu64) (pv 0) (pv 1) (nomark _)))))) pss_nil)
      (pss_cons (ps_if (PW.pt (pw_or (pt_not (pt_val (pe_callB call_isinst rfl T.z_isinstance bo_isinstance (pa_cons (pv 0) (pa_cons (pe_bltn (v := .ty "tuple") rfl T.z_tuple bo_tuple rfl) pa_nil))))) (pw_or1 (pt_cmpR op_ne (pe_callB call_len_seq rfl T.z_len bo_len (pa_cons (pv 0) pa_nil)) (pe_callB call_len_seq rfl T.z_len bo_len (pa_cons (pv 1) pa_nil)) (nomark _))))) (pss_one (ps_ret pe_bl)) pss_nil)
      (pss_cons (ps_for PassesOwn.never rfl (pi_range1 rfl T.z_range (pa_cons (pe_callB call_len_seq rfl T.z_len bo_len (pa_cons (pv 1) pa_nil)) pa_nil)) (pg_name (i := 2) sc__law_alike.nd rfl (Or.inl rfl))
      (pss_one (ps_if (pt_val (pe_callB call_isinst rfl T.z_isinstance bo_isinstance (pa_cons (pe_ix ix_tup (pv 1) (pv 2) (fun _ _ => rfl)) (pa_cons (pe_bltn (v := .ty "tuple") rfl T.z_tuple bo_tuple rfl) pa_nil)))) (pss_one (ps_if (PW.pt (pw_or (pt_not (pt_val (pe_callB call_isinst rfl T.z_isinstance bo_isinstance (pa_cons (pe_ix ix_tup (pv 0) (pv 2) (fun _ _ => rfl)) (pa_cons (pe_bltn (v := .ty "tuple") rfl T.z_tuple bo_tuple rfl) pa_nil))))) (pw_or1 (pt_not (pt_val (pe_call G__law_whole_row (hr.mono (by decide)) rfl T.m__law_whole_row T.k__law_whole_row T.b__law_whole_row .nil pass0 (pa_cons (pe_callTy call_list_of rfl T.z_list bo_list (pa_cons (pe_ix ix_tup (pv 0) (pv 2) (fun _ _ => rfl)) pa_nil)) pa_nil))))))) (pss_one (ps_ret pe_bl)) pss_nil)) (pss_one (ps_if (PW.pt (pw_and (pt_cmp (pc_notN (pe_ix ix_tup (pv 1) (pv 2) (fun _ _ => rfl)))) (pw_and1 (pt_not (pt_val (pe_call G__law_whole (hr.mono (by decide)) rfl T.m__law_whole T.k__law_whole T.b__law_whole .nil pass0 (pa_cons (pe_ix ix_tup (pv 0) (pv 2) (fun _ _ => rfl)) pa_nil))))))) (pss_one (ps_ret pe_bl)) pss_nil)))))
      (pss_one (ps_ret (pe_cmpR (op_eqD hu64) (pv 0) (pv 1) (nomark _))))))))), ?_⟩
    rw [show start ["_law_found", "_law_due", "_law_k"] [x, y] = [some x, some y, none] from rfl]
    try simp only [rv0,rvS,rC,rOp,rUn,rTest,rB,rBl,rI0i,rIi,rUi,rEqi,rNei,rEqb,rNeb,rNot,rAnd,rOr,rAndV,rOrV,rNotV,rIf,rSeq,rNext,rDrop,rRet,rRetN,rIfS,rAsg,rName,rNil,rCons,rCB,rBM,rCall,rTup,rLst,rSl,rNoPart,rPart,rInt,rChain,rComp,rIList,rITup,rIRng1,rK,rKn,rKc,rRaise,rIsN,rNotN,rBM0,rFld,rSFld,rMeth,rMake,rGSub,rIRngThree,rTryIf,rMCall,rMMeth,rTryR2,List.set_cons_zero,List.set_cons_succ,List.append_nil,capS,List.map_cons,List.map_nil,List.nil_append,List.cons_append,List.getD_cons_zero,List.getD_cons_succ]
    rcases hk with ⟨w, rfl⟩ | ⟨ds, rfl, hel, hl⟩
    · have ex := rep_str.mp hx
      have ey := rep_str.mp hy
      subst ex ey
      refine ⟨_, _, _, _, rfl, .str w, rfl, iteT ?_⟩
      try simp only [rv0,rvS,rC,rOp,rUn,rTest,rB,rBl,rI0i,rIi,rUi,rEqi,rNei,rEqb,rNeb,rNot,rAnd,rOr,rAndV,rOrV,rNotV,rIf,rSeq,rNext,rDrop,rRet,rRetN,rIfS,rAsg,rName,rNil,rCons,rCB,rBM,rCall,rTup,rLst,rSl,rNoPart,rPart,rInt,rChain,rComp,rIList,rITup,rIRng1,rK,rKn,rKc,rRaise,rIsN,rNotN,rBM0,rFld,rSFld,rMeth,rMake,rGSub,rIRngThree,rTryIf,rMCall,rMMeth,rTryR2,List.set_cons_zero,List.set_cons_succ,List.append_nil,capS,List.map_cons,List.map_nil,List.nil_append,List.cons_append,List.getD_cons_zero,List.getD_cons_succ]
      refine ⟨_, _, _, _, rfl, .str w, rfl, ?_⟩
      try simp only [rv0,rvS,rC,rOp,rUn,rTest,rB,rBl,rI0i,rIi,rUi,rEqi,rNei,rEqb,rNeb,rNot,rAnd,rOr,rAndV,rOrV,rNotV,rIf,rSeq,rNext,rDrop,rRet,rRetN,rIfS,rAsg,rName,rNil,rCons,rCB,rBM,rCall,rTup,rLst,rSl,rNoPart,rPart,rInt,rChain,rComp,rIList,rITup,rIRng1,rK,rKn,rKc,rRaise,rIsN,rNotN,rBM0,rFld,rSFld,rMeth,rMake,rGSub,rIRngThree,rTryIf,rMCall,rMMeth,rTryR2,List.set_cons_zero,List.set_cons_succ,List.append_nil,capS,List.map_cons,List.map_nil,List.nil_append,List.cons_append,List.getD_cons_zero,List.getD_cons_succ]
      refine ite2 (fun _ => ?_) (fun c => absurd (by simp) c)
      refine ⟨.str w, .str w, rep_str.mpr rfl, rep_str.mpr rfl, hsh, hsh, ?_⟩
      rw [show PyData.eqv (.str w) (.str w) = true by simp [PyData.eqv]]
      exact k H (Same.refl H)
    · obtain ⟨a, xs, rfl, ha, hxs⟩ := rep_tup.mp hx
      obtain ⟨b, ys, rfl, hb, hys⟩ := rep_tup.mp hy
      have la : xs.length = ds.length := hxs.length.symm
      have lb : ys.length = ds.length := hys.length.symm
      refine ⟨_, _, _, _, rfl, .tup hb, rfl, iteF ?_⟩
      try simp only [rv0,rvS,rC,rOp,rUn,rTest,rB,rBl,rI0i,rIi,rUi,rEqi,rNei,rEqb,rNeb,rNot,rAnd,rOr,rAndV,rOrV,rNotV,rIf,rSeq,rNext,rDrop,rRet,rRetN,rIfS,rAsg,rName,rNil,rCons,rCB,rBM,rCall,rTup,rLst,rSl,rNoPart,rPart,rInt,rChain,rComp,rIList,rITup,rIRng1,rK,rKn,rKc,rRaise,rIsN,rNotN,rBM0,rFld,rSFld,rMeth,rMake,rGSub,rIRngThree,rTryIf,rMCall,rMMeth,rTryR2,List.set_cons_zero,List.set_cons_succ,List.append_nil,capS,List.map_cons,List.map_nil,List.nil_append,List.cons_append,List.getD_cons_zero,List.getD_cons_succ]
      refine ite2 (fun c => absurd c (by simp)) (fun _ => ?_)
      refine ⟨_, _, _, _, rfl, .tup hb, rfl, iteF ?_⟩
      refine ⟨_, _, _, _, rfl, .tup ha, rfl, iteF ?_⟩
      refine ⟨a, _, rfl, .inr (SqT.of ha), b, _, rfl, .inr (SqT.of hb), ?_⟩
      refine ite2 (fun c => absurd c (by simp [la, lb])) (fun _ => ?_)
      refine ⟨_, rfl, b, _, rfl, .inr (SqT.of hb), (ys.length : Int), rfl, by omega, by omega, for_range (lo := 0) (n := ys.length) (fun i σ H2 => Same H H2 ∧ ∃ v, σ = [some (.ref a), some (.ref b), v]) ⟨Same.refl H, none, rfl⟩ ?_ ?_⟩
      · rintro i σ H2 hi ⟨s2, v, rfl⟩
        have hid : i < ds.length := by omega
        obtain ⟨x, ex, rx⟩ := (hxs.mono s2).get (List.getElem?_eq_getElem hid)
        obtain ⟨y, ey, ry⟩ := (hys.mono s2).get (List.getElem?_eq_getElem hid)
        have ix : atI xs ((0 : Int) + i) = some x := atI_int (by omega) (by simpa using ex)
        have iy : atI ys ((0 : Int) + i) = some y := atI_int (by omega) (by simpa using ey)
        have ha2 := s2 _ _ ha
        have hb2 := s2 _ _ hb
        try simp only [rv0,rvS,rC,rOp,rUn,rTest,rB,rBl,rI0i,rIi,rUi,rEqi,rNei,rEqb,rNeb,rNot,rAnd,rOr,rAndV,rOrV,rNotV,rIf,rSeq,rNext,rDrop,rRet,rRetN,rIfS,rAsg,rName,rNil,rCons,rCB,rBM,rCall,rTup,rLst,rSl,rNoPart,rPart,rInt,rChain,rComp,rIList,rITup,rIRng1,rK,rKn,rKc,rRaise,rIsN,rNotN,rBM0,rFld,rSFld,rMeth,rMake,rGSub,rIRngThree,rTryIf,rMCall,rMMeth,rTryR2,List.set_cons_zero,List.set_cons_succ,List.append_nil,capS,List.map_cons,List.map_nil,List.nil_append,List.cons_append,List.getD_cons_zero,List.getD_cons_succ]
        refine rd_tup hb2 iy ?_
        rcases hel _ (List.getElem_mem hid) with ⟨z, ez⟩ | ez | ⟨is, ez⟩
        · rw [ez] at rx ry
          have ex' := rep_int.mp rx
          have ey' := rep_int.mp ry
          subst ex' ey'
          refine ⟨_, _, _, _, rfl, .int z, rfl, iteF ?_⟩
          refine rd_tup hb2 iy ?_
          refine ite2 (fun _ => ?_) (fun c => absurd (by simp) c)
          refine rd_tup ha2 ix ?_
          refine ⟨z, rfl, ?_⟩
          try simp only [rv0,rvS,rC,rOp,rUn,rTest,rB,rBl,rI0i,rIi,rUi,rEqi,rNei,rEqb,rNeb,rNot,rAnd,rOr,rAndV,rOrV,rNotV,rIf,rSeq,rNext,rDrop,rRet,rRetN,rIfS,rAsg,rName,rNil,rCons,rCB,rBM,rCall,rTup,rLst,rSl,rNoPart,rPart,rInt,rChain,rComp,rIList,rITup,rIRng1,rK,rKn,rKc,rRaise,rIsN,rNotN,rBM0,rFld,rSFld,rMeth,rMake,rGSub,rIRngThree,rTryIf,rMCall,rMMeth,rTryR2,List.set_cons_zero,List.set_cons_succ,List.append_nil,capS,List.map_cons,List.map_nil,List.nil_append,List.cons_append,List.getD_cons_zero,List.getD_cons_succ]
          exact iteF ⟨s2, _, rfl⟩
        · rw [ez] at rx ry
          have ex' := rep_non.mp rx
          have ey' := rep_non.mp ry
          subst ex' ey'
          refine ⟨_, _, _, _, rfl, .non, rfl, iteF ?_⟩
          refine rd_tup hb2 iy ?_
          exact ite2 (fun c => absurd c (by simp)) (fun _ => ⟨s2, _, rfl⟩)
        · rw [ez] at rx ry
          obtain ⟨p, ps, rfl, hp, hps⟩ := rep_tup.mp rx
          obtain ⟨q, qs, rfl, hq, hqs⟩ := rep_tup.mp ry
          rw [reps_ints.mp hps] at hp
          refine ⟨_, _, _, _, rfl, .tup hq, rfl, iteT ?_⟩
          refine rd_tup ha2 ix ?_
          refine ⟨_, _, _, _, rfl, .tup hp, rfl, iteF ?_⟩
          refine rd_tup ha2 ix ?_
          refine ⟨p, _, rfl, .inr (SqT.of hp), fun l hl => ?_⟩
          refine ⟨l, is, rfl, upd_same, ?_⟩
          try simp only [rv0,rvS,rC,rOp,rUn,rTest,rB,rBl,rI0i,rIi,rUi,rEqi,rNei,rEqb,rNeb,rNot,rAnd,rOr,rAndV,rOrV,rNotV,rIf,rSeq,rNext,rDrop,rRet,rRetN,rIfS,rAsg,rName,rNil,rCons,rCB,rBM,rCall,rTup,rLst,rSl,rNoPart,rPart,rInt,rChain,rComp,rIList,rITup,rIRng1,rK,rKn,rKc,rRaise,rIsN,rNotN,rBM0,rFld,rSFld,rMeth,rMake,rGSub,rIRngThree,rTryIf,rMCall,rMMeth,rTryR2,List.set_cons_zero,List.set_cons_succ,List.append_nil,capS,List.map_cons,List.map_nil,List.nil_append,List.cons_append,List.getD_cons_zero,List.getD_cons_succ]
          exact iteF ⟨s2.trans (Same.upd_new hl), _, rfl⟩
      · rintro σ H2 ⟨s2, v, rfl⟩
        try simp only [rv0,rvS,rC,rOp,rUn,rTest,rB,rBl,rI0i,rIi,rUi,rEqi,rNei,rEqb,rNeb,rNot,rAnd,rOr,rAndV,rOrV,rNotV,rIf,rSeq,rNext,rDrop,rRet,rRetN,rIfS,rAsg,rName,rNil,rCons,rCB,rBM,rCall,rTup,rLst,rSl,rNoPart,rPart,rInt,rChain,rComp,rIList,rITup,rIRng1,rK,rKn,rKc,rRaise,rIsN,rNotN,rBM0,rFld,rSFld,rMeth,rMake,rGSub,rIRngThree,rTryIf,rMCall,rMMeth,rTryR2,List.set_cons_zero,List.set_cons_succ,List.append_nil,capS,List.map_cons,List.map_nil,List.nil_append,List.cons_append,List.getD_cons_zero,List.getD_cons_succ]
        refine ⟨.tuple ds, .tuple ds, hx.mono s2, hy.mono s2, hsh, hsh, ?_⟩
        rw [SeqAt.eqv_refl _ hly]
        exact k H2 s2
end
end My
namespace My
open PySem L2
section
variable {P : Program} {w : World} {K : PySem.W.Frag} {mg : Str → Option Value} {base : Heap} {A : Ad}
theorem nice_word (d : Deed) : NiceD (.str (wordD d)) := by
  cases d with
  | lay x y c => exact ⟨.inl ⟨_, rfl⟩, show SeqAt.shaped (.str "no place") = true by decide +kernel, show (PyData.str "no place").canLay0 = true by decide +kernel⟩
  | cost m c => exact ⟨.inl ⟨_, rfl⟩, show SeqAt.shaped (.str "no rope") = true by decide +kernel, show (PyData.str "no rope").canLay0 = true by decide +kernel⟩
  | look => exact ⟨.inl ⟨_, rfl⟩, show SeqAt.shaped (.str "no rope") = true by decide +kernel, show (PyData.str "no rope").canLay0 = true by decide +kernel⟩
theorem el_opt (o : Option Int) : El (optD o) := by
  cases o with
  | none => exact .inr (.inl rfl)
  | some k => exact .inl ⟨k, rfl⟩
theorem lay_opt (o : Option Int) : (optD o).canLay0 = true := by cases o <;> simp [optD, PyData.canLay0]
theorem dep_opt (o : Option Int) : (optD o).depth = 0 := by cases o <;> simp [optD, PyData.depth]
theorem nice_lay (n : Nat) (rs : List RT.Rope) (x y c : Int) : NiceD (ansD n rs (.lay x y c)) := by
  refine ⟨.inr ⟨_, rfl, fun e m => ?_, by simp⟩, ?_, ?_⟩
  · simp only [List.mem_cons, List.mem_nil_iff, or_false] at m
    rcases m with rfl | rfl | rfl
    · exact .inl ⟨_, rfl⟩
    · exact el_opt _
    · exact .inl ⟨_, rfl⟩
  · simp [ansD, SeqAt.shaped, PyData.canLay0, PyData.canLayAll0, PyData.depth, PyData.depthAll, lay_opt, dep_opt]
  · simp [ansD, PyData.canLay0, PyData.canLayAll0, lay_opt]
theorem nice_cost {n : Nat} {rs : List RT.Rope} {k c : Int} (v : RT.Okr n rs) (hk : 0 ≤ k ∧ k < (rs.length : Int)) (L : RT.Least n rs (RT.lt n rs)) (M : RT.Least n (RT.recst rs k c) (RT.lt n (RT.recst rs k c))) : NiceD (ansD n rs (.cost k c)) := by
  have key : exchD (RT.lt n rs) (RT.lt n (RT.recst rs k c)) = .none ∨ ∃ g i : Int, exchD (RT.lt n rs) (RT.lt n (RT.recst rs k c)) = .tuple (([g, i] : List Int).map .int) := by
    unfold exchD
    cases e : RT.miss (RT.lt n rs) (RT.lt n (RT.recst rs k c)) with
    | none => exact .inl rfl
    | some g =>
      obtain ⟨i, ei⟩ := RT.miss_back v hk L M e
      refine .inr ⟨g, i, ?_⟩
      rw [ei]
      rfl
  refine ⟨.inr ⟨_, rfl, fun e m => ?_, by simp⟩, ?_, ?_⟩
  · simp only [List.mem_cons, List.mem_nil_iff, or_false] at m
    rcases m with rfl | rfl
    · rcases key with e | ⟨g, i, e⟩
      · rw [e]; exact .inr (.inl rfl)
      · rw [e]; exact .inr (.inr ⟨[g, i], rfl⟩)
    · exact .inl ⟨_, rfl⟩
  · show SeqAt.shaped (.tuple [exchD (RT.lt n rs) (RT.lt n (RT.recst rs k c)), .int (RT.sumC (RT.recst rs k c) (RT.lt n (RT.recst rs k c)))]) = true
    rcases key with e | ⟨g, i, e⟩ <;> rw [e] <;> simp [SeqAt.shaped, PyData.canLay0, PyData.canLayAll0, PyData.depth, PyData.depthAll]
  · show (PyData.tuple [exchD (RT.lt n rs) (RT.lt n (RT.recst rs k c)), .int (RT.sumC (RT.recst rs k c) (RT.lt n (RT.recst rs k c)))]).canLay0 = true
    rcases key with e | ⟨g, i, e⟩ <;> rw [e] <;> simp [PyData.canLay0, PyData.canLayAll0]
theorem filt_eq (xs ys : List Int) : (xs.map V.int).filter (fun x => match x with | .int z => !ys.contains z | _ => false) = (xs.filter fun z => !ys.contains z).map V.int := by
  rw [List.filter_map]
  rfl
theorem head_opt (l : List Int) : atI (l.map V.int ++ [.non]) 0 = some (optV l.head?) := by
  cases l with
  | nil => exact atI_int (Int.le_refl 0) rfl
  | cons x r => exact atI_int (Int.le_refl 0) rfl
noncomputable def sp__law_due_for : Sp := fun vs H Q _ => ∃ (lr dp : Addr) (n : Nat) (rs : List RT.Rope) (d : Deed), vs = [.int n, .ref lr, .ref dp] ∧ Rep H (ropesD rs) (.ref lr) ∧ RT.Okr n rs ∧ Rep H (deedD d) (.ref dp) ∧ d ≠ .look ∧ n ≤ 1000 ∧ rs.length < 60 ∧
  ∀ v H' xs', (∀ b o, H b = some o → b ≠ lr → H' b = some o) → H' lr = some (.lst xs') → Reps H' ((next n rs d).map ropeD) xs' → NiceD (toldD n rs d) → Rep H' (toldD n rs d) v → Q v H'
theorem ok__law_due_for (T : Txt K mg A) : FnOk P w K mg base CX0 2 A.a__law_due_for A.d__law_due_for ["_law_count", "_law_ropes", "_law_deed"] sp__law_due_for := by
  have G__law_least_of : FnOk P w K mg base CX0 _ _ _ _ _ := ok__law_least_of T
  refine T.f__law_due_for.ok sc__law_due_for (fun vs H Q E h => ?_) (fun cdv A' outer s H vs Q E hr h => ?_)
  · obtain ⟨lr, dp, n, rs, d, rfl, _⟩ := h
    rfl
  · obtain ⟨lr, dp, n, rs, d, rfl, hrep, hv, hd, hnl, hn, hl, k⟩ := h
    obtain ⟨lr', xr, e, hlr, hxr⟩ := rep_lst.mp hrep
    cases e
    have big := big1000
    have lxr : xr.length = rs.length := by have := hxr.length; rw [List.length_map] at this; exact this.symm
    have bad : okD n rs d = false → ∀ H1, Same H H1 → Q (.str (wordD d)) H1 := fun ok H1 s1 => by
      have et : toldD n rs d = .str (wordD d) := by unfold toldD; rw [ok, if_neg Bool.false_ne_true]
      refine k _ H1 xr (fun b o e _ => s1 b o e) (s1 _ _ hlr) ?_ (by rw [et]; exact nice_word _) (by rw [et]; exact rep_str.mpr rfl)
      unfold next; rw [ok, if_neg Bool.false_ne_true]; exact hxr.mono s1
    refine ⟨_, (pss_cons (ps_set (i := 3) sc__law_due_for.nd rfl (Or.inr rfl) (pe_call G__law_least_of (hr.mono (by decide)) rfl T.m__law_least_of T.k__law_least_of T.b__law_least_of .nil pass0 (pa_cons (pv 0) (pa_cons (pv 1) pa_nil))))
      (pss_cons (ps_cut (ps_if (pt_cmpR op_eq (pe_ix ix_tup (pv 2) pe_int (fun _ _ => rfl)) pe_str (nomark _)) (pss_cons (ps_for PassesOwn.never rfl (pi_tup (pe_slice sl_tup (pv 2) (po_some pe_int) (po_some pe_int))) (pg_name (i := 4) sc__law_due_for.nd rfl (Or.inl rfl))
      (pss_one (ps_if (PW.pt (pw_or (pt_cmpR op_lt (pv 4) pe_int (nomark _)) (pw_or1 (pt_cmpR op_ge (pv 4) (pv 0) (nomark _))))) (pss_one (ps_ret pe_str)) pss_nil)))
      (pss_one (ps_expr (pe_bm PySem.F.plainAttrs_list PySem.F.slot_list_append PySem.F.type_list_append mt_append (pv 1) (pa_cons (pe_slice sl_tup (pv 2) (po_some pe_int) po_none) pa_nil))))) (pss_cons (ps_if (PW.pt (pw_or (pt_cmpR op_lt (pe_ix ix_tup (pv 2) pe_int (fun _ _ => rfl)) pe_int (nomark _)) (pw_or1 (pt_cmpR op_ge (pe_ix ix_tup (pv 2) pe_int (fun _ _ => rfl)) (pe_callB call_len_seq rfl T.z_len bo_len (pa_cons (pv 1) pa_nil)) (nomark _))))) (pss_one (ps_ret pe_str)) pss_nil)
      (pss_one (ps_asg (pe_tup (pa_cons (pe_ix ix_tup (pe_ix ix_list (pv 1) (pe_ix ix_tup (pv 2) pe_int (fun _ _ => rfl)) (fun _ _ => rfl)) pe_int (fun _ _ => rfl)) (pa_cons (pe_ix ix_tup (pe_ix ix_list (pv 1) (pe_ix ix_tup (pv 2) pe_int (fun _ _ => rfl)) (fun _ _ => rfl)) pe_int (fun _ _ => rfl)) (pa_cons (pe_ix ix_tup (pv 2) pe_int (fun _ _ => rfl)) pa_nil)))) (pg_sub (pv 1) (pe_ix ix_tup (pv 2) pe_int (fun _ _ => rfl)) set_list))))))
      (pss_cons (ps_set (i := 5) sc__law_due_for.nd rfl (Or.inr rfl) (pe_call G__law_least_of (hr.mono (by decide)) rfl T.m__law_least_of T.k__law_least_of T.b__law_least_of .nil pass0 (pa_cons (pv 0) (pa_cons (pv 1) pa_nil))))
      (pss_cons (ps_cut (ps_set (i := 6) sc__law_due_for.nd rfl (Or.inl rfl) (pe_ix ix_list (pe_op op_cat (pe_comp1 rfl (CompOk.of (os := defScope s__law_due_for) (N := ["_law_count", "_law_ropes", "_law_deed", "_law_before", "_law_place", "_law_after", "_law_gone", "_law_come", "_law_cost"]) (ts := ["_law_k"]) (cs := [5]) (by decide +kernel) rfl rfl) (pi_list (pv 3)) (fun _ _ _ _ _ => (pif_one (pt_cmpR opc_notIn_seq (pv 0) (pv 1) (by rfl)))) (fun _ _ _ _ _ => (pv 0))) (pe_lst (pa_cons pe_non pa_nil))) pe_int (fun _ _ => rfl))))
      (pss_cons (ps_cut (ps_set (i := 7) sc__law_due_for.nd rfl (Or.inl rfl) (pe_ix ix_list (pe_op op_cat (pe_comp1 rfl (CompOk.of (os := defScope s__law_due_for) (N := ["_law_count", "_law_ropes", "_law_deed", "_law_before", "_law_place", "_law_after", "_law_gone", "_law_come", "_law_cost"]) (ts := ["_law_k"]) (cs := [3]) (by decide +kernel) rfl rfl) (pi_list (pv 5)) (fun _ _ _ _ _ => (pif_one (pt_cmpR opc_notIn_seq (pv 0) (pv 1) (by rfl)))) (fun _ _ _ _ _ => (pv 0))) (pe_lst (pa_cons pe_non pa_nil))) pe_int (fun _ _ => rfl))))
      (pss_cons (ps_set (i := 8) sc__law_due_for.nd rfl (Or.inl rfl) (pe_callB (call_sumI rfl) rfl T.z_sum bo_sum (pa_cons (pe_comp1 rfl (CompOk.of (os := defScope s__law_due_for) (N := ["_law_count", "_law_ropes", "_law_deed", "_law_before", "_law_place", "_law_after", "_law_gone", "_law_come", "_law_cost"]) (ts := ["_law_k"]) (cs := [1]) (by decide +kernel) rfl rfl) (pi_list (pv 5)) (fun _ _ _ _ _ => pif_nil) (fun _ _ _ _ _ => (pe_ix ixc_tup (pe_ix ixc_list (pv 1) (pv 0) (fun _ _ => rfl)) pe_int (fun _ _ => rfl)))) pa_nil)))
      (pss_cons (ps_if (pt_cmpR op_eq (pe_ix ix_tup (pv 2) pe_int (fun _ _ => rfl)) pe_str (nomark _)) (pss_one (ps_ret (pe_tup (pa_cons (pe_op op_sub (pe_callB call_len_seq rfl T.z_len bo_len (pa_cons (pv 1) pa_nil)) pe_int) (pa_cons (pv 6) (pa_cons (pv 8) pa_nil)))))) pss_nil)
      (pss_cons (ps_if (pt_cmp (pc_isN (pv 6))) (pss_one (ps_ret (pe_tup (pa_cons pe_non (pa_cons (pv 8) pa_nil))))) pss_nil)
      (pss_one (ps_ret (pe_tup (pa_cons (pe_tup (pa_cons (pv 6) (pa_cons (pv 7) pa_nil))) (pa_cons (pv 8) pa_nil))))))))))))), ?_⟩
    rw [show start ["_law_count", "_law_ropes", "_law_deed", "_law_before", "_law_place", "_law_after", "_law_gone", "_law_come", "_law_cost"] [.int n, .ref lr, .ref dp] = [some (.int n), some (.ref lr), some (.ref dp), none, none, none, none, none, none] from rfl]
    try simp only [rv0,rvS,rC,rOp,rUn,rTest,rB,rBl,rI0i,rIi,rUi,rEqi,rNei,rEqb,rNeb,rNot,rAnd,rOr,rAndV,rOrV,rNotV,rIf,rSeq,rNext,rDrop,rRet,rRetN,rIfS,rAsg,rName,rNil,rCons,rCB,rBM,rCall,rTup,rLst,rSl,rNoPart,rPart,rInt,rChain,rComp,rIList,rITup,rIRng1,rK,rKn,rKc,rRaise,rIsN,rNotN,rBM0,rFld,rSFld,rMeth,rMake,rGSub,rIRngThree,rTryIf,rMCall,rMMeth,rTryR2,List.set_cons_zero,List.set_cons_succ,List.append_nil,capS,List.map_cons,List.map_nil,List.nil_append,List.cons_append,List.getD_cons_zero,List.getD_cons_succ]
    refine ⟨n, lr, rs, rfl, hrep, hv, hn, by omega, fun bp H1 ns s1 nbp L ebp => ?_⟩
    have e0 : ns = RT.lt n rs := (RT.lt_eq L).symm
    subst e0
    have nbl : bp ≠ lr := (ne_of_none hlr nbp).symm
    try simp only [rv0,rvS,rC,rOp,rUn,rTest,rB,rBl,rI0i,rIi,rUi,rEqi,rNei,rEqb,rNeb,rNot,rAnd,rOr,rAndV,rOrV,rNotV,rIf,rSeq,rNext,rDrop,rRet,rRetN,rIfS,rAsg,rName,rNil,rCons,rCB,rBM,rCall,rTup,rLst,rSl,rNoPart,rPart,rInt,rChain,rComp,rIList,rITup,rIRng1,rK,rKn,rKc,rRaise,rIsN,rNotN,rBM0,rFld,rSFld,rMeth,rMake,rGSub,rIRngThree,rTryIf,rMCall,rMMeth,rTryR2,List.set_cons_zero,List.set_cons_succ,List.append_nil,capS,List.map_cons,List.map_nil,List.nil_append,List.cons_append,List.getD_cons_zero,List.getD_cons_succ]
    refine ⟨fun σ' H' => okD n rs d = true ∧ ∃ (v4 : Option V) (xs' : List V), σ' = [some (.int n), some (.ref lr), some (.ref dp), some (.ref bp), v4, none, none, none, none] ∧ (∀ b o, H1 b = some o → b ≠ lr → H' b = some o) ∧ H' lr = some (.lst xs') ∧ Reps H' ((aft rs d).map ropeD) xs', ?_, ?_⟩
    · cases d with
      | lay x y c =>
        obtain ⟨dp', e, hd⟩ := rep_lay hd
        cases e
        have hd1 := s1 _ _ hd
        try simp only [rv0,rvS,rC,rOp,rUn,rTest,rB,rBl,rI0i,rIi,rUi,rEqi,rNei,rEqb,rNeb,rNot,rAnd,rOr,rAndV,rOrV,rNotV,rIf,rSeq,rNext,rDrop,rRet,rRetN,rIfS,rAsg,rName,rNil,rCons,rCB,rBM,rCall,rTup,rLst,rSl,rNoPart,rPart,rInt,rChain,rComp,rIList,rITup,rIRng1,rK,rKn,rKc,rRaise,rIsN,rNotN,rBM0,rFld,rSFld,rMeth,rMake,rGSub,rIRngThree,rTryIf,rMCall,rMMeth,rTryR2,List.set_cons_zero,List.set_cons_succ,List.append_nil,capS,List.map_cons,List.map_nil,List.nil_append,List.cons_append,List.getD_cons_zero,List.getD_cons_succ]
        refine rd_tup hd1 rfl ?_
        try simp only [rv0,rvS,rC,rOp,rUn,rTest,rB,rBl,rI0i,rIi,rUi,rEqi,rNei,rEqb,rNeb,rNot,rAnd,rOr,rAndV,rOrV,rNotV,rIf,rSeq,rNext,rDrop,rRet,rRetN,rIfS,rAsg,rName,rNil,rCons,rCB,rBM,rCall,rTup,rLst,rSl,rNoPart,rPart,rInt,rChain,rComp,rIList,rITup,rIRng1,rK,rKn,rKc,rRaise,rIsN,rNotN,rBM0,rFld,rSFld,rMeth,rMake,rGSub,rIRngThree,rTryIf,rMCall,rMMeth,rTryR2,List.set_cons_zero,List.set_cons_succ,List.append_nil,capS,List.map_cons,List.map_nil,List.nil_append,List.cons_append,List.getD_cons_zero,List.getD_cons_succ]
        refine ⟨rfl, _, rfl, ite2 (fun _ => ?_) (fun c => absurd (decide_eq_true rfl) c)⟩
        try simp only [rv0,rvS,rC,rOp,rUn,rTest,rB,rBl,rI0i,rIi,rUi,rEqi,rNei,rEqb,rNeb,rNot,rAnd,rOr,rAndV,rOrV,rNotV,rIf,rSeq,rNext,rDrop,rRet,rRetN,rIfS,rAsg,rName,rNil,rCons,rCB,rBM,rCall,rTup,rLst,rSl,rNoPart,rPart,rInt,rChain,rComp,rIList,rITup,rIRng1,rK,rKn,rKc,rRaise,rIsN,rNotN,rBM0,rFld,rSFld,rMeth,rMake,rGSub,rIRngThree,rTryIf,rMCall,rMMeth,rTryR2,List.set_cons_zero,List.set_cons_succ,List.append_nil,capS,List.map_cons,List.map_nil,List.nil_append,List.cons_append,List.getD_cons_zero,List.getD_cons_succ]
        refine it_key (fun J H' => ∃ tq, J = Itt K tq ∧ Same H1 H' ∧ H' tq = some (.tup [.int x, .int y])) (fun KK hKK => ?_) ?_
        · try simp only [rv0,rvS,rC,rOp,rUn,rTest,rB,rBl,rI0i,rIi,rUi,rEqi,rNei,rEqb,rNeb,rNot,rAnd,rOr,rAndV,rOrV,rNotV,rIf,rSeq,rNext,rDrop,rRet,rRetN,rIfS,rAsg,rName,rNil,rCons,rCB,rBM,rCall,rTup,rLst,rSl,rNoPart,rPart,rInt,rChain,rComp,rIList,rITup,rIRng1,rK,rKn,rKc,rRaise,rIsN,rNotN,rBM0,rFld,rSFld,rMeth,rMake,rGSub,rIRngThree,rTryIf,rMCall,rMMeth,rTryR2,List.set_cons_zero,List.set_cons_succ,List.append_nil,capS,List.map_cons,List.map_nil,List.nil_append,List.cons_append,List.getD_cons_zero,List.getD_cons_succ]
          refine ⟨dp, _, rfl, SqT.of hd1, (fun z => absurd (show HT.sIx 4 0 (some 1) = 0 from z.1) (by decide)), fun tq ntq => ⟨tq, rfl, ⟨_, SqT.of upd_same⟩, hKK _ _ ⟨tq, rfl, Same.upd_new ntq, upd_same⟩⟩⟩
        rintro J H2 ⟨tq, rfl, s2, htq⟩
        have t2 := s1.trans s2
        refine for_tup (K := K) (a := tq) (xs := [.int x, .int y]) (fun i σ H3 => H3 = H2 ∧ (∃ v, σ = [some (.int n), some (.ref lr), some (.ref dp), some (.ref bp), v, none, none, none, none]) ∧ (0 < i → 0 ≤ x ∧ x < (n : Int)) ∧ (1 < i → 0 ≤ y ∧ y < (n : Int))) ⟨rfl, ⟨none, rfl⟩, fun z => absurd z (by decide), fun z => absurd z (by decide)⟩ (fun i σ H3 _ ⟨e, _⟩ => by rw [e]; exact SqT.of htq) ?_ ?_
        · rintro i z σ H3 hz ⟨rfl, ⟨v, rfl⟩, h1, h2⟩
          have hz2 : (i = 0 ∧ z = .int x) ∨ (i = 1 ∧ z = .int y) := by
            match i, hz with
            | 0, hz => exact .inl ⟨rfl, by simpa using hz.symm⟩
            | 1, hz => exact .inr ⟨rfl, by simpa using hz.symm⟩
            | i + 2, hz => simp at hz
          rcases hz2 with ⟨rfl, rfl⟩ | ⟨rfl, rfl⟩
          · try simp only [rv0,rvS,rC,rOp,rUn,rTest,rB,rBl,rI0i,rIi,rUi,rEqi,rNei,rEqb,rNeb,rNot,rAnd,rOr,rAndV,rOrV,rNotV,rIf,rSeq,rNext,rDrop,rRet,rRetN,rIfS,rAsg,rName,rNil,rCons,rCB,rBM,rCall,rTup,rLst,rSl,rNoPart,rPart,rInt,rChain,rComp,rIList,rITup,rIRng1,rK,rKn,rKc,rRaise,rIsN,rNotN,rBM0,rFld,rSFld,rMeth,rMake,rGSub,rIRngThree,rTryIf,rMCall,rMMeth,rTryR2,List.set_cons_zero,List.set_cons_succ,List.append_nil,capS,List.map_cons,List.map_nil,List.nil_append,List.cons_append,List.getD_cons_zero,List.getD_cons_succ]
            refine iteOr (fun c => ?_) (fun c => ?_)
            · have c : x < 0 ∨ x ≥ (n : Int) := by simpa using c
              exact bad (decide_eq_false (by omega)) _ t2
            · have c : ¬ (x < 0 ∨ x ≥ (n : Int)) := by simpa using c
              exact ⟨trivial, ⟨_, rfl⟩, fun _ => by omega, fun z => absurd z (by decide)⟩
          · try simp only [rv0,rvS,rC,rOp,rUn,rTest,rB,rBl,rI0i,rIi,rUi,rEqi,rNei,rEqb,rNeb,rNot,rAnd,rOr,rAndV,rOrV,rNotV,rIf,rSeq,rNext,rDrop,rRet,rRetN,rIfS,rAsg,rName,rNil,rCons,rCB,rBM,rCall,rTup,rLst,rSl,rNoPart,rPart,rInt,rChain,rComp,rIList,rITup,rIRng1,rK,rKn,rKc,rRaise,rIsN,rNotN,rBM0,rFld,rSFld,rMeth,rMake,rGSub,rIRngThree,rTryIf,rMCall,rMMeth,rTryR2,List.set_cons_zero,List.set_cons_succ,List.append_nil,capS,List.map_cons,List.map_nil,List.nil_append,List.cons_append,List.getD_cons_zero,List.getD_cons_succ]
            refine iteOr (fun c => ?_) (fun c => ?_)
            · have c : y < 0 ∨ y ≥ (n : Int) := by simpa using c
              exact bad (decide_eq_false (by omega)) _ t2
            · have c : ¬ (y < 0 ∨ y ≥ (n : Int)) := by simpa using c
              exact ⟨trivial, ⟨_, rfl⟩, fun _ => h1 (by decide), fun _ => by omega⟩
        · rintro σ H3 ⟨rfl, ⟨v, rfl⟩, h1, h2⟩
          have okk : okD n rs (.lay x y c) = true := decide_eq_true ⟨h1 (show (0 : Nat) < 2 by decide), h2 (show (1 : Nat) < 2 by decide)⟩
          have hlr2 := t2 _ _ hlr
          try simp only [rv0,rvS,rC,rOp,rUn,rTest,rB,rBl,rI0i,rIi,rUi,rEqi,rNei,rEqb,rNeb,rNot,rAnd,rOr,rAndV,rOrV,rNotV,rIf,rSeq,rNext,rDrop,rRet,rRetN,rIfS,rAsg,rName,rNil,rCons,rCB,rBM,rCall,rTup,rLst,rSl,rNoPart,rPart,rInt,rChain,rComp,rIList,rITup,rIRng1,rK,rKn,rKc,rRaise,rIsN,rNotN,rBM0,rFld,rSFld,rMeth,rMake,rGSub,rIRngThree,rTryIf,rMCall,rMMeth,rTryR2,List.set_cons_zero,List.set_cons_succ,List.append_nil,capS,List.map_cons,List.map_nil,List.nil_append,List.cons_append,List.getD_cons_zero,List.getD_cons_succ]
          refine ⟨.inl ⟨rfl, _, SqL.of hlr2⟩, dp, _, rfl, SqT.of (s2 _ _ hd1), (fun z => absurd (show HT.sIx 4 0 (some 1) = 0 from z.1) (by decide)), fun q nq => ?_⟩
          have s3 := Same.upd_new (o := .tup [.int x, .int y, .int c]) nq
          have g3 : upd H3 q (.tup [.int x, .int y, .int c]) q = some (.tup [.int x, .int y, .int c]) := upd_same
          refine ⟨lr, xr, _, rfl, rfl, s3 _ _ hlr2, by omega, ?_⟩
          refine ⟨okk, _, xr ++ [.ref q], rfl, fun b o e nb => ?_, upd_same, ?_⟩
          · show upd (upd H3 q (.tup [.int x, .int y, .int c])) lr _ b = some o
            rw [upd_ne nb]
            exact s3 _ _ (s2 _ _ e)
          · show Reps (upd (upd H3 q (.tup [.int x, .int y, .int c])) lr _) ((rs ++ [(x, y, c)]).map ropeD) _
            rw [List.map_append]
            refine (ropes_upd (s3 _ _ hlr2) (hxr.mono (t2.trans s3))).append (reps_cc.mpr ⟨rep_rope.mpr ⟨q, rfl, ?_⟩, reps_nil.mpr rfl⟩)
            rw [upd_ne (ne_of g3 (s3 _ _ hlr2) (by intro z; cases z))]
            exact g3
      | cost m c =>
        obtain ⟨dp', e, hd⟩ := rep_cost hd
        cases e
        have hd1 := s1 _ _ hd
        try simp only [rv0,rvS,rC,rOp,rUn,rTest,rB,rBl,rI0i,rIi,rUi,rEqi,rNei,rEqb,rNeb,rNot,rAnd,rOr,rAndV,rOrV,rNotV,rIf,rSeq,rNext,rDrop,rRet,rRetN,rIfS,rAsg,rName,rNil,rCons,rCB,rBM,rCall,rTup,rLst,rSl,rNoPart,rPart,rInt,rChain,rComp,rIList,rITup,rIRng1,rK,rKn,rKc,rRaise,rIsN,rNotN,rBM0,rFld,rSFld,rMeth,rMake,rGSub,rIRngThree,rTryIf,rMCall,rMMeth,rTryR2,List.set_cons_zero,List.set_cons_succ,List.append_nil,capS,List.map_cons,List.map_nil,List.nil_append,List.cons_append,List.getD_cons_zero,List.getD_cons_succ]
        refine rd_tup hd1 rfl ?_
        try simp only [rv0,rvS,rC,rOp,rUn,rTest,rB,rBl,rI0i,rIi,rUi,rEqi,rNei,rEqb,rNeb,rNot,rAnd,rOr,rAndV,rOrV,rNotV,rIf,rSeq,rNext,rDrop,rRet,rRetN,rIfS,rAsg,rName,rNil,rCons,rCB,rBM,rCall,rTup,rLst,rSl,rNoPart,rPart,rInt,rChain,rComp,rIList,rITup,rIRng1,rK,rKn,rKc,rRaise,rIsN,rNotN,rBM0,rFld,rSFld,rMeth,rMake,rGSub,rIRngThree,rTryIf,rMCall,rMMeth,rTryR2,List.set_cons_zero,List.set_cons_succ,List.append_nil,capS,List.map_cons,List.map_nil,List.nil_append,List.cons_append,List.getD_cons_zero,List.getD_cons_succ]
        refine ⟨rfl, _, rfl, ite2 (fun c => absurd (of_decide_eq_true c) cost_lay) (fun _ => ?_)⟩
        try simp only [rv0,rvS,rC,rOp,rUn,rTest,rB,rBl,rI0i,rIi,rUi,rEqi,rNei,rEqb,rNeb,rNot,rAnd,rOr,rAndV,rOrV,rNotV,rIf,rSeq,rNext,rDrop,rRet,rRetN,rIfS,rAsg,rName,rNil,rCons,rCB,rBM,rCall,rTup,rLst,rSl,rNoPart,rPart,rInt,rChain,rComp,rIList,rITup,rIRng1,rK,rKn,rKc,rRaise,rIsN,rNotN,rBM0,rFld,rSFld,rMeth,rMake,rGSub,rIRngThree,rTryIf,rMCall,rMMeth,rTryR2,List.set_cons_zero,List.set_cons_succ,List.append_nil,capS,List.map_cons,List.map_nil,List.nil_append,List.cons_append,List.getD_cons_zero,List.getD_cons_succ]
        refine rd_tup hd1 rfl ?_
        try simp only [rv0,rvS,rC,rOp,rUn,rTest,rB,rBl,rI0i,rIi,rUi,rEqi,rNei,rEqb,rNeb,rNot,rAnd,rOr,rAndV,rOrV,rNotV,rIf,rSeq,rNext,rDrop,rRet,rRetN,rIfS,rAsg,rName,rNil,rCons,rCB,rBM,rCall,rTup,rLst,rSl,rNoPart,rPart,rInt,rChain,rComp,rIList,rITup,rIRng1,rK,rKn,rKc,rRaise,rIsN,rNotN,rBM0,rFld,rSFld,rMeth,rMake,rGSub,rIRngThree,rTryIf,rMCall,rMMeth,rTryR2,List.set_cons_zero,List.set_cons_succ,List.append_nil,capS,List.map_cons,List.map_nil,List.nil_append,List.cons_append,List.getD_cons_zero,List.getD_cons_succ]
        refine ite2 (fun c1 => ?_) (fun c1 => ?_)
        · have c1 : m < 0 := by simpa using c1
          exact bad (decide_eq_false (by omega)) _ s1
        have c1 : ¬ m < 0 := by simpa using c1
        refine rd_tup hd1 rfl ?_
        refine ⟨lr, _, rfl, .inl (SqL.of (s1 _ _ hlr)), ?_⟩
        try simp only [rv0,rvS,rC,rOp,rUn,rTest,rB,rBl,rI0i,rIi,rUi,rEqi,rNei,rEqb,rNeb,rNot,rAnd,rOr,rAndV,rOrV,rNotV,rIf,rSeq,rNext,rDrop,rRet,rRetN,rIfS,rAsg,rName,rNil,rCons,rCB,rBM,rCall,rTup,rLst,rSl,rNoPart,rPart,rInt,rChain,rComp,rIList,rITup,rIRng1,rK,rKn,rKc,rRaise,rIsN,rNotN,rBM0,rFld,rSFld,rMeth,rMake,rGSub,rIRngThree,rTryIf,rMCall,rMMeth,rTryR2,List.set_cons_zero,List.set_cons_succ,List.append_nil,capS,List.map_cons,List.map_nil,List.nil_append,List.cons_append,List.getD_cons_zero,List.getD_cons_succ]
        refine ite2 (fun c2 => ?_) (fun c2 => ?_)
        · have c2 : m ≥ (xr.length : Int) := by simpa using c2
          exact bad (decide_eq_false (by omega)) _ s1
        have c2 : ¬ m ≥ (xr.length : Int) := by simpa using c2
        have hm : 0 ≤ m ∧ m < (rs.length : Int) := by omega
        have hxr1 := hxr.mono s1
        have hlr1 := s1 _ _ hlr
        obtain ⟨rp, hp1, hp2⟩ := ropes_at hxr1 hm.1 hm.2
        have hp2 : H1 rp = some (.tup [.int (RT.rp rs m).1, .int (RT.rp rs m).2.1, .int (RT.rp rs m).2.2]) := hp2
        try simp only [rv0,rvS,rC,rOp,rUn,rTest,rB,rBl,rI0i,rIi,rUi,rEqi,rNei,rEqb,rNeb,rNot,rAnd,rOr,rAndV,rOrV,rNotV,rIf,rSeq,rNext,rDrop,rRet,rRetN,rIfS,rAsg,rName,rNil,rCons,rCB,rBM,rCall,rTup,rLst,rSl,rNoPart,rPart,rInt,rChain,rComp,rIList,rITup,rIRng1,rK,rKn,rKc,rRaise,rIsN,rNotN,rBM0,rFld,rSFld,rMeth,rMake,rGSub,rIRngThree,rTryIf,rMCall,rMMeth,rTryR2,List.set_cons_zero,List.set_cons_succ,List.append_nil,capS,List.map_cons,List.map_nil,List.nil_append,List.cons_append,List.getD_cons_zero,List.getD_cons_succ]
        refine rd_tup hd1 rfl (rd_list hlr1 hp1 (rd_tup hp2 rfl ?_))
        refine rd_tup hd1 rfl (rd_list hlr1 hp1 (rd_tup hp2 rfl ?_))
        refine rd_tup hd1 rfl ?_
        refine ⟨show 3 ≤ sizeLine by decide, fun q nq => ?_⟩
        have t2 : Same H1 (upd H1 q (.tup [.int (RT.rp rs m).1, .int (RT.rp rs m).2.1, .int c])) := Same.upd_new nq
        have g2 : upd H1 q (.tup [.int (RT.rp rs m).1, .int (RT.rp rs m).2.1, .int c]) q = some (.tup [.int (RT.rp rs m).1, .int (RT.rp rs m).2.1, .int c]) := upd_same
        generalize upd H1 q (.tup [.int (RT.rp rs m).1, .int (RT.rp rs m).2.1, .int c]) = H2 at t2 g2 ⊢
        have hlr2 := t2 _ _ hlr1
        refine rd_tup (t2 _ _ hd1) rfl ?_
        refine ⟨lr, xr, m, m.toNat, rfl, rfl, hlr2, by unfold ixN; rw [if_pos hm.1, if_pos (by omega)], ?_⟩
        refine ⟨decide_eq_true hm, _, xr.set m.toNat (.ref q), rfl, fun b o e nb => by rw [upd_ne nb]; exact t2 _ _ e, upd_same, ?_⟩
        show Reps _ ((RT.recst rs m c).map ropeD) _
        unfold RT.recst
        rw [List.map_set]
        exact reps_set (ropes_upd hlr2 (hxr1.mono t2)) (rep_rope.mpr ⟨q, rfl, by rw [upd_ne (ne_of g2 hlr2 (by intro z; cases z))]; exact g2⟩)
      | look => exact absurd rfl hnl
    rintro σ' H2 ⟨ok, v4, xs', rfl, kp, hl2, hx2⟩
    have hok := okr_aft hv ok
    have hla := len_aft rs d
    have rep2 : Rep H2 (ropesD (aft rs d)) (.ref lr) := rep_lst.mpr ⟨lr, xs', rfl, hl2, hx2⟩
    try simp only [rv0,rvS,rC,rOp,rUn,rTest,rB,rBl,rI0i,rIi,rUi,rEqi,rNei,rEqb,rNeb,rNot,rAnd,rOr,rAndV,rOrV,rNotV,rIf,rSeq,rNext,rDrop,rRet,rRetN,rIfS,rAsg,rName,rNil,rCons,rCB,rBM,rCall,rTup,rLst,rSl,rNoPart,rPart,rInt,rChain,rComp,rIList,rITup,rIRng1,rK,rKn,rKc,rRaise,rIsN,rNotN,rBM0,rFld,rSFld,rMeth,rMake,rGSub,rIRngThree,rTryIf,rMCall,rMMeth,rTryR2,List.set_cons_zero,List.set_cons_succ,List.append_nil,capS,List.map_cons,List.map_nil,List.nil_append,List.cons_append,List.getD_cons_zero,List.getD_cons_succ]
    refine ⟨n, lr, aft rs d, rfl, rep2, hok, hn, by omega, fun ap H3 ns s3 nap M eap => ?_⟩
    have e0 : ns = RT.lt n (aft rs d) := (RT.lt_eq M).symm
    subst e0
    have hb3 := s3 _ _ (kp _ _ ebp nbl)
    have hl3 := s3 _ _ hl2
    have hx3 := hx2.mono s3
    have lb := L.len hv
    have la := M.len hok
    have k3 : ∀ b o, H b = some o → b ≠ lr → H3 b = some o := fun b o e nb => s3 _ _ (kp _ _ (s1 _ _ e) nb)
    have eT : toldD n rs d = ansD n rs d := by unfold toldD; rw [ok, if_pos rfl]
    have eN : next n rs d = aft rs d := by unfold next; rw [ok, if_pos rfl]
    have k4 : ∀ v Hx, Same H3 Hx → NiceD (ansD n rs d) → Rep Hx (ansD n rs d) v → Q v Hx := fun v Hx sx nice r => by
      refine k v Hx xs' (fun b o e nb => sx _ _ (k3 b o e nb)) (sx _ _ hl3) ?_ (by rw [eT]; exact nice) (by rw [eT]; exact r)
      rw [eN]; exact hx3.mono sx
    try simp only [rv0,rvS,rC,rOp,rUn,rTest,rB,rBl,rI0i,rIi,rUi,rEqi,rNei,rEqb,rNeb,rNot,rAnd,rOr,rAndV,rOrV,rNotV,rIf,rSeq,rNext,rDrop,rRet,rRetN,rIfS,rAsg,rName,rNil,rCons,rCB,rBM,rCall,rTup,rLst,rSl,rNoPart,rPart,rInt,rChain,rComp,rIList,rITup,rIRng1,rK,rKn,rKc,rRaise,rIsN,rNotN,rBM0,rFld,rSFld,rMeth,rMake,rGSub,rIRngThree,rTryIf,rMCall,rMMeth,rTryR2,List.set_cons_zero,List.set_cons_succ,List.append_nil,capS,List.map_cons,List.map_nil,List.nil_append,List.cons_append,List.getD_cons_zero,List.getD_cons_succ]
    refine ⟨fun σ' H' => σ' = [some (.int n), some (.ref lr), some (.ref dp), some (.ref bp), v4, some (.ref ap), some (optV (RT.miss (RT.lt n rs) (RT.lt n (aft rs d)))), none, none] ∧ Same H3 H', ?_, ?_⟩
    · try simp only [rv0,rvS,rC,rOp,rUn,rTest,rB,rBl,rI0i,rIi,rUi,rEqi,rNei,rEqb,rNeb,rNot,rAnd,rOr,rAndV,rOrV,rNotV,rIf,rSeq,rNext,rDrop,rRet,rRetN,rIfS,rAsg,rName,rNil,rCons,rCB,rBM,rCall,rTup,rLst,rSl,rNoPart,rPart,rInt,rChain,rComp,rIList,rITup,rIRng1,rK,rKn,rKc,rRaise,rIsN,rNotN,rBM0,rFld,rSFld,rMeth,rMake,rGSub,rIRngThree,rTryIf,rMCall,rMMeth,rTryR2,List.set_cons_zero,List.set_cons_succ,List.append_nil,capS,List.map_cons,List.map_nil,List.nil_append,List.cons_append,List.getD_cons_zero,List.getD_cons_succ]
      refine ⟨bp, rfl, ⟨_, SqL.of hb3⟩, fun D2 hD2 => comp_filter_list (fun x => match x with | .int z => !(RT.lt n (aft rs d)).contains z | _ => false) hb3 hD2 (by rw [List.length_map]; omega) (fun x mx H' Q' s4 q => ?_) ?_⟩
      · obtain ⟨z, mz, rfl⟩ := List.mem_map.mp mx
        try simp only [rv0,rvS,rC,rOp,rUn,rTest,rB,rBl,rI0i,rIi,rUi,rEqi,rNei,rEqb,rNeb,rNot,rAnd,rOr,rAndV,rOrV,rNotV,rIf,rSeq,rNext,rDrop,rRet,rRetN,rIfS,rAsg,rName,rNil,rCons,rCB,rBM,rCall,rTup,rLst,rSl,rNoPart,rPart,rInt,rChain,rComp,rIList,rITup,rIRng1,rK,rKn,rKc,rRaise,rIsN,rNotN,rBM0,rFld,rSFld,rMeth,rMake,rGSub,rIRngThree,rTryIf,rMCall,rMMeth,rTryR2,List.set_cons_zero,List.set_cons_succ,List.append_nil,capS,List.map_cons,List.map_nil,List.nil_append,List.cons_append,List.getD_cons_zero,List.getD_cons_succ]
        refine ⟨ap, _, rfl, .inl (SqL.of (s4 _ _ eap)), rfl, flat_ints _, ?_⟩
        simp only [if_true, inV_ints]
        exact ⟨_, rfl, q⟩
      rw [filt_eq]
      have lf := List.length_filter_le (fun z => !(RT.lt n (aft rs d)).contains z) (RT.lt n rs)
      have s4 := Same.upd_new (o := .lst (((RT.lt n rs).filter fun z => !(RT.lt n (aft rs d)).contains z).map V.int)) hD2
      have g4 : upd H3 D2 (.lst (((RT.lt n rs).filter fun z => !(RT.lt n (aft rs d)).contains z).map V.int)) D2 = some (.lst (((RT.lt n rs).filter fun z => !(RT.lt n (aft rs d)).contains z).map V.int)) := upd_same
      generalize upd H3 D2 (.lst (((RT.lt n rs).filter fun z => !(RT.lt n (aft rs d)).contains z).map V.int)) = H4 at s4 g4 ⊢
      try simp only [rv0,rvS,rC,rOp,rUn,rTest,rB,rBl,rI0i,rIi,rUi,rEqi,rNei,rEqb,rNeb,rNot,rAnd,rOr,rAndV,rOrV,rNotV,rIf,rSeq,rNext,rDrop,rRet,rRetN,rIfS,rAsg,rName,rNil,rCons,rCB,rBM,rCall,rTup,rLst,rSl,rNoPart,rPart,rInt,rChain,rComp,rIList,rITup,rIRng1,rK,rKn,rKc,rRaise,rIsN,rNotN,rBM0,rFld,rSFld,rMeth,rMake,rGSub,rIRngThree,rTryIf,rMCall,rMMeth,rTryR2,List.set_cons_zero,List.set_cons_succ,List.append_nil,capS,List.map_cons,List.map_nil,List.nil_append,List.cons_append,List.getD_cons_zero,List.getD_cons_succ]
      refine ⟨show 1 ≤ sizeLine by decide, fun ep nep => ?_⟩
      have s5 := Same.upd_new (o := .lst [.non]) nep
      refine ⟨D2, ep, _, _, rfl, rfl, s5 _ _ g4, upd_same, by rw [List.length_map]; simp only [List.length_cons, List.length_nil]; omega, fun p hp => ?_⟩
      refine rd_list upd_same (head_opt _) ?_
      exact ⟨rfl, (s4.trans s5).trans (Same.upd_new hp)⟩
    rintro σ' H4 ⟨rfl, s4⟩
    have hb4 := s4 _ _ hb3
    have ha4 := s4 _ _ eap
    try simp only [rv0,rvS,rC,rOp,rUn,rTest,rB,rBl,rI0i,rIi,rUi,rEqi,rNei,rEqb,rNeb,rNot,rAnd,rOr,rAndV,rOrV,rNotV,rIf,rSeq,rNext,rDrop,rRet,rRetN,rIfS,rAsg,rName,rNil,rCons,rCB,rBM,rCall,rTup,rLst,rSl,rNoPart,rPart,rInt,rChain,rComp,rIList,rITup,rIRng1,rK,rKn,rKc,rRaise,rIsN,rNotN,rBM0,rFld,rSFld,rMeth,rMake,rGSub,rIRngThree,rTryIf,rMCall,rMMeth,rTryR2,List.set_cons_zero,List.set_cons_succ,List.append_nil,capS,List.map_cons,List.map_nil,List.nil_append,List.cons_append,List.getD_cons_zero,List.getD_cons_succ]
    refine ⟨fun σ' H' => σ' = [some (.int n), some (.ref lr), some (.ref dp), some (.ref bp), v4, some (.ref ap), some (optV (RT.miss (RT.lt n rs) (RT.lt n (aft rs d)))), some (optV (RT.miss (RT.lt n (aft rs d)) (RT.lt n rs))), none] ∧ Same H4 H', ?_, ?_⟩
    · try simp only [rv0,rvS,rC,rOp,rUn,rTest,rB,rBl,rI0i,rIi,rUi,rEqi,rNei,rEqb,rNeb,rNot,rAnd,rOr,rAndV,rOrV,rNotV,rIf,rSeq,rNext,rDrop,rRet,rRetN,rIfS,rAsg,rName,rNil,rCons,rCB,rBM,rCall,rTup,rLst,rSl,rNoPart,rPart,rInt,rChain,rComp,rIList,rITup,rIRng1,rK,rKn,rKc,rRaise,rIsN,rNotN,rBM0,rFld,rSFld,rMeth,rMake,rGSub,rIRngThree,rTryIf,rMCall,rMMeth,rTryR2,List.set_cons_zero,List.set_cons_succ,List.append_nil,capS,List.map_cons,List.map_nil,List.nil_append,List.cons_append,List.getD_cons_zero,List.getD_cons_succ]
      refine ⟨ap, rfl, ⟨_, SqL.of ha4⟩, fun D2 hD2 => comp_filter_list (fun x => match x with | .int z => !(RT.lt n rs).contains z | _ => false) ha4 hD2 (by rw [List.length_map]; omega) (fun x mx H' Q' s5 q => ?_) ?_⟩
      · obtain ⟨z, mz, rfl⟩ := List.mem_map.mp mx
        try simp only [rv0,rvS,rC,rOp,rUn,rTest,rB,rBl,rI0i,rIi,rUi,rEqi,rNei,rEqb,rNeb,rNot,rAnd,rOr,rAndV,rOrV,rNotV,rIf,rSeq,rNext,rDrop,rRet,rRetN,rIfS,rAsg,rName,rNil,rCons,rCB,rBM,rCall,rTup,rLst,rSl,rNoPart,rPart,rInt,rChain,rComp,rIList,rITup,rIRng1,rK,rKn,rKc,rRaise,rIsN,rNotN,rBM0,rFld,rSFld,rMeth,rMake,rGSub,rIRngThree,rTryIf,rMCall,rMMeth,rTryR2,List.set_cons_zero,List.set_cons_succ,List.append_nil,capS,List.map_cons,List.map_nil,List.nil_append,List.cons_append,List.getD_cons_zero,List.getD_cons_succ]
        refine ⟨bp, _, rfl, .inl (SqL.of (s5 _ _ hb4)), rfl, flat_ints _, ?_⟩
        simp only [if_true, inV_ints]
        exact ⟨_, rfl, q⟩
      rw [filt_eq]
      have lf := List.length_filter_le (fun z => !(RT.lt n rs).contains z) (RT.lt n (aft rs d))
      have s5 := Same.upd_new (o := .lst (((RT.lt n (aft rs d)).filter fun z => !(RT.lt n rs).contains z).map V.int)) hD2
      have g5 : upd H4 D2 (.lst (((RT.lt n (aft rs d)).filter fun z => !(RT.lt n rs).contains z).map V.int)) D2 = some (.lst (((RT.lt n (aft rs d)).filter fun z => !(RT.lt n rs).contains z).map V.int)) := upd_same
      generalize upd H4 D2 (.lst (((RT.lt n (aft rs d)).filter fun z => !(RT.lt n rs).contains z).map V.int)) = H5 at s5 g5 ⊢
      try simp only [rv0,rvS,rC,rOp,rUn,rTest,rB,rBl,rI0i,rIi,rUi,rEqi,rNei,rEqb,rNeb,rNot,rAnd,rOr,rAndV,rOrV,rNotV,rIf,rSeq,rNext,rDrop,rRet,rRetN,rIfS,rAsg,rName,rNil,rCons,rCB,rBM,rCall,rTup,rLst,rSl,rNoPart,rPart,rInt,rChain,rComp,rIList,rITup,rIRng1,rK,rKn,rKc,rRaise,rIsN,rNotN,rBM0,rFld,rSFld,rMeth,rMake,rGSub,rIRngThree,rTryIf,rMCall,rMMeth,rTryR2,List.set_cons_zero,List.set_cons_succ,List.append_nil,capS,List.map_cons,List.map_nil,List.nil_append,List.cons_append,List.getD_cons_zero,List.getD_cons_succ]
      refine ⟨show 1 ≤ sizeLine by decide, fun ep nep => ?_⟩
      have s6 := Same.upd_new (o := .lst [.non]) nep
      refine ⟨D2, ep, _, _, rfl, rfl, s6 _ _ g5, upd_same, by rw [List.length_map]; simp only [List.length_cons, List.length_nil]; omega, fun p hp => ?_⟩
      refine rd_list upd_same (head_opt _) ?_
      exact ⟨rfl, (s5.trans s6).trans (Same.upd_new hp)⟩
    rintro σ' H5 ⟨rfl, s5⟩
    have t5 := s4.trans s5
    have ha5 := t5 _ _ eap
    try simp only [rv0,rvS,rC,rOp,rUn,rTest,rB,rBl,rI0i,rIi,rUi,rEqi,rNei,rEqb,rNeb,rNot,rAnd,rOr,rAndV,rOrV,rNotV,rIf,rSeq,rNext,rDrop,rRet,rRetN,rIfS,rAsg,rName,rNil,rCons,rCB,rBM,rCall,rTup,rLst,rSl,rNoPart,rPart,rInt,rChain,rComp,rIList,rITup,rIRng1,rK,rKn,rKc,rRaise,rIsN,rNotN,rBM0,rFld,rSFld,rMeth,rMake,rGSub,rIRngThree,rTryIf,rMCall,rMMeth,rTryR2,List.set_cons_zero,List.set_cons_succ,List.append_nil,capS,List.map_cons,List.map_nil,List.nil_append,List.cons_append,List.getD_cons_zero,List.getD_cons_succ]
    have okn := (M.tree hok).ok
    refine ⟨ap, rfl, ⟨_, SqL.of ha5⟩, fun D hD => comp_map_list (fun x => match x with | .int z => .int (RT.cost (aft rs d) z) | v => v) ha5 hD (by rw [List.length_map]; omega) (fun x mx H' Q' s6 q => ?_) ?_⟩
    · obtain ⟨z, mz, rfl⟩ := List.mem_map.mp mx
      have hz := okn z mz
      obtain ⟨p, hp1, hp2⟩ := ropes_at (hx3.mono (t5.trans s6)) hz.1 hz.2
      try simp only [rv0,rvS,rC,rOp,rUn,rTest,rB,rBl,rI0i,rIi,rUi,rEqi,rNei,rEqb,rNeb,rNot,rAnd,rOr,rAndV,rOrV,rNotV,rIf,rSeq,rNext,rDrop,rRet,rRetN,rIfS,rAsg,rName,rNil,rCons,rCB,rBM,rCall,rTup,rLst,rSl,rNoPart,rPart,rInt,rChain,rComp,rIList,rITup,rIRng1,rK,rKn,rKc,rRaise,rIsN,rNotN,rBM0,rFld,rSFld,rMeth,rMake,rGSub,rIRngThree,rTryIf,rMCall,rMMeth,rTryR2,List.set_cons_zero,List.set_cons_succ,List.append_nil,capS,List.map_cons,List.map_nil,List.nil_append,List.cons_append,List.getD_cons_zero,List.getD_cons_succ]
      exact rd_list ((t5.trans s6) _ _ hl3) hp1 (rd_tup hp2 rfl q)
    rw [show ((RT.lt n (aft rs d)).map V.int).map (fun x => match x with | .int z => V.int (RT.cost (aft rs d) z) | v => v) = ((RT.lt n (aft rs d)).map (RT.cost (aft rs d))).map V.int by simp [Function.comp]]
    have s6 := Same.upd_new (o := .lst (((RT.lt n (aft rs d)).map (RT.cost (aft rs d))).map V.int)) hD
    have g6 : upd H5 D (.lst (((RT.lt n (aft rs d)).map (RT.cost (aft rs d))).map V.int)) D = some (.lst (((RT.lt n (aft rs d)).map (RT.cost (aft rs d))).map V.int)) := upd_same
    generalize upd H5 D (.lst (((RT.lt n (aft rs d)).map (RT.cost (aft rs d))).map V.int)) = H6 at s6 g6 ⊢
    have t6 := t5.trans s6
    try simp only [rv0,rvS,rC,rOp,rUn,rTest,rB,rBl,rI0i,rIi,rUi,rEqi,rNei,rEqb,rNeb,rNot,rAnd,rOr,rAndV,rOrV,rNotV,rIf,rSeq,rNext,rDrop,rRet,rRetN,rIfS,rAsg,rName,rNil,rCons,rCB,rBM,rCall,rTup,rLst,rSl,rNoPart,rPart,rInt,rChain,rComp,rIList,rITup,rIRng1,rK,rKn,rKc,rRaise,rIsN,rNotN,rBM0,rFld,rSFld,rMeth,rMake,rGSub,rIRngThree,rTryIf,rMCall,rMMeth,rTryR2,List.set_cons_zero,List.set_cons_succ,List.append_nil,capS,List.map_cons,List.map_nil,List.nil_append,List.cons_append,List.getD_cons_zero,List.getD_cons_succ]
    refine ⟨D, (RT.lt n (aft rs d)).map (RT.cost (aft rs d)), rfl, g6, ?_⟩
    have lx3 : xs'.length = (aft rs d).length := by have := hx3.length; rw [List.length_map] at this; exact this.symm
    have hd6 : ∀ zs, H dp = some (.tup zs) → H6 dp = some (.tup zs) := fun zs e => t6 _ _ (k3 _ _ e (ne_of e hlr (by intro z; cases z)))
    try simp only [rv0,rvS,rC,rOp,rUn,rTest,rB,rBl,rI0i,rIi,rUi,rEqi,rNei,rEqb,rNeb,rNot,rAnd,rOr,rAndV,rOrV,rNotV,rIf,rSeq,rNext,rDrop,rRet,rRetN,rIfS,rAsg,rName,rNil,rCons,rCB,rBM,rCall,rTup,rLst,rSl,rNoPart,rPart,rInt,rChain,rComp,rIList,rITup,rIRng1,rK,rKn,rKc,rRaise,rIsN,rNotN,rBM0,rFld,rSFld,rMeth,rMake,rGSub,rIRngThree,rTryIf,rMCall,rMMeth,rTryR2,List.set_cons_zero,List.set_cons_succ,List.append_nil,capS,List.map_cons,List.map_nil,List.nil_append,List.cons_append,List.getD_cons_zero,List.getD_cons_succ]
    cases d with
    | lay x y c =>
      obtain ⟨dp', e, hd⟩ := rep_lay hd
      cases e
      refine rd_tup (hd6 _ hd) rfl ?_
      refine ⟨rfl, _, rfl, ite2 (fun _ => ?_) (fun c => absurd (decide_eq_true rfl) c)⟩
      refine ⟨lr, _, rfl, .inl (SqL.of (t6 _ _ hl3)), ?_⟩
      try simp only [rv0,rvS,rC,rOp,rUn,rTest,rB,rBl,rI0i,rIi,rUi,rEqi,rNei,rEqb,rNeb,rNot,rAnd,rOr,rAndV,rOrV,rNotV,rIf,rSeq,rNext,rDrop,rRet,rRetN,rIfS,rAsg,rName,rNil,rCons,rCB,rBM,rCall,rTup,rLst,rSl,rNoPart,rPart,rInt,rChain,rComp,rIList,rITup,rIRng1,rK,rKn,rKc,rRaise,rIsN,rNotN,rBM0,rFld,rSFld,rMeth,rMake,rGSub,rIRngThree,rTryIf,rMCall,rMMeth,rTryR2,List.set_cons_zero,List.set_cons_succ,List.append_nil,capS,List.map_cons,List.map_nil,List.nil_append,List.cons_append,List.getD_cons_zero,List.getD_cons_succ]
      refine ⟨show 3 ≤ sizeLine by decide, fun p np => ?_⟩
      refine k4 _ _ (t6.trans (Same.upd_new np)) (nice_lay _ _ _ _ _) ?_
      exact rep_tup.mpr ⟨p, _, rfl, upd_same, reps_cc.mpr ⟨rep_int.mpr (by rw [lx3]; rfl), reps_cc.mpr ⟨rep_opt.mpr rfl, reps_cc.mpr ⟨rep_int.mpr rfl, reps_nil.mpr rfl⟩⟩⟩⟩
    | cost m c =>
      obtain ⟨dp', e, hd⟩ := rep_cost hd
      cases e
      have nice := nice_cost (c := c) hv (of_decide_eq_true ok) L M
      have k4 := fun v Hx sx r => k4 v Hx sx nice r
      refine rd_tup (hd6 _ hd) rfl ?_
      refine ⟨rfl, _, rfl, ite2 (fun c => absurd (of_decide_eq_true c) cost_lay) (fun _ => ?_)⟩
      try simp only [rv0,rvS,rC,rOp,rUn,rTest,rB,rBl,rI0i,rIi,rUi,rEqi,rNei,rEqb,rNeb,rNot,rAnd,rOr,rAndV,rOrV,rNotV,rIf,rSeq,rNext,rDrop,rRet,rRetN,rIfS,rAsg,rName,rNil,rCons,rCB,rBM,rCall,rTup,rLst,rSl,rNoPart,rPart,rInt,rChain,rComp,rIList,rITup,rIRng1,rK,rKn,rKc,rRaise,rIsN,rNotN,rBM0,rFld,rSFld,rMeth,rMake,rGSub,rIRngThree,rTryIf,rMCall,rMMeth,rTryR2,List.set_cons_zero,List.set_cons_succ,List.append_nil,capS,List.map_cons,List.map_nil,List.nil_append,List.cons_append,List.getD_cons_zero,List.getD_cons_succ]
      have eA : ansD n rs (.cost m c) = .tuple [exchD (RT.lt n rs) (RT.lt n (RT.recst rs m c)), .int (RT.sumC (RT.recst rs m c) (RT.lt n (RT.recst rs m c)))] := rfl
      rw [eA] at k4
      unfold exchD at k4
      simp only [aft] at k4 ⊢
      refine ite2 (fun cc => ?_) (fun cc => ?_)
      · have cc : optV (RT.miss (RT.lt n rs) (RT.lt n (RT.recst rs m c))) = .non := of_decide_eq_true cc
        have em : RT.miss (RT.lt n rs) (RT.lt n (RT.recst rs m c)) = none := by
          cases e : RT.miss (RT.lt n rs) (RT.lt n (RT.recst rs m c)) with
          | none => rfl
          | some g => rw [e] at cc; simp [optV] at cc
        rw [em] at k4
        refine ⟨show 2 ≤ sizeLine by decide, fun p np => ?_⟩
        exact k4 _ _ (t6.trans (Same.upd_new np)) (rep_tup.mpr ⟨p, _, rfl, upd_same, reps_cc.mpr ⟨rep_non.mpr rfl, reps_cc.mpr ⟨rep_int.mpr rfl, reps_nil.mpr rfl⟩⟩⟩)
      · have cc : ¬ optV (RT.miss (RT.lt n rs) (RT.lt n (RT.recst rs m c))) = .non := fun z => cc (decide_eq_true z)
        obtain ⟨g, em⟩ : ∃ g, RT.miss (RT.lt n rs) (RT.lt n (RT.recst rs m c)) = some g := by
          cases e : RT.miss (RT.lt n rs) (RT.lt n (RT.recst rs m c)) with
          | none => rw [e] at cc; simp [optV] at cc
          | some g => exact ⟨g, rfl⟩
        rw [em] at k4
        rw [em]
        refine ⟨show 2 ≤ sizeLine by decide, fun q nq => ?_⟩
        have s7 := Same.upd_new (o := .tup [.int g, optV (RT.miss (RT.lt n (RT.recst rs m c)) (RT.lt n rs))]) nq
        refine ⟨show 2 ≤ sizeLine by decide, fun p np => ?_⟩
        have s8 := Same.upd_new (o := .tup [.ref q, .int (RT.sumC (RT.recst rs m c) (RT.lt n (RT.recst rs m c)))]) np
        exact k4 _ _ ((t6.trans s7).trans s8) (rep_tup.mpr ⟨p, _, rfl, upd_same, reps_cc.mpr ⟨rep_tup.mpr ⟨q, _, rfl, s8 _ _ upd_same, reps_cc.mpr ⟨rep_int.mpr rfl, reps_cc.mpr ⟨rep_opt.mpr rfl, reps_nil.mpr rfl⟩⟩⟩, reps_cc.mpr ⟨rep_int.mpr rfl, reps_nil.mpr rfl⟩⟩⟩)
    | look => exact absurd rfl hnl
end
end My
namespace My
open PySem L2
section
variable {P : Program} {w : World} {K : PySem.W.Frag} {mg : Str → Option Value} {base : Heap} {A : Ad}
mutual
noncomputable def likeD : PyData → Bool
  | .int _ => true
  | .str _ => true
  | .none => true
  | .list l => likeAll l
  | .tuple l => likeAll l
  | _ => false
noncomputable def likeAll : List PyData → Bool
  | [] => true
  | x :: xs => likeD x && likeAll xs
end
mutual
noncomputable def szD : PyData → Nat
  | .list l => 1 + szAll l
  | .tuple l => 1 + szAll l
  | _ => 1
noncomputable def szAll : List PyData → Nat
  | [] => 0
  | x :: xs => szD x + szAll xs
end
theorem like_app : ∀ (a b : List PyData), likeAll (a ++ b) = (likeAll a && likeAll b)
  | [], b => by simp [likeAll]
  | x :: a, b => by rw [List.cons_append, likeAll, likeAll, like_app a b, Bool.and_assoc]
theorem sz_app : ∀ (a b : List PyData), szAll (a ++ b) = szAll a + szAll b
  | [], b => by simp [szAll]
  | x :: a, b => by rw [List.cons_append, szAll, szAll, sz_app a b, Nat.add_assoc]
theorem lay_app : ∀ (a b : List PyData), PyData.canLayAll0 (a ++ b) = (PyData.canLayAll0 a && PyData.canLayAll0 b)
  | [], b => by simp [PyData.canLayAll0]
  | x :: a, b => by rw [List.cons_append, PyData.canLayAll0, PyData.canLayAll0, lay_app a b, Bool.and_assoc]
theorem dep_app : ∀ (a b : List PyData), PyData.depthAll (a ++ b) = max (PyData.depthAll a) (PyData.depthAll b)
  | [], b => by simp [PyData.depthAll]
  | x :: a, b => by rw [List.cons_append, PyData.depthAll, PyData.depthAll, dep_app a b, Nat.max_assoc]
theorem len_sz : ∀ ds : List PyData, ds.length ≤ szAll ds
  | [] => Nat.zero_le _
  | d :: ds => by
    have := len_sz ds
    have : 1 ≤ szD d := by cases d <;> simp [szD]
    rw [List.length_cons, szAll]
    omega
theorem reps_app {H : Hp} : ∀ {ds es : List PyData} {xs ys : List V}, Reps H ds xs → Reps H es ys → Reps H (ds ++ es) (xs ++ ys)
  | [], es, xs, ys, h1, h2 => by rw [reps_nil] at h1; subst h1; exact h2
  | d :: ds, es, xs, ys, h1, h2 => by
    obtain ⟨x, r, rfl, a, b⟩ := reps_cons.mp h1
    exact reps_cc.mpr ⟨a, reps_app b h2⟩
theorem reps_snoc {H : Hp} : ∀ {ds : List PyData} {d : PyData} {xs : List V}, Reps H (ds ++ [d]) xs → ∃ x0 x, xs = x0 ++ [x] ∧ Reps H ds x0 ∧ Rep H d x
  | [], d, xs, h => by
    obtain ⟨x, r, rfl, a, b⟩ := reps_cons.mp h
    rw [reps_nil] at b
    subst b
    exact ⟨[], x, rfl, reps_nil.mpr rfl, a⟩
  | e :: ds, d, xs, h => by
    obtain ⟨x, r, rfl, a, b⟩ := reps_cons.mp h
    obtain ⟨x0, y, rfl, c, f⟩ := reps_snoc b
    exact ⟨x :: x0, y, rfl, reps_cc.mpr ⟨a, c⟩, f⟩
theorem eqv_nil (ds : List PyData) : PyData.eqv (.list ds) (.list []) = ds.isEmpty := by
  cases ds with
  | nil => simp [PyData.eqv, PyData.eqvAll]
  | cons d ds => simp [PyData.eqv, PyData.eqvAll]
noncomputable def sp__law_like : Sp := fun vs H Q _ => ∃ (d : PyData) (x y : V), vs = [x, y] ∧ Rep H d x ∧ Rep H d y ∧ likeD d = true ∧ d.canLay0 = true ∧ d.depth ≤ 8 ∧ szD d ≤ 10000 ∧ ∀ H', Same H H' → Q (.bl true) H'
theorem ok__law_like (T : Txt K mg A) : FnOk P w K mg base CX0 1 A.a__law_like A.d__law_like ["_law_found", "_law_due"] sp__law_like := by
  refine T.f__law_like.ok sc__law_like (fun vs H Q E h => ?_) (fun cdv A' outer s H vs Q E hr h => ?_)
  · obtain ⟨d, x, y, rfl, _⟩ := h
    rfl
  · obtain ⟨d, x, y, rfl, hx, hy, hlk, hly, hdp, hsz, k⟩ := h
    have hu64 := hr.units
    have big : 20000 ≤ sizeLine := by decide
    refine ⟨_, (pss_cons (ps_set (i := 2) sc__law_like.nd rfl (Or.inl rfl) (pe_lst (pa_cons (pv 0) pa_nil)))
      (pss_cons (ps_set (i := 3) sc__law_like.nd rfl (Or.inl rfl) (pe_lst (pa_cons (pv 1) pa_nil)))
      (pss_cons (ps_while PassesOwn.never (pt_cmpR (op_neD hu64) (pv 3) (pe_lst pa_nil) (nomark _))
      (pss_cons (ps_set (i := 4) sc__law_like.nd rfl (Or.inl rfl) (pe_bm0 PySem.F.plainAttrs_list PySem.F.slot_list_pop PySem.F.type_list_pop mt_pop (pv 2)))
      (pss_cons (ps_set (i := 5) sc__law_like.nd rfl (Or.inl rfl) (pe_bm0 PySem.F.plainAttrs_list PySem.F.slot_list_pop PySem.F.type_list_pop mt_pop (pv 3)))
      (pss_one (ps_if (pt_val (pe_callB call_isinst rfl T.z_isinstance bo_isinstance (pa_cons (pv 5) (pa_cons (pe_bltn (v := .ty "list") rfl T.z_list bo_list rfl) pa_nil)))) (pss_cons (ps_if (PW.pt (pw_or (pt_not (pt_val (pe_callB call_isinst rfl T.z_isinstance bo_isinstance (pa_cons (pv 4) (pa_cons (pe_bltn (v := .ty "list") rfl T.z_list bo_list rfl) pa_nil))))) (pw_or1 (pt_cmpR op_ne (pe_callB call_len_seq rfl T.z_len bo_len (pa_cons (pv 4) pa_nil)) (pe_callB call_len_seq rfl T.z_len bo_len (pa_cons (pv 5) pa_nil)) (nomark _))))) (pss_one (ps_ret pe_bl)) pss_nil)
      (pss_cons (ps_expr (pe_bm PySem.F.plainAttrs_list PySem.F.slot_list_extend PySem.F.type_list_extend mt_extend (pv 2) (pa_cons (pv 4) pa_nil)))
      (pss_one (ps_expr (pe_bm PySem.F.plainAttrs_list PySem.F.slot_list_extend PySem.F.type_list_extend mt_extend (pv 3) (pa_cons (pv 5) pa_nil)))))) (pss_one (ps_if (pt_val (pe_callB call_isinst rfl T.z_isinstance bo_isinstance (pa_cons (pv 5) (pa_cons (pe_bltn (v := .ty "tuple") rfl T.z_tuple bo_tuple rfl) pa_nil)))) (pss_cons (ps_if (PW.pt (pw_or (pt_not (pt_val (pe_callB call_isinst rfl T.z_isinstance bo_isinstance (pa_cons (pv 4) (pa_cons (pe_bltn (v := .ty "tuple") rfl T.z_tuple bo_tuple rfl) pa_nil))))) (pw_or1 (pt_cmpR op_ne (pe_callB call_len_seq rfl T.z_len bo_len (pa_cons (pv 4) pa_nil)) (pe_callB call_len_seq rfl T.z_len bo_len (pa_cons (pv 5) pa_nil)) (nomark _))))) (pss_one (ps_ret pe_bl)) pss_nil)
      (pss_cons (ps_expr (pe_bm PySem.F.plainAttrs_list PySem.F.slot_list_extend PySem.F.type_list_extend mt_extend (pv 2) (pa_cons (pe_callTy call_list_of rfl T.z_list bo_list (pa_cons (pv 4) pa_nil)) pa_nil)))
      (pss_one (ps_expr (pe_bm PySem.F.plainAttrs_list PySem.F.slot_list_extend PySem.F.type_list_extend mt_extend (pv 3) (pa_cons (pe_callTy call_list_of rfl T.z_list bo_list (pa_cons (pv 5) pa_nil)) pa_nil)))))) (pss_one (ps_if (pt_val (pe_callB call_isinst rfl T.z_isinstance bo_isinstance (pa_cons (pv 5) (pa_cons (pe_bltn (v := .ty "str") rfl T.z_str bo_str rfl) pa_nil)))) (pss_one (ps_if (PW.pt (pw_or (pt_not (pt_val (pe_callB call_isinst rfl T.z_isinstance bo_isinstance (pa_cons (pv 4) (pa_cons (pe_bltn (v := .ty "str") rfl T.z_str bo_str rfl) pa_nil))))) (pw_or1 (pt_cmpR (op_neD hu64) (pv 4) (pv 5) (nomark _))))) (pss_one (ps_ret pe_bl)) pss_nil)) (pss_one (ps_if (pt_cmp (pc_isN (pv 5))) (pss_one (ps_if (pt_cmp (pc_notN (pv 4))) (pss_one (ps_ret pe_bl)) pss_nil)) (pss_one (ps_if (PW.pt (pw_or (pt_not (pt_val (pe_callB call_isinst rfl T.z_isinstance bo_isinstance (pa_cons (pv 4) (pa_cons (pe_bltn (v := .ty "int") rfl T.z_int bo_int rfl) pa_nil))))) (pw_or1 (pt_cmpR op_ne (pe_callB call_isinst rfl T.z_isinstance bo_isinstance (pa_cons (pv 4) (pa_cons (pe_bltn (v := .ty "bool") rfl T.z_bool bo_bool rfl) pa_nil))) (pe_callB call_isinst rfl T.z_isinstance bo_isinstance (pa_cons (pv 5) (pa_cons (pe_bltn (v := .ty "bool") rfl T.z_bool bo_bool rfl) pa_nil))) (nomark _))))) (pss_one (ps_ret pe_bl)) (pss_one (ps_if (pt_cmpR (op_neD hu64) (pv 4) (pv 5) (nomark _)) (pss_one (ps_ret pe_bl)) pss_nil)))))))))))))))
      (pss_one (ps_ret pe_bl))))), ?_⟩
    rw [show start ["_law_found", "_law_due", "_law_got_parts", "_law_due_parts", "_law_one", "_law_two"] [x, y] = [some x, some y, none, none, none, none] from rfl]
    try simp only [rv0,rvS,rC,rOp,rUn,rTest,rB,rBl,rI0i,rIi,rUi,rEqi,rNei,rEqb,rNeb,rNot,rAnd,rOr,rAndV,rOrV,rNotV,rIf,rSeq,rNext,rDrop,rRet,rRetN,rIfS,rAsg,rName,rNil,rCons,rCB,rBM,rCall,rTup,rLst,rSl,rNoPart,rPart,rInt,rChain,rComp,rIList,rITup,rIRng1,rK,rKn,rKc,rRaise,rIsN,rNotN,rBM0,rFld,rSFld,rMeth,rMake,rGSub,rIRngThree,rTryIf,rMCall,rMMeth,rTryR2,List.set_cons_zero,List.set_cons_succ,List.append_nil,capS,List.map_cons,List.map_nil,List.nil_append,List.cons_append,List.getD_cons_zero,List.getD_cons_succ]
    refine ⟨show 1 ≤ sizeLine by decide, fun gp ngp => ?_⟩
    have s1 := Same.upd_new (o := .lst [x]) ngp
    have g1 : upd H gp (.lst [x]) gp = some (.lst [x]) := upd_same
    generalize upd H gp (.lst [x]) = H1 at s1 g1 ⊢
    try simp only [rv0,rvS,rC,rOp,rUn,rTest,rB,rBl,rI0i,rIi,rUi,rEqi,rNei,rEqb,rNeb,rNot,rAnd,rOr,rAndV,rOrV,rNotV,rIf,rSeq,rNext,rDrop,rRet,rRetN,rIfS,rAsg,rName,rNil,rCons,rCB,rBM,rCall,rTup,rLst,rSl,rNoPart,rPart,rInt,rChain,rComp,rIList,rITup,rIRng1,rK,rKn,rKc,rRaise,rIsN,rNotN,rBM0,rFld,rSFld,rMeth,rMake,rGSub,rIRngThree,rTryIf,rMCall,rMMeth,rTryR2,List.set_cons_zero,List.set_cons_succ,List.append_nil,capS,List.map_cons,List.map_nil,List.nil_append,List.cons_append,List.getD_cons_zero,List.getD_cons_succ]
    refine ⟨show 1 ≤ sizeLine by decide, fun dp ndp => ?_⟩
    have s2 := Same.upd_new (o := .lst [y]) ndp
    have g2 : upd H1 dp (.lst [y]) dp = some (.lst [y]) := upd_same
    have g12 := s2 _ _ g1
    have ngd : gp ≠ dp := fun z => by rw [← z, g1] at ndp; cases ndp
    have fdp : H dp = none := s1.free ndp
    generalize upd H1 dp (.lst [y]) = H2 at s2 g2 g12 ⊢
    try simp only [rv0,rvS,rC,rOp,rUn,rTest,rB,rBl,rI0i,rIi,rUi,rEqi,rNei,rEqb,rNeb,rNot,rAnd,rOr,rAndV,rOrV,rNotV,rIf,rSeq,rNext,rDrop,rRet,rRetN,rIfS,rAsg,rName,rNil,rCons,rCB,rBM,rCall,rTup,rLst,rSl,rNoPart,rPart,rInt,rChain,rComp,rIList,rITup,rIRng1,rK,rKn,rKc,rRaise,rIsN,rNotN,rBM0,rFld,rSFld,rMeth,rMake,rGSub,rIRngThree,rTryIf,rMCall,rMMeth,rTryR2,List.set_cons_zero,List.set_cons_succ,List.append_nil,capS,List.map_cons,List.map_nil,List.nil_append,List.cons_append,List.getD_cons_zero,List.getD_cons_succ]
    refine ⟨fun m σ H3 => ∃ (ds : List PyData) (xs ys : List V) (x4 x5 : Option V), σ = [some x, some y, some (.ref gp), some (.ref dp), x4, x5] ∧ Same H H3 ∧ H3 gp = some (.lst xs) ∧ H3 dp = some (.lst ys) ∧ Reps H ds xs ∧ Reps H ds ys ∧ likeAll ds = true ∧ PyData.canLayAll0 ds = true ∧ PyData.depthAll ds ≤ 8 ∧ m = szAll ds ∧ szAll ds ≤ 10000,
      ⟨_, [d], [x], [y], none, none, rfl, s1.trans s2, g12, g2, reps_cc.mpr ⟨hx, reps_nil.mpr rfl⟩, reps_cc.mpr ⟨hy, reps_nil.mpr rfl⟩, by simp [likeAll, hlk], by simp [PyData.canLayAll0, hly], by simp [PyData.depthAll]; exact hdp, rfl, by simp [szAll]; exact hsz⟩, ?_⟩
    rintro m σ H3 ⟨ds, xs, ys, x4, x5, rfl, s3, hg, hd, rx, ry, lk, ly, dpt, rfl, sz⟩
    try simp only [rv0,rvS,rC,rOp,rUn,rTest,rB,rBl,rI0i,rIi,rUi,rEqi,rNei,rEqb,rNeb,rNot,rAnd,rOr,rAndV,rOrV,rNotV,rIf,rSeq,rNext,rDrop,rRet,rRetN,rIfS,rAsg,rName,rNil,rCons,rCB,rBM,rCall,rTup,rLst,rSl,rNoPart,rPart,rInt,rChain,rComp,rIList,rITup,rIRng1,rK,rKn,rKc,rRaise,rIsN,rNotN,rBM0,rFld,rSFld,rMeth,rMake,rGSub,rIRngThree,rTryIf,rMCall,rMMeth,rTryR2,List.set_cons_zero,List.set_cons_succ,List.append_nil,capS,List.map_cons,List.map_nil,List.nil_append,List.cons_append,List.getD_cons_zero,List.getD_cons_succ]
    refine ⟨Nat.zero_le _, fun le nle => ?_⟩
    have s4 := Same.upd_new (o := .lst []) nle
    have nel : gp ≠ le := fun z => by rw [← z, hg] at nle; cases nle
    refine ⟨.list ds, .list [], rep_lst.mpr ⟨dp, ys, rfl, s4 _ _ hd, (ry.mono s3).mono s4⟩, rep_lst.mpr ⟨le, [], rfl, upd_same, reps_nil.mpr rfl⟩, ?_, by decide +kernel, ?_⟩
    · unfold SeqAt.shaped
      rw [show (PyData.list ds).canLay0 = PyData.canLayAll0 ds by simp [PyData.canLay0], ly, show (PyData.list ds).depth = PyData.depthAll ds + 1 by simp [PyData.depth]]
      simp
      omega
    rw [eqv_nil]
    have hg4 := s4 _ _ hg
    have hd4 := s4 _ _ hd
    have t4 := s3.trans s4
    generalize upd H3 le (.lst []) = H4 at s4 hg4 hd4 t4 ⊢
    rcases List.eq_nil_or_concat ds with rfl | ⟨ds0, d0, rfl⟩
    · refine ⟨_, rfl, iteF ?_⟩
      exact k _ t4
    rw [List.concat_eq_append] at *
    refine ⟨_, rfl, ite2 (fun _ => ?_) (fun c => absurd (by simp) c)⟩
    obtain ⟨xs0, a0, rfl, rx0, ra0⟩ := reps_snoc rx
    obtain ⟨ys0, b0, rfl, ry0, rb0⟩ := reps_snoc ry
    rw [like_app] at lk
    rw [lay_app] at ly
    rw [dep_app] at dpt
    rw [sz_app] at sz
    have lk0 : likeAll ds0 = true ∧ likeD d0 = true := by simpa [likeAll] using lk
    have ly0 : PyData.canLayAll0 ds0 = true ∧ d0.canLay0 = true := by simpa [PyData.canLayAll0] using ly
    have dp0 : PyData.depthAll ds0 ≤ 8 ∧ d0.depth ≤ 8 := by
      have := Nat.max_le.mp dpt
      exact ⟨this.1, by simpa [PyData.depthAll] using this.2⟩
    have sz0 : szAll ds0 + szD d0 ≤ 10000 := by simpa [szAll] using sz
    have e0 : szAll (ds0 ++ [d0]) = szAll ds0 + szD d0 := by rw [sz_app]; simp [szAll]
    refine ⟨fun σ' H' => ∃ m', m' < szAll (ds0 ++ [d0]) ∧ ∃ (ds : List PyData) (xs ys : List V) (x4 x5 : Option V), σ' = [some x, some y, some (.ref gp), some (.ref dp), x4, x5] ∧ Same H H' ∧ H' gp = some (.lst xs) ∧ H' dp = some (.lst ys) ∧ Reps H ds xs ∧ Reps H ds ys ∧ likeAll ds = true ∧ PyData.canLayAll0 ds = true ∧ PyData.depthAll ds ≤ 8 ∧ m' = szAll ds ∧ szAll ds ≤ 10000, fun _ _ z => z, ?_⟩
    have lx0 : xs0.length = ds0.length := rx0.length.symm
    have ly0' : ys0.length = ds0.length := ry0.length.symm
    have lds := len_sz ds0
    refine ⟨.inl ⟨rfl, _, SqL.of hg4⟩, gp, _, a0, rfl, rfl, hg4, by simp, ?_⟩
    rw [List.dropLast_concat]
    have t5 : Same H (upd H4 gp (.lst xs0)) := t4.upd_late ngp
    have hg5 : upd H4 gp (.lst xs0) gp = some (.lst xs0) := upd_same
    have hd5 : upd H4 gp (.lst xs0) dp = some (.lst (ys0 ++ [b0])) := by rw [upd_ne ngd.symm]; exact hd4
    generalize upd H4 gp (.lst xs0) = H5 at t5 hg5 hd5 ⊢
    refine ⟨.inl ⟨rfl, _, SqL.of hd5⟩, dp, _, b0, rfl, rfl, hd5, by simp, ?_⟩
    rw [List.dropLast_concat]
    have t6 : Same H (upd H5 dp (.lst ys0)) := t5.upd_late fdp
    have hd6 : upd H5 dp (.lst ys0) dp = some (.lst ys0) := upd_same
    have hg6 : upd H5 dp (.lst ys0) gp = some (.lst xs0) := by rw [upd_ne ngd]; exact hg5
    generalize upd H5 dp (.lst ys0) = H6 at t6 hd6 hg6 ⊢
    have fin : ∀ (es : List PyData) (xs1 ys1 : List V) (x4 x5 : Option V) (Hx : Hp), Same H Hx → Hx gp = some (.lst (xs0 ++ xs1)) → Hx dp = some (.lst (ys0 ++ ys1)) → Reps H es xs1 → Reps H es ys1 → likeAll es = true → PyData.canLayAll0 es = true → PyData.depthAll es ≤ 8 → szAll es < szD d0 → ∃ m', m' < szAll (ds0 ++ [d0]) ∧ ∃ (ds : List PyData) (xs ys : List V) (x4' x5' : Option V), [some x, some y, some (.ref gp), some (.ref dp), x4, x5] = [some x, some y, some (.ref gp), some (.ref dp), x4', x5'] ∧ Same H Hx ∧ Hx gp = some (.lst xs) ∧ Hx dp = some (.lst ys) ∧ Reps H ds xs ∧ Reps H ds ys ∧ likeAll ds = true ∧ PyData.canLayAll0 ds = true ∧ PyData.depthAll ds ≤ 8 ∧ m' = szAll ds ∧ szAll ds ≤ 10000 := fun es xs1 ys1 x4 x5 Hx q1 q2 q3 q4 q5 q6 q7 q8 q9 =>
      ⟨szAll (ds0 ++ es), by rw [e0, sz_app]; omega, ds0 ++ es, xs0 ++ xs1, ys0 ++ ys1, x4, x5, rfl, q1, q2, q3, reps_app rx0 q4, reps_app ry0 q5, by rw [like_app, lk0.1, q6]; rfl, by rw [lay_app, ly0.1, q7]; rfl, by rw [dep_app]; exact Nat.max_le.mpr ⟨dp0.1, q8⟩, rfl, by rw [sz_app]; omega⟩
    have fin0 : 0 < szD d0 → ∀ (x4 x5 : Option V), ∃ m', m' < szAll (ds0 ++ [d0]) ∧ ∃ (ds : List PyData) (xs ys : List V) (x4' x5' : Option V), [some x, some y, some (.ref gp), some (.ref dp), x4, x5] = [some x, some y, some (.ref gp), some (.ref dp), x4', x5'] ∧ Same H H6 ∧ H6 gp = some (.lst xs) ∧ H6 dp = some (.lst ys) ∧ Reps H ds xs ∧ Reps H ds ys ∧ likeAll ds = true ∧ PyData.canLayAll0 ds = true ∧ PyData.depthAll ds ≤ 8 ∧ m' = szAll ds ∧ szAll ds ≤ 10000 := fun hz x4 x5 =>
      fin [] [] [] x4 x5 H6 t6 (by rw [List.append_nil]; exact hg6) (by rw [List.append_nil]; exact hd6) (reps_nil.mpr rfl) (reps_nil.mpr rfl) (by simp [likeAll]) (by simp [PyData.canLayAll0]) (by simp [PyData.depthAll]) (by simp [szAll]; exact hz)
    cases d0 with
    | none =>
      rw [rep_non] at ra0 rb0
      subst ra0 rb0
      refine ⟨_, _, _, _, rfl, .non, rfl, iteF ?_⟩
      refine ⟨_, _, _, _, rfl, .non, rfl, iteF ?_⟩
      refine ⟨_, _, _, _, rfl, .non, rfl, iteF ?_⟩
      refine ite2 (fun _ => ?_) (fun c => absurd (by simp) c)
      refine ite2 (fun c => absurd c (by simp)) (fun _ => ?_)
      exact fin0 (by simp [szD]) _ _
    | bool b => simp [likeD] at lk0
    | dict kv => simp [likeD] at lk0
    | int i =>
      rw [rep_int] at ra0 rb0
      subst ra0 rb0
      refine ⟨_, _, _, _, rfl, .int i, rfl, iteF ?_⟩
      refine ⟨_, _, _, _, rfl, .int i, rfl, iteF ?_⟩
      refine ⟨_, _, _, _, rfl, .int i, rfl, iteF ?_⟩
      refine ite2 (fun c => absurd c (by simp)) (fun _ => ?_)
      refine ⟨_, _, _, _, rfl, .int i, rfl, iteF ?_⟩
      refine ⟨_, _, _, _, rfl, .int i, rfl, _, _, _, _, rfl, .int i, rfl, ?_⟩
      try simp only [rv0,rvS,rC,rOp,rUn,rTest,rB,rBl,rI0i,rIi,rUi,rEqi,rNei,rEqb,rNeb,rNot,rAnd,rOr,rAndV,rOrV,rNotV,rIf,rSeq,rNext,rDrop,rRet,rRetN,rIfS,rAsg,rName,rNil,rCons,rCB,rBM,rCall,rTup,rLst,rSl,rNoPart,rPart,rInt,rChain,rComp,rIList,rITup,rIRng1,rK,rKn,rKc,rRaise,rIsN,rNotN,rBM0,rFld,rSFld,rMeth,rMake,rGSub,rIRngThree,rTryIf,rMCall,rMMeth,rTryR2,List.set_cons_zero,List.set_cons_succ,List.append_nil,capS,List.map_cons,List.map_nil,List.nil_append,List.cons_append,List.getD_cons_zero,List.getD_cons_succ]
      refine ite2 (fun c => absurd c (by simp)) (fun _ => ?_)
      refine ⟨.int i, .int i, rep_int.mpr rfl, rep_int.mpr rfl, by simp [SeqAt.shaped, PyData.canLay0, PyData.depth], by simp [SeqAt.shaped, PyData.canLay0, PyData.depth], ?_⟩
      rw [show PyData.eqv (.int i) (.int i) = true by simp [PyData.eqv]]
      exact ⟨_, rfl, iteF (fin0 (by simp [szD]) _ _)⟩
    | str w =>
      rw [rep_str] at ra0 rb0
      subst ra0 rb0
      refine ⟨_, _, _, _, rfl, .str w, rfl, iteF ?_⟩
      refine ⟨_, _, _, _, rfl, .str w, rfl, iteF ?_⟩
      refine ⟨_, _, _, _, rfl, .str w, rfl, iteT ?_⟩
      refine ⟨_, _, _, _, rfl, .str w, rfl, iteF ?_⟩
      refine ⟨.str w, .str w, rep_str.mpr rfl, rep_str.mpr rfl, by simp [SeqAt.shaped, PyData.depth, ly0.2], by simp [SeqAt.shaped, PyData.depth, ly0.2], ?_⟩
      rw [show PyData.eqv (.str w) (.str w) = true by simp [PyData.eqv]]
      exact ⟨_, rfl, iteF (fin0 (by simp [szD]) _ _)⟩
    | list l =>
      obtain ⟨pa, xs1, rfl, hpa, rxa⟩ := rep_lst.mp ra0
      obtain ⟨pb, ys1, rfl, hpb, ryb⟩ := rep_lst.mp rb0
      have la : xs1.length = l.length := rxa.length.symm
      have lb : ys1.length = l.length := ryb.length.symm
      have lsz := len_sz l
      have szl : szD (.list l) = 1 + szAll l := by simp [szD]
      refine ⟨_, _, _, _, rfl, .lst (t6 _ _ hpb), rfl, iteT ?_⟩
      refine ⟨_, _, _, _, rfl, .lst (t6 _ _ hpa), rfl, iteF ?_⟩
      refine ⟨pa, _, rfl, .inl (SqL.of (t6 _ _ hpa)), pb, _, rfl, .inl (SqL.of (t6 _ _ hpb)), ?_⟩
      refine ite2 (fun c => absurd c (by simp [la, lb])) (fun _ => ?_)
      refine ⟨.inl ⟨rfl, _, SqL.of hg6⟩, gp, pa, _, _, rfl, rfl, hg6, t6 _ _ hpa, by omega, ?_⟩
      have t7 : Same H (upd H6 gp (.lst (xs0 ++ xs1))) := t6.upd_late ngp
      have hg7 : upd H6 gp (.lst (xs0 ++ xs1)) gp = some (.lst (xs0 ++ xs1)) := upd_same
      have hd7 : upd H6 gp (.lst (xs0 ++ xs1)) dp = some (.lst ys0) := by rw [upd_ne ngd.symm]; exact hd6
      generalize upd H6 gp (.lst (xs0 ++ xs1)) = H7 at t7 hg7 hd7 ⊢
      refine ⟨.inl ⟨rfl, _, SqL.of hd7⟩, dp, pb, _, _, rfl, rfl, hd7, t7 _ _ hpb, by omega, ?_⟩
      exact fin l xs1 ys1 _ _ _ (t7.upd_late fdp) (by rw [upd_ne ngd]; exact hg7) upd_same rxa ryb (by simpa [likeD] using lk0.2) (by simpa [PyData.canLay0] using ly0.2) (by have := dp0.2; simp [PyData.depth] at this; omega) (by omega)
    | tuple l =>
      obtain ⟨pa, xs1, rfl, hpa, rxa⟩ := rep_tup.mp ra0
      obtain ⟨pb, ys1, rfl, hpb, ryb⟩ := rep_tup.mp rb0
      have la : xs1.length = l.length := rxa.length.symm
      have lb : ys1.length = l.length := ryb.length.symm
      have lsz := len_sz l
      have szl : szD (.tuple l) = 1 + szAll l := by simp [szD]
      refine ⟨_, _, _, _, rfl, .tup (t6 _ _ hpb), rfl, iteF ?_⟩
      refine ⟨_, _, _, _, rfl, .tup (t6 _ _ hpb), rfl, iteT ?_⟩
      refine ⟨_, _, _, _, rfl, .tup (t6 _ _ hpa), rfl, iteF ?_⟩
      refine ⟨pa, _, rfl, .inr (SqT.of (t6 _ _ hpa)), pb, _, rfl, .inr (SqT.of (t6 _ _ hpb)), ?_⟩
      refine ite2 (fun c => absurd c (by simp [la, lb])) (fun _ => ?_)
      refine ⟨.inl ⟨rfl, _, SqL.of hg6⟩, pa, _, rfl, .inr (SqT.of (t6 _ _ hpa)), fun lp nlp => ?_⟩
      have s7 := Same.upd_new (o := .lst xs1) nlp
      have hl7 : upd H6 lp (.lst xs1) lp = some (.lst xs1) := upd_same
      have hg7 := s7 _ _ hg6
      have hd7 := s7 _ _ hd6
      have t7 := t6.trans s7
      generalize upd H6 lp (.lst xs1) = H7 at s7 hl7 hg7 hd7 t7 ⊢
      refine ⟨gp, lp, _, _, rfl, rfl, hg7, hl7, by omega, ?_⟩
      have t8 : Same H (upd H7 gp (.lst (xs0 ++ xs1))) := t7.upd_late ngp
      have hg8 : upd H7 gp (.lst (xs0 ++ xs1)) gp = some (.lst (xs0 ++ xs1)) := upd_same
      have hd8 : upd H7 gp (.lst (xs0 ++ xs1)) dp = some (.lst ys0) := by rw [upd_ne ngd.symm]; exact hd7
      generalize upd H7 gp (.lst (xs0 ++ xs1)) = H8 at t8 hg8 hd8 ⊢
      refine ⟨.inl ⟨rfl, _, SqL.of hd8⟩, pb, _, rfl, .inr (SqT.of (t8 _ _ hpb)), fun lq nlq => ?_⟩
      have s9 := Same.upd_new (o := .lst ys1) nlq
      have hl9 : upd H8 lq (.lst ys1) lq = some (.lst ys1) := upd_same
      have hg9 := s9 _ _ hg8
      have hd9 := s9 _ _ hd8
      have t9 := t8.trans s9
      generalize upd H8 lq (.lst ys1) = H9 at s9 hl9 hg9 hd9 t9 ⊢
      refine ⟨dp, lq, _, _, rfl, rfl, hd9, hl9, by omega, ?_⟩
      exact fin l xs1 ys1 _ _ _ (t9.upd_late fdp) (by rw [upd_ne ngd]; exact hg9) upd_same rxa ryb (by simpa [likeD] using lk0.2) (by simpa [PyData.canLay0] using ly0.2) (by have := dp0.2; simp [PyData.depth] at this; omega) (by omega)
end
end My
namespace My
open PySem L2
section
variable {P : Program} {w : World} {K : PySem.W.Frag} {mg : Str → Option Value} {base : Heap} {A : Ad}
theorem hand_shape (d : Deed) : SeqAt.shaped (.tuple [.str "refused", .str (wordD d)]) = true ∧ (PyData.tuple [.str "refused", .str (wordD d)]).canLay0 = true := by
  cases d with
  | lay x y c => exact ⟨show SeqAt.shaped (.tuple [.str "refused", .str "no place"]) = true by decide +kernel, show (PyData.tuple [.str "refused", .str "no place"]).canLay0 = true by decide +kernel⟩
  | cost x c => exact ⟨show SeqAt.shaped (.tuple [.str "refused", .str "no rope"]) = true by decide +kernel, show (PyData.tuple [.str "refused", .str "no rope"]).canLay0 = true by decide +kernel⟩
  | look => exact ⟨show SeqAt.shaped (.tuple [.str "refused", .str "no rope"]) = true by decide +kernel, show (PyData.tuple [.str "refused", .str "no rope"]).canLay0 = true by decide +kernel⟩
noncomputable def sp__law_hand_is : Sp := fun vs H Q _ => ∃ (n : Nat) (rs : List RT.Rope) (d : Deed) (u v : V), vs = [u, v] ∧ Rep H (handD n rs d) u ∧ Rep H (toldD n rs d) v ∧ (okD n rs d = true → NiceD (ansD n rs d)) ∧ d ≠ .look ∧ ∀ H', Same H H' → Q (.bl true) H'
theorem ok__law_hand_is (T : Txt K mg A) : FnOk P w K mg base CX0 4 A.a__law_hand_is A.d__law_hand_is ["_law_told", "_law_due"] sp__law_hand_is := by
  have G__law_alike : FnOk P w K mg base CX0 _ _ _ _ _ := ok__law_alike T
  refine T.f__law_hand_is.ok sc__law_hand_is (fun vs H Q E h => ?_) (fun cdv A' outer s H vs Q E hr h => ?_)
  · obtain ⟨n, rs, d, u, v, rfl, _⟩ := h
    rfl
  · obtain ⟨n, rs, d, u, v, rfl, hu, hv, hN, hnl, k⟩ := h
    have hu64 := hr.units
    refine ⟨_, (pss_cons (ps_if (pt_val (pe_callB call_isinst rfl T.z_isinstance bo_isinstance (pa_cons (pv 1) (pa_cons (pe_bltn (v := .ty "str") rfl T.z_str bo_str rfl) pa_nil)))) (pss_one (ps_ret (pe_and (pe_callB call_isinst rfl T.z_isinstance bo_isinstance (pa_cons (pv 0) (pa_cons (pe_bltn (v := .ty "tuple") rfl T.z_tuple bo_tuple rfl) pa_nil))) (pe_one (pe_cmpR (op_eqD hu64) (pv 0) (pe_tup (pa_cons pe_str (pa_cons (pv 1) pa_nil))) (nomark _)))))) pss_nil)
      (pss_one (ps_ret (pe_call G__law_alike (hr.mono (by decide)) rfl T.m__law_alike T.k__law_alike T.b__law_alike .nil pass0 (pa_cons (pv 0) (pa_cons (pv 1) pa_nil)))))), ?_⟩
    rw [show start ["_law_told", "_law_due"] [u, v] = [some u, some v] from rfl]
    unfold handD at hu
    unfold toldD at hv
    try simp only [rv0,rvS,rC,rOp,rUn,rTest,rB,rBl,rI0i,rIi,rUi,rEqi,rNei,rEqb,rNeb,rNot,rAnd,rOr,rAndV,rOrV,rNotV,rIf,rSeq,rNext,rDrop,rRet,rRetN,rIfS,rAsg,rName,rNil,rCons,rCB,rBM,rCall,rTup,rLst,rSl,rNoPart,rPart,rInt,rChain,rComp,rIList,rITup,rIRng1,rK,rKn,rKc,rRaise,rIsN,rNotN,rBM0,rFld,rSFld,rMeth,rMake,rGSub,rIRngThree,rTryIf,rMCall,rMMeth,rTryR2,List.set_cons_zero,List.set_cons_succ,List.append_nil,capS,List.map_cons,List.map_nil,List.nil_append,List.cons_append,List.getD_cons_zero,List.getD_cons_succ]
    cases ok : okD n rs d with
    | false =>
      rw [ok, if_neg Bool.false_ne_true] at hu hv
      have ev := rep_str.mp hv
      subst ev
      obtain ⟨a, xs, rfl, ha, hx⟩ := rep_tup.mp hu
      refine ⟨_, _, _, _, rfl, .str _, rfl, iteT ?_⟩
      try simp only [rv0,rvS,rC,rOp,rUn,rTest,rB,rBl,rI0i,rIi,rUi,rEqi,rNei,rEqb,rNeb,rNot,rAnd,rOr,rAndV,rOrV,rNotV,rIf,rSeq,rNext,rDrop,rRet,rRetN,rIfS,rAsg,rName,rNil,rCons,rCB,rBM,rCall,rTup,rLst,rSl,rNoPart,rPart,rInt,rChain,rComp,rIList,rITup,rIRng1,rK,rKn,rKc,rRaise,rIsN,rNotN,rBM0,rFld,rSFld,rMeth,rMake,rGSub,rIRngThree,rTryIf,rMCall,rMMeth,rTryR2,List.set_cons_zero,List.set_cons_succ,List.append_nil,capS,List.map_cons,List.map_nil,List.nil_append,List.cons_append,List.getD_cons_zero,List.getD_cons_succ]
      refine ⟨_, _, _, _, rfl, .tup ha, rfl, ?_⟩
      try simp only [rv0,rvS,rC,rOp,rUn,rTest,rB,rBl,rI0i,rIi,rUi,rEqi,rNei,rEqb,rNeb,rNot,rAnd,rOr,rAndV,rOrV,rNotV,rIf,rSeq,rNext,rDrop,rRet,rRetN,rIfS,rAsg,rName,rNil,rCons,rCB,rBM,rCall,rTup,rLst,rSl,rNoPart,rPart,rInt,rChain,rComp,rIList,rITup,rIRng1,rK,rKn,rKc,rRaise,rIsN,rNotN,rBM0,rFld,rSFld,rMeth,rMake,rGSub,rIRngThree,rTryIf,rMCall,rMMeth,rTryR2,List.set_cons_zero,List.set_cons_succ,List.append_nil,capS,List.map_cons,List.map_nil,List.nil_append,List.cons_append,List.getD_cons_zero,List.getD_cons_succ]
      rw [if_pos trivial]
      refine ⟨show 2 ≤ sizeLine by decide, fun p np => ?_⟩
      have s1 := Same.upd_new (o := .tup [.str "refused", .str (wordD d)]) np
      obtain ⟨h1, h2⟩ := hand_shape d
      refine ⟨.tuple [.str "refused", .str (wordD d)], .tuple [.str "refused", .str (wordD d)], hu.mono s1, rep_tup.mpr ⟨p, _, rfl, upd_same, reps_cc.mpr ⟨rep_str.mpr rfl, reps_cc.mpr ⟨rep_str.mpr rfl, reps_nil.mpr rfl⟩⟩⟩, h1, h1, ?_⟩
      rw [SeqAt.eqv_refl _ h2]
      exact k _ s1
    | true =>
      rw [ok, if_pos rfl] at hu hv
      have nice := hN ok
      obtain ⟨ds, eds⟩ : ∃ ds, ansD n rs d = .tuple ds := by
        cases d with
        | lay x y c => exact ⟨_, rfl⟩
        | cost m c => exact ⟨_, rfl⟩
        | look => exact absurd rfl hnl
      rw [eds] at hu hv nice
      obtain ⟨a, xs, rfl, ha, hx⟩ := rep_tup.mp hv
      refine ⟨_, _, _, _, rfl, .tup ha, rfl, iteF ?_⟩
      try simp only [rv0,rvS,rC,rOp,rUn,rTest,rB,rBl,rI0i,rIi,rUi,rEqi,rNei,rEqb,rNeb,rNot,rAnd,rOr,rAndV,rOrV,rNotV,rIf,rSeq,rNext,rDrop,rRet,rRetN,rIfS,rAsg,rName,rNil,rCons,rCB,rBM,rCall,rTup,rLst,rSl,rNoPart,rPart,rInt,rChain,rComp,rIList,rITup,rIRng1,rK,rKn,rKc,rRaise,rIsN,rNotN,rBM0,rFld,rSFld,rMeth,rMake,rGSub,rIRngThree,rTryIf,rMCall,rMMeth,rTryR2,List.set_cons_zero,List.set_cons_succ,List.append_nil,capS,List.map_cons,List.map_nil,List.nil_append,List.cons_append,List.getD_cons_zero,List.getD_cons_succ]
      exact ⟨_, _, _, rfl, hu, hv, nice, k⟩
end
end My
namespace My
open PySem L2
section
variable {P : Program} {w : World} {K : PySem.W.Frag} {mg : Str → Option Value} {base : Heap} {A : Ad}
theorem cut_short (ns : List Int) (lo : Option Int) (k : Nat) : (cutV (ns.map V.int) lo (some (k : Int))).length ≤ k := by
  unfold cutV
  rw [List.length_take, HT.sIx_nat]
  omega
theorem like_deeds : ∀ ds : List Deed, likeAll (ds.map deedD) = true
  | [] => rfl
  | d :: ds => by rw [List.map_cons, likeAll, like_deeds ds]; cases d <;> simp [deedD, likeD, likeAll]
theorem sz_deeds : ∀ ds : List Deed, szAll (ds.map deedD) ≤ 5 * ds.length
  | [] => Nat.le_refl _
  | d :: ds => by
    have := sz_deeds ds
    rw [List.map_cons, szAll, List.length_cons]
    have : szD (deedD d) ≤ 5 := by cases d <;> simp [deedD, szD, szAll]
    omega
theorem lay_deeds : ∀ ds : List Deed, PyData.canLayAll0 (ds.map deedD) = true
  | [] => rfl
  | d :: ds => by rw [List.map_cons, PyData.canLayAll0, lay_deeds ds]; cases d <;> simp [deedD, PyData.canLay0, PyData.canLayAll0] <;> decide +kernel
theorem dep_deeds : ∀ ds : List Deed, PyData.depthAll (ds.map deedD) ≤ 1
  | [] => Nat.zero_le _
  | d :: ds => by
    have := dep_deeds ds
    rw [List.map_cons, PyData.depthAll]
    have : (deedD d).depth ≤ 1 := by cases d <;> simp [deedD, PyData.depth, PyData.depthAll]
    exact Nat.max_le.mpr ⟨this, dep_deeds ds⟩
theorem ans_one : ansD 3 [] (.lay 0 2 5) = .tuple [.int 0, .none, .int 5] := by
  have e0 := RT.lt_eq (RT.least_none (n := 3))
  have e1 := RT.lt_eq RT.least_one
  simp only [ansD, List.nil_append, e0, e1]
  rfl
theorem ans_two : ansD 3 [(0, 2, 5)] (.lay 2 1 4) = .tuple [.int 1, .none, .int 9] := by
  have e1 := RT.lt_eq RT.least_one
  have e2 := RT.lt_eq RT.least_two
  simp only [ansD, List.cons_append, List.nil_append, e1, e2]
  rfl
theorem deed_head {H : Hp} {d : Deed} {v : V} (h : Rep H (deedD d) v) (n : d ≠ .look) : ∃ a w zs, v = .ref a ∧ H a = some (.tup (.str w :: zs)) ∧ ¬ V.str w = V.str "look" := by
  cases d with
  | lay x y c => obtain ⟨a, e, h⟩ := rep_lay h; exact ⟨a, _, _, e, h, lay_look⟩
  | cost x c => obtain ⟨a, e, h⟩ := rep_cost h; exact ⟨a, _, _, e, h, cost_look⟩
  | look => exact absurd rfl n
theorem flat_told {n : Nat} {rs : List RT.Rope} {d : Deed} (h : d ≠ .look) : flatD (toldD n rs d) = true := by
  unfold toldD
  split
  · cases d with
    | lay x y c => exact flat_lay _ _ _ _ _
    | cost x c => exact flat_cost _ _ _ _
    | look => exact absurd rfl h
  · rfl
structure DayAt (C : Addr) (Hf : Hp) (np pr np2 pr2 tq2 lr : Addr) (n : Nat) (rs : List RT.Rope) (H : Hp) (tq : Addr) : Prop where
  sf : Same Hf H
  net : NetAt C H np pr tq n rs
  nt : tq ≠ lr
  sec : NetAt C H np2 pr2 tq2 3 [(0, 2, 5)]
  ro : ∃ xl, H lr = some (.lst xl) ∧ Reps H (rs.map ropeD) xl
theorem DayAt.mono {C : Addr} {Hf H H' : Hp} {np pr np2 pr2 tq2 lr tq : Addr} {n : Nat} {rs : List RT.Rope} (D : DayAt C Hf np pr np2 pr2 tq2 lr n rs H tq) (s : Same H H') : DayAt C Hf np pr np2 pr2 tq2 lr n rs H' tq := by
  obtain ⟨a, b, c, d, xl, e, f⟩ := D
  exact ⟨a.trans s, b.mono s, c, d.mono s, xl, s _ _ e, f.mono s⟩
theorem DayAt.rep {C : Addr} {Hf H : Hp} {np pr np2 pr2 tq2 lr tq : Addr} {n : Nat} {rs : List RT.Rope} (D : DayAt C Hf np pr np2 pr2 tq2 lr n rs H tq) : Rep H (ropesD rs) (.ref lr) := by
  obtain ⟨xl, e, f⟩ := D.ro
  exact rep_lst.mpr ⟨lr, xl, rfl, e, f⟩
noncomputable def sp_law (T : Addr) (K : PySem.W.Frag) : Sp := fun vs H Q _ => ∃ (a : Addr) (ns : List Int), vs = [.ref a] ∧ SqL K H a (ns.map V.int) ∧ ns.length ≤ 63 ∧ H T = some (.ctab q_from_cheapest) ∧ ∀ H', Same H H' → Q (.bl true) H'
theorem ok_law (T : Txt K mg A) (B : Bm mg base) : FnOk P w K mg base CX0 9 A.a_law A.d_law ["_law_script"] (sp_law A.p_from_cheapest K) := by
  have G__law_at : FnOk P w K mg base CX0 _ _ _ _ _ := ok__law_at T
  have G__law_upto : FnOk P w K mg base CX0 _ _ _ _ _ := ok__law_upto T
  have G__law_deeds : FnOk P w K mg base CX0 _ _ _ _ _ := ok__law_deeds T
  have G_answers : FnOk P w K mg base CX0 _ _ _ _ _ := ok_answers T B
  have G__law_like : FnOk P w K mg base CX0 _ _ _ _ _ := ok__law_like T
  have G_Net___init__ : FnOk P w K mg base CX0 _ _ _ _ _ := ok_Net___init__ T
  have G_Net_lay : FnOk P w K mg base CX0 _ _ _ _ _ := (ok_Net_lay T B).down
  have G__law_alike : FnOk P w K mg base CX0 _ _ _ _ _ := ok__law_alike T
  have G__law_whole_row : FnOk P w K mg base CX0 _ _ _ _ _ := ok__law_whole_row T
  have G__law_least_of : FnOk P w K mg base CX0 _ _ _ _ _ := ok__law_least_of T
  have G__law_due_for : FnOk P w K mg base CX0 _ _ _ _ _ := ok__law_due_for T
  have G__law_hand_is : FnOk P w K mg base CX0 _ _ _ _ _ := ok__law_hand_is T
  have G__law_told_by : FnOk P w K mg base CX0 _ _ _ _ _ := ok__law_told_by T B
  refine T.f_law.ok sc_law (fun vs H Q E h => ?_) (fun cdv A' outer s H vs Q E hr h => ?_)
  · obtain ⟨a, ns, rfl, _⟩ := h
    rfl
  · obtain ⟨a, ns, rfl, hS, hl, hT, k⟩ := h
    have hu64 := hr.units
    have big := big1000
    refine ⟨_, (pss_cons (ps_set (i := 0) sc_law.nd rfl (Or.inl rfl) (pe_slice sl_list (pv 0) po_none (po_some pe_int)))
      (pss_cons (ps_set (i := 1) sc_law.nd rfl (Or.inl rfl) (pe_op op_mod (pe_call G__law_at (hr.mono (by decide)) rfl T.m__law_at T.k__law_at T.b__law_at .nil pass0 (pa_cons (pv 0) (pa_cons pe_int pa_nil))) (pe_call G__law_upto (hr.mono (by decide)) rfl T.m__law_upto T.k__law_upto T.b__law_upto .nil pass0 (pa_cons (pv 0) (pa_cons pe_int (pa_cons pe_int pa_nil))))))
      (pss_cons (ps_set (i := 2) sc_law.nd rfl (Or.inl rfl) (pe_call G__law_deeds (hr.mono (by decide)) rfl T.m__law_deeds T.k__law_deeds T.b__law_deeds .nil pass0 (pa_cons (pe_slice sl_list (pv 0) (po_some pe_int) (po_some (pe_call G__law_upto (hr.mono (by decide)) rfl T.m__law_upto T.k__law_upto T.b__law_upto .nil pass0 (pa_cons (pv 0) (pa_cons pe_int (pa_cons pe_int pa_nil)))))) (pa_cons (pv 1) pa_nil))))
      (pss_cons (ps_set (i := 3) sc_law.nd rfl (Or.inl rfl) (pe_callTy call_list_of rfl T.z_list bo_list (pa_cons (pv 2) pa_nil)))
      (pss_cons (ps_set (i := 4) sc_law.nd rfl (Or.inl rfl) (pe_call G_answers (hr.mono (by decide)) rfl T.m_answers T.k_answers T.b_answers .nil pass0 (pa_cons (pv 1) (pa_cons (pv 3) pa_nil))))
      (pss_cons (ps_if (PW.pt (pw_or (pt_not (pt_val (pe_call G__law_like (hr.mono (by decide)) rfl T.m__law_like T.k__law_like T.b__law_like .nil pass0 (pa_cons (pv 3) (pa_cons (pv 2) pa_nil))))) (pw_or (pt_not (pt_val (pe_callB call_isinst rfl T.z_isinstance bo_isinstance (pa_cons (pv 4) (pa_cons (pe_bltn (v := .ty "list") rfl T.z_list bo_list rfl) pa_nil))))) (pw_or1 (pt_cmpR op_ne (pe_callB call_len_seq rfl T.z_len bo_len (pa_cons (pv 4) pa_nil)) (pe_callB call_len_seq rfl T.z_len bo_len (pa_cons (pv 2) pa_nil)) (nomark _)))))) (pss_one (ps_ret pe_bl)) pss_nil)
      (pss_cons (ps_set (i := 5) sc_law.nd rfl (Or.inl rfl) (pe_make T.mk_Net G_Net___init__ (hr.mono (by decide)) rfl T.m_Net T.b_Net___init__ .nil pass0 (pa_cons (pv 1) pa_nil)))
      (pss_cons (ps_set (i := 6) sc_law.nd rfl (Or.inl rfl) (pe_make T.mk_Net G_Net___init__ (hr.mono (by decide)) rfl T.m_Net T.b_Net___init__ .nil pass0 (pa_cons pe_int pa_nil)))
      (pss_cons (ps_if (pt_not (pt_val (pe_call G__law_alike (hr.mono (by decide)) rfl T.m__law_alike T.k__law_alike T.b__law_alike .nil pass0 (pa_cons (pe_meth (pv 6) T.cl_Net T.mt_Net_lay G_Net_lay (hr.mono (by decide)) T.b_Net_lay .nil pass0 (pa_cons pe_int (pa_cons pe_int (pa_cons pe_int pa_nil)))) (pa_cons (pe_tup (pa_cons pe_int (pa_cons pe_non (pa_cons pe_int pa_nil)))) pa_nil))))) (pss_one (ps_ret pe_bl)) pss_nil)
      (pss_cons (ps_set (i := 7) sc_law.nd rfl (Or.inl rfl) (pe_lst pa_nil))
      (pss_cons (ps_for PassesOwn.never rfl (pi_range1 rfl T.z_range (pa_cons (pe_callB call_len_seq rfl T.z_len bo_len (pa_cons (pv 2) pa_nil)) pa_nil)) (pg_name (i := 8) sc_law.nd rfl (Or.inl rfl))
      (pss_one (ps_if (pt_cmpR op_eq (pe_ix ix_tup (pe_ix ix_list (pv 2) (pv 8) (fun _ _ => rfl)) pe_int (fun _ _ => rfl)) pe_str (nomark _)) (pss_one (ps_if (PW.pt (pw_or (pt_not (pt_val (pe_call G__law_whole_row (hr.mono (by decide)) rfl T.m__law_whole_row T.k__law_whole_row T.b__law_whole_row .nil pass0 (pa_cons (pe_ix ix_list (pv 4) (pv 8) (fun _ _ => rfl)) pa_nil)))) (pw_or1 (pt_cmpR (op_neD hu64) (pe_ix ix_list (pv 4) (pv 8) (fun _ _ => rfl)) (pe_call G__law_least_of (hr.mono (by decide)) rfl T.m__law_least_of T.k__law_least_of T.b__law_least_of .nil pass0 (pa_cons (pv 1) (pa_cons (pv 7) pa_nil))) (nomark _))))) (pss_one (ps_ret pe_bl)) pss_nil)) (pss_cons (ps_set (i := 9) sc_law.nd rfl (Or.inl rfl) (pe_call G__law_due_for (hr.mono (by decide)) rfl T.m__law_due_for T.k__law_due_for T.b__law_due_for .nil pass0 (pa_cons (pv 1) (pa_cons (pv 7) (pa_cons (pe_ix ix_list (pv 2) (pv 8) (fun _ _ => rfl)) pa_nil)))))
      (pss_cons (ps_if (pt_not (pt_val (pe_call G__law_alike (hr.mono (by decide)) rfl T.m__law_alike T.k__law_alike T.b__law_alike .nil pass0 (pa_cons (pe_ix ix_list (pv 4) (pv 8) (fun _ _ => rfl)) (pa_cons (pv 9) pa_nil))))) (pss_one (ps_ret pe_bl)) pss_nil)
      (pss_one (ps_if (pt_not (pt_val (pe_call G__law_hand_is (hr.mono (by decide)) rfl T.m__law_hand_is T.k__law_hand_is T.b__law_hand_is .nil pass0 (pa_cons (pe_call G__law_told_by (hr.mono (by decide)) rfl T.m__law_told_by T.k__law_told_by T.b__law_told_by .nil pass0 (pa_cons (pv 5) (pa_cons (pe_ix ix_list (pv 2) (pv 8) (fun _ _ => rfl)) pa_nil))) (pa_cons (pv 9) pa_nil))))) (pss_one (ps_ret pe_bl)) pss_nil)))))))
      (pss_one (ps_ret (pe_call G__law_alike (hr.mono (by decide)) rfl T.m__law_alike T.k__law_alike T.b__law_alike .nil pass0 (pa_cons (pe_meth (pv 6) T.cl_Net T.mt_Net_lay G_Net_lay (hr.mono (by decide)) T.b_Net_lay .nil pass0 (pa_cons pe_int (pa_cons pe_int (pa_cons pe_int pa_nil)))) (pa_cons (pe_tup (pa_cons pe_int (pa_cons pe_non (pa_cons pe_int pa_nil)))) pa_nil)))))))))))))))), ?_⟩
    rw [show start ["_law_script", "_law_count", "_law_asked", "_law_handed", "_law_found", "_law_net", "_law_second", "_law_ropes", "_law_k", "_law_due"] [.ref a] = [some (.ref a), none, none, none, none, none, none, none, none, none] from rfl]
    try simp only [rv0,rvS,rC,rOp,rUn,rTest,rB,rBl,rI0i,rIi,rUi,rEqi,rNei,rEqb,rNeb,rNot,rAnd,rOr,rAndV,rOrV,rNotV,rIf,rSeq,rNext,rDrop,rRet,rRetN,rIfS,rAsg,rName,rNil,rCons,rCB,rBM,rCall,rTup,rLst,rSl,rNoPart,rPart,rInt,rChain,rComp,rIList,rITup,rIRng1,rK,rKn,rKc,rRaise,rIsN,rNotN,rBM0,rFld,rSFld,rMeth,rMake,rGSub,rIRngThree,rTryIf,rMCall,rMMeth,rTryR2,List.set_cons_zero,List.set_cons_succ,List.append_nil,capS,List.map_cons,List.map_nil,List.nil_append,List.cons_append,List.getD_cons_zero,List.getD_cons_succ]
    refine ⟨a, _, rfl, hS, fun p0 n0 => ?_⟩
    obtain ⟨ms, em, lm, _⟩ := cut_ints ns none (some 1000)
    rw [em]
    have s0 : Same H (upd H p0 (.lst (ms.map V.int))) := Same.upd_new n0
    have h0 : upd H p0 (.lst (ms.map V.int)) p0 = some (.lst (ms.map V.int)) := upd_same
    generalize upd H p0 (.lst (ms.map V.int)) = H0 at s0 h0 ⊢
    try simp only [rv0,rvS,rC,rOp,rUn,rTest,rB,rBl,rI0i,rIi,rUi,rEqi,rNei,rEqb,rNeb,rNot,rAnd,rOr,rAndV,rOrV,rNotV,rIf,rSeq,rNext,rDrop,rRet,rRetN,rIfS,rAsg,rName,rNil,rCons,rCB,rBM,rCall,rTup,rLst,rSl,rNoPart,rPart,rInt,rChain,rComp,rIList,rITup,rIRng1,rK,rKn,rKc,rRaise,rIsN,rNotN,rBM0,rFld,rSFld,rMeth,rMake,rGSub,rIRngThree,rTryIf,rMCall,rMMeth,rTryR2,List.set_cons_zero,List.set_cons_succ,List.append_nil,capS,List.map_cons,List.map_nil,List.nil_append,List.cons_append,List.getD_cons_zero,List.getD_cons_succ]
    refine ⟨p0, ms, 0, rfl, h0, by omega, ?_⟩
    try simp only [rv0,rvS,rC,rOp,rUn,rTest,rB,rBl,rI0i,rIi,rUi,rEqi,rNei,rEqb,rNeb,rNot,rAnd,rOr,rAndV,rOrV,rNotV,rIf,rSeq,rNext,rDrop,rRet,rRetN,rIfS,rAsg,rName,rNil,rCons,rCB,rBM,rCall,rTup,rLst,rSl,rNoPart,rPart,rInt,rChain,rComp,rIList,rITup,rIRng1,rK,rKn,rKc,rRaise,rIsN,rNotN,rBM0,rFld,rSFld,rMeth,rMake,rGSub,rIRngThree,rTryIf,rMCall,rMMeth,rTryR2,List.set_cons_zero,List.set_cons_succ,List.append_nil,capS,List.map_cons,List.map_nil,List.nil_append,List.cons_append,List.getD_cons_zero,List.getD_cons_succ]
    refine ⟨p0, _, 6, 30, rfl, h0, by rw [List.length_map]; omega, ?_⟩
    try simp only [rv0,rvS,rC,rOp,rUn,rTest,rB,rBl,rI0i,rIi,rUi,rEqi,rNei,rEqb,rNeb,rNot,rAnd,rOr,rAndV,rOrV,rNotV,rIf,rSeq,rNext,rDrop,rRet,rRetN,rIfS,rAsg,rName,rNil,rCons,rCB,rBM,rCall,rTup,rLst,rSl,rNoPart,rPart,rInt,rChain,rComp,rIList,rITup,rIRng1,rK,rKn,rKc,rRaise,rIsN,rNotN,rBM0,rFld,rSFld,rMeth,rMake,rGSub,rIRngThree,rTryIf,rMCall,rMMeth,rTryR2,List.set_cons_zero,List.set_cons_succ,List.append_nil,capS,List.map_cons,List.map_nil,List.nil_append,List.cons_append,List.getD_cons_zero,List.getD_cons_succ]
    refine ⟨by decide, ?_⟩
    obtain ⟨n, en, hn⟩ : ∃ n : Nat, ms.getD (0 : Int).toNat 0 % 6 = (n : Int) ∧ n < 6 := ⟨(ms.getD (0 : Int).toNat 0 % 6).toNat, by omega, by omega⟩
    rw [en]
    refine ⟨p0, _, 46, 1000, rfl, h0, by rw [List.length_map]; omega, ?_⟩
    refine ⟨_, rfl, p0, _, rfl, SqL.of h0, fun p1 n1 => ?_⟩
    obtain ⟨cs, ec, _, _⟩ := cut_ints ms (some 1) (some 46)
    have lc := cut_short ms (some 1) 46
    rw [show ((46 : Nat) : Int) = 46 from rfl, ec, List.length_map] at lc
    rw [ec]
    have s1 : Same H0 (upd H0 p1 (.lst (cs.map V.int))) := Same.upd_new n1
    have h1 : upd H0 p1 (.lst (cs.map V.int)) p1 = some (.lst (cs.map V.int)) := upd_same
    generalize upd H0 p1 (.lst (cs.map V.int)) = H1 at s1 h1 ⊢
    try simp only [rv0,rvS,rC,rOp,rUn,rTest,rB,rBl,rI0i,rIi,rUi,rEqi,rNei,rEqb,rNeb,rNot,rAnd,rOr,rAndV,rOrV,rNotV,rIf,rSeq,rNext,rDrop,rRet,rRetN,rIfS,rAsg,rName,rNil,rCons,rCB,rBM,rCall,rTup,rLst,rSl,rNoPart,rPart,rInt,rChain,rComp,rIList,rITup,rIRng1,rK,rKn,rKc,rRaise,rIsN,rNotN,rBM0,rFld,rSFld,rMeth,rMake,rGSub,rIRngThree,rTryIf,rMCall,rMMeth,rTryR2,List.set_cons_zero,List.set_cons_succ,List.append_nil,capS,List.map_cons,List.map_nil,List.nil_append,List.cons_append,List.getD_cons_zero,List.getD_cons_succ]
    refine ⟨p1, n, cs, rfl, h1, by omega, fun pa ds H2 s2 ld repA => ?_⟩
    have t2 := (s0.trans s1).trans s2
    obtain ⟨pa', xa, e, hpa, hxa⟩ := rep_lst.mp repA
    cases e
    have lxa : xa.length = ds.length := by have := hxa.length; rw [List.length_map] at this; exact this.symm
    try simp only [rv0,rvS,rC,rOp,rUn,rTest,rB,rBl,rI0i,rIi,rUi,rEqi,rNei,rEqb,rNeb,rNot,rAnd,rOr,rAndV,rOrV,rNotV,rIf,rSeq,rNext,rDrop,rRet,rRetN,rIfS,rAsg,rName,rNil,rCons,rCB,rBM,rCall,rTup,rLst,rSl,rNoPart,rPart,rInt,rChain,rComp,rIList,rITup,rIRng1,rK,rKn,rKc,rRaise,rIsN,rNotN,rBM0,rFld,rSFld,rMeth,rMake,rGSub,rIRngThree,rTryIf,rMCall,rMMeth,rTryR2,List.set_cons_zero,List.set_cons_succ,List.append_nil,capS,List.map_cons,List.map_nil,List.nil_append,List.cons_append,List.getD_cons_zero,List.getD_cons_succ]
    refine ⟨pa, _, rfl, .inl (SqL.of hpa), fun ph nh => ?_⟩
    have s3 : Same H2 (upd H2 ph (.lst xa)) := Same.upd_new nh
    have hph : upd H2 ph (.lst xa) ph = some (.lst xa) := upd_same
    generalize upd H2 ph (.lst xa) = H3 at s3 hph ⊢
    have repH : Rep H3 (.list (ds.map deedD)) (.ref ph) := rep_lst.mpr ⟨ph, xa, rfl, hph, hxa.mono s3⟩
    have t3 := t2.trans s3
    try simp only [rv0,rvS,rC,rOp,rUn,rTest,rB,rBl,rI0i,rIi,rUi,rEqi,rNei,rEqb,rNeb,rNot,rAnd,rOr,rAndV,rOrV,rNotV,rIf,rSeq,rNext,rDrop,rRet,rRetN,rIfS,rAsg,rName,rNil,rCons,rCB,rBM,rCall,rTup,rLst,rSl,rNoPart,rPart,rInt,rChain,rComp,rIList,rITup,rIRng1,rK,rKn,rKc,rRaise,rIsN,rNotN,rBM0,rFld,rSFld,rMeth,rMake,rGSub,rIRngThree,rTryIf,rMCall,rMMeth,rTryR2,List.set_cons_zero,List.set_cons_succ,List.append_nil,capS,List.map_cons,List.map_nil,List.nil_append,List.cons_append,List.getD_cons_zero,List.getD_cons_succ]
    refine ⟨ph, n, ds, rfl, repH, by omega, by omega, t3 _ _ hT, fun pf ys H4 s4 hpf ly hys => ?_⟩
    have t4 := t3.trans s4
    have repA4 := repA.mono (s3.trans s4)
    try simp only [rv0,rvS,rC,rOp,rUn,rTest,rB,rBl,rI0i,rIi,rUi,rEqi,rNei,rEqb,rNeb,rNot,rAnd,rOr,rAndV,rOrV,rNotV,rIf,rSeq,rNext,rDrop,rRet,rRetN,rIfS,rAsg,rName,rNil,rCons,rCB,rBM,rCall,rTup,rLst,rSl,rNoPart,rPart,rInt,rChain,rComp,rIList,rITup,rIRng1,rK,rKn,rKc,rRaise,rIsN,rNotN,rBM0,rFld,rSFld,rMeth,rMake,rGSub,rIRngThree,rTryIf,rMCall,rMMeth,rTryR2,List.set_cons_zero,List.set_cons_succ,List.append_nil,capS,List.map_cons,List.map_nil,List.nil_append,List.cons_append,List.getD_cons_zero,List.getD_cons_succ]
    refine ⟨.list (ds.map deedD), _, _, rfl, repH.mono s4, repA4, by rw [likeD]; exact like_deeds ds, by rw [PyData.canLay0]; exact lay_deeds ds, by have := dep_deeds ds; rw [PyData.depth]; omega, by have := sz_deeds ds; rw [szD]; omega, fun Hf s5 => ?_⟩
    have tf := t4.trans s5
    have hpaf := (s3.trans (s4.trans s5)) _ _ hpa
    have hxaf := hxa.mono (s3.trans (s4.trans s5))
    have hpff := s5 _ _ hpf
    have hysf := fun j y d e1 e2 => (hys j y d e1 e2).mono s5
    have hTf := tf _ _ hT
    have k := fun H' s => k H' (tf.trans s)
    clear hys s5 t4 s4 t3 repA4 repH repA hph hpa hxa h1 h0 s0 s1 s2 s3 t2 hpf
    try simp only [rv0,rvS,rC,rOp,rUn,rTest,rB,rBl,rI0i,rIi,rUi,rEqi,rNei,rEqb,rNeb,rNot,rAnd,rOr,rAndV,rOrV,rNotV,rIf,rSeq,rNext,rDrop,rRet,rRetN,rIfS,rAsg,rName,rNil,rCons,rCB,rBM,rCall,rTup,rLst,rSl,rNoPart,rPart,rInt,rChain,rComp,rIList,rITup,rIRng1,rK,rKn,rKc,rRaise,rIsN,rNotN,rBM0,rFld,rSFld,rMeth,rMake,rGSub,rIRngThree,rTryIf,rMCall,rMMeth,rTryR2,List.set_cons_zero,List.set_cons_succ,List.append_nil,capS,List.map_cons,List.map_nil,List.nil_append,List.cons_append,List.getD_cons_zero,List.getD_cons_succ]
    refine iteF ?_
    refine ⟨_, _, _, _, rfl, .lst hpff, rfl, iteF ?_⟩
    refine ⟨pf, _, rfl, .inl (SqL.of hpff), pa, _, rfl, .inl (SqL.of hpaf), ?_⟩
    refine ite2 (fun c => absurd c (by simp [ly, lxa])) (fun _ => ?_)
    intro np dx nnp ndx nex
    refine ⟨np, dx, n, rfl, upd_same, fun pr tp H1 npr ntp N1 kp1 => ⟨rfl, ?_⟩⟩
    have s0 : Same Hf (upd (upd Hf dx (.own np)) np (.ins A.a_Net dx [])) := fun b o e => by
      rw [upd_ne (ne_of_none e nnp), upd_ne (ne_of_none e ndx)]
      exact e
    have s1 : Same Hf H1 := fun b o e => kp1 b o (s0 b o e) (ne_of_none e nnp)
    have npr0 : Hf pr = none := s0.free npr
    clear kp1 npr ntp
    intro np2 dx2 nnp2 ndx2 nex2
    refine ⟨np2, dx2, 3, rfl, upd_same, fun pr2 tp2 H2 npr2 ntp2 N2 kp2 => ⟨rfl, ?_⟩⟩
    have s0' : Same H1 (upd (upd H1 dx2 (.own np2)) np2 (.ins A.a_Net dx2 [])) := fun b o e => by
      rw [upd_ne (ne_of_none e nnp2), upd_ne (ne_of_none e ndx2)]
      exact e
    have s2 : Same H1 H2 := fun b o e => kp2 b o (s0' b o e) (ne_of_none e nnp2)
    have npr2 : H1 pr2 = none := s0'.free npr2
    obtain ⟨dxa, ob1⟩ := N1.ob
    obtain ⟨xra, ro1, _⟩ := N1.ro
    obtain ⟨dxb, ob2⟩ := N2.ob
    have a1 : np2 ≠ np := (ne_of_none ob1 nnp2).symm
    have a2 : np2 ≠ pr := (ne_of_none ro1 nnp2).symm
    have a3 : pr2 ≠ np := (ne_of_none ob1 npr2).symm
    have a4 : pr2 ≠ pr := (ne_of_none ro1 npr2).symm
    refine ⟨np2, dxb, _, rfl, ob2, flds_no _ _ _ (by decide +kernel) (by decide +kernel) (by decide +kernel), ?_⟩
    refine ⟨np2, pr2, tp2, 3, [], 0, 2, 5, rfl, N2, by decide, by decide, (s1.trans s2) _ _ hTf, fun z => absurd z (by decide), fun _ v tq2 H3 ntq2 N3 kp3 r3 => ?_⟩
    have s3 : Same H1 H3 := kp3.same s2 nnp2 npr2
    have a5 : tq2 ≠ np := (ne_of_none (s2 _ _ ob1) ntq2).symm
    have a6 : tq2 ≠ pr := (ne_of_none (s2 _ _ ro1) ntq2).symm
    rw [ans_one] at r3
    have nice1 : NiceD (.tuple [.int 0, .none, .int 5]) := ans_one ▸ nice_lay 3 [] 0 2 5
    refine ⟨show 3 ≤ sizeLine by decide, fun p np' => ?_⟩
    have s4 := Same.upd_new (o := .tup [.int 0, .non, .int 5]) np'
    refine ⟨_, v, .ref p, rfl, r3.mono s4, rep_tup.mpr ⟨p, _, rfl, upd_same, reps_cc.mpr ⟨rep_int.mpr rfl, reps_cc.mpr ⟨rep_non.mpr rfl, reps_cc.mpr ⟨rep_int.mpr rfl, reps_nil.mpr rfl⟩⟩⟩⟩, nice1, fun H4 s5 => ?_⟩
    refine ⟨_, rfl, iteF ?_⟩
    have t4 := s4.trans s5
    have sf4 := (s1.trans s3).trans t4
    have N4 := N1.mono (s3.trans t4)
    have M4 : NetAt A.a_Net H4 np2 pr2 tq2 3 [(0, 2, 5)] := N3.mono t4
    refine ⟨Nat.zero_le _, fun lr nlr => ?_⟩
    have s6 := Same.upd_new (o := .lst []) nlr
    have g6 : upd H4 lr (.lst []) lr = some (.lst []) := upd_same
    generalize upd H4 lr (.lst []) = H5 at s6 g6 ⊢
    have b0 : Hf lr = none := sf4.free nlr
    have ob4 : ∃ o, H4 np = some o := let ⟨dx, e⟩ := N4.ob; ⟨_, e⟩
    have ro4 : ∃ o, H4 pr = some o := let ⟨dx, e, _⟩ := N4.ro; ⟨_, e⟩
    have ob4' : ∃ o, H4 np2 = some o := let ⟨dx, e⟩ := M4.ob; ⟨_, e⟩
    have ro4' : ∃ o, H4 pr2 = some o := let ⟨dx, e, _⟩ := M4.ro; ⟨_, e⟩
    have b1 : np ≠ lr := let ⟨_, e⟩ := ob4; ne_of_none e nlr
    have b2 : pr ≠ lr := let ⟨_, e⟩ := ro4; ne_of_none e nlr
    have b3 : np2 ≠ lr := let ⟨_, e⟩ := ob4'; ne_of_none e nlr
    have b4 : pr2 ≠ lr := let ⟨_, e⟩ := ro4'; ne_of_none e nlr
    have b5 : tq2 ≠ lr := ne_of_none M4.tr nlr
    have b6 : tp ≠ lr := ne_of_none N4.tr nlr
    have nnp2f : Hf np2 = none := s1.free nnp2
    have npr2f : Hf pr2 = none := s1.free npr2
    have D0 : DayAt A.a_Net Hf np pr np2 pr2 tq2 lr n (ropesAt n ds 0) H5 tp := ⟨sf4.trans s6, N4.mono s6, b6, M4.mono s6, [], g6, reps_nil.mpr rfl⟩
    try simp only [rv0,rvS,rC,rOp,rUn,rTest,rB,rBl,rI0i,rIi,rUi,rEqi,rNei,rEqb,rNeb,rNot,rAnd,rOr,rAndV,rOrV,rNotV,rIf,rSeq,rNext,rDrop,rRet,rRetN,rIfS,rAsg,rName,rNil,rCons,rCB,rBM,rCall,rTup,rLst,rSl,rNoPart,rPart,rInt,rChain,rComp,rIList,rITup,rIRng1,rK,rKn,rKc,rRaise,rIsN,rNotN,rBM0,rFld,rSFld,rMeth,rMake,rGSub,rIRngThree,rTryIf,rMCall,rMMeth,rTryR2,List.set_cons_zero,List.set_cons_succ,List.append_nil,capS,List.map_cons,List.map_nil,List.nil_append,List.cons_append,List.getD_cons_zero,List.getD_cons_succ]
    refine ⟨_, rfl, pa, _, rfl, .inl (SqL.of (D0.sf _ _ hpaf)), (xa.length : Int), rfl, by omega, by omega, for_range (lo := 0) (n := xa.length) (fun i σ H' => ∃ tq v8 v9, σ = [some (.ref p0), some (.int n), some (.ref pa), some (.ref ph), some (.ref pf), some (.ref np), some (.ref np2), some (.ref lr), v8, v9] ∧ DayAt A.a_Net Hf np pr np2 pr2 tq2 lr n (ropesAt n ds i) H' tq) ⟨tp, none, none, rfl, D0⟩ ?_ ?_⟩
    · rintro i σ H' hi ⟨tq, v8, v9, rfl, Dy⟩
      have hid : i < ds.length := by omega
      have ed : ds[i]? = some ds[i] := List.getElem?_eq_getElem hid
      generalize ds[i] = d at ed
      obtain ⟨x, ex, rx⟩ := hxaf.get (i := i) (d := deedD d) (by rw [List.getElem?_map, ed]; rfl)
      have ey : ys[i]? = some ys[i] := List.getElem?_eq_getElem (by omega)
      generalize ys[i] = y at ey
      have ry := hysf i y d ey ed
      have ix : atI xa ((0 : Int) + i) = some x := atI_int (by omega) (by simpa using ex)
      have iy : atI ys ((0 : Int) + i) = some y := atI_int (by omega) (by simpa using ey)
      have hrl := ropesAt_len n ds i
      have en2 := ropesAt_succ (n := n) ed
      have hokr := Dy.net.ok
      obtain ⟨dp, rfl⟩ := rep_deed rx
      generalize ropesAt n ds i = rs at *
      try simp only [rv0,rvS,rC,rOp,rUn,rTest,rB,rBl,rI0i,rIi,rUi,rEqi,rNei,rEqb,rNeb,rNot,rAnd,rOr,rAndV,rOrV,rNotV,rIf,rSeq,rNext,rDrop,rRet,rRetN,rIfS,rAsg,rName,rNil,rCons,rCB,rBM,rCall,rTup,rLst,rSl,rNoPart,rPart,rInt,rChain,rComp,rIList,rITup,rIRng1,rK,rKn,rKc,rRaise,rIsN,rNotN,rBM0,rFld,rSFld,rMeth,rMake,rGSub,rIRngThree,rTryIf,rMCall,rMMeth,rTryR2,List.set_cons_zero,List.set_cons_succ,List.append_nil,capS,List.map_cons,List.map_nil,List.nil_append,List.cons_append,List.getD_cons_zero,List.getD_cons_succ]
      refine rd_list (Dy.sf _ _ hpaf) ix ?_
      by_cases hnl : d = .look
      · subst hnl
        obtain ⟨dp', e, hd⟩ := rep_look rx
        cases e
        refine rd_tup (Dy.sf _ _ hd) rfl ?_
        refine ⟨rfl, _, rfl, ite2 (fun _ => ?_) (fun c => absurd (decide_eq_true rfl) c)⟩
        obtain ⟨q, rfl, hq⟩ := rep_ints.mp (show Rep Hf (intsD (RT.lt n rs)) y from ry)
        try simp only [rv0,rvS,rC,rOp,rUn,rTest,rB,rBl,rI0i,rIi,rUi,rEqi,rNei,rEqb,rNeb,rNot,rAnd,rOr,rAndV,rOrV,rNotV,rIf,rSeq,rNext,rDrop,rRet,rRetN,rIfS,rAsg,rName,rNil,rCons,rCB,rBM,rCall,rTup,rLst,rSl,rNoPart,rPart,rInt,rChain,rComp,rIList,rITup,rIRng1,rK,rKn,rKc,rRaise,rIsN,rNotN,rBM0,rFld,rSFld,rMeth,rMake,rGSub,rIRngThree,rTryIf,rMCall,rMMeth,rTryR2,List.set_cons_zero,List.set_cons_succ,List.append_nil,capS,List.map_cons,List.map_nil,List.nil_append,List.cons_append,List.getD_cons_zero,List.getD_cons_succ]
        refine rd_list (Dy.sf _ _ hpff) iy ?_
        refine ⟨q, RT.lt n rs, rfl, Dy.sf _ _ hq, ?_⟩
        try simp only [rv0,rvS,rC,rOp,rUn,rTest,rB,rBl,rI0i,rIi,rUi,rEqi,rNei,rEqb,rNeb,rNot,rAnd,rOr,rAndV,rOrV,rNotV,rIf,rSeq,rNext,rDrop,rRet,rRetN,rIfS,rAsg,rName,rNil,rCons,rCB,rBM,rCall,rTup,rLst,rSl,rNoPart,rPart,rInt,rChain,rComp,rIList,rITup,rIRng1,rK,rKn,rKc,rRaise,rIsN,rNotN,rBM0,rFld,rSFld,rMeth,rMake,rGSub,rIRngThree,rTryIf,rMCall,rMMeth,rTryR2,List.set_cons_zero,List.set_cons_succ,List.append_nil,capS,List.map_cons,List.map_nil,List.nil_append,List.cons_append,List.getD_cons_zero,List.getD_cons_succ]
        refine iteF ?_
        refine rd_list (Dy.sf _ _ hpff) iy ?_
        refine ⟨n, lr, rs, rfl, Dy.rep, hokr, by omega, by omega, fun D Hx ns' sx nD L eD => ?_⟩
        have e0 : ns' = RT.lt n rs := (RT.lt_eq L).symm
        subst e0
        refine ⟨intsD (RT.lt n rs), intsD (RT.lt n rs), rep_ints.mpr ⟨q, rfl, sx _ _ (Dy.sf _ _ hq)⟩, rep_ints.mpr ⟨D, rfl, eD⟩, sh_ints _, sh_ints _, ?_⟩
        rw [eqv_ints]
        try simp only [rv0,rvS,rC,rOp,rUn,rTest,rB,rBl,rI0i,rIi,rUi,rEqi,rNei,rEqb,rNeb,rNot,rAnd,rOr,rAndV,rOrV,rNotV,rIf,rSeq,rNext,rDrop,rRet,rRetN,rIfS,rAsg,rName,rNil,rCons,rCB,rBM,rCall,rTup,rLst,rSl,rNoPart,rPart,rInt,rChain,rComp,rIList,rITup,rIRng1,rK,rKn,rKc,rRaise,rIsN,rNotN,rBM0,rFld,rSFld,rMeth,rMake,rGSub,rIRngThree,rTryIf,rMCall,rMMeth,rTryR2,List.set_cons_zero,List.set_cons_succ,List.append_nil,capS,List.map_cons,List.map_nil,List.nil_append,List.cons_append,List.getD_cons_zero,List.getD_cons_succ]
        refine ite2 (fun c => absurd c (by simp)) (fun _ => ⟨tq, _, _, rfl, ?_⟩)
        rw [en2]
        exact Dy.mono sx
      · obtain ⟨dp', w, zs, e, hd, nw⟩ := deed_head rx hnl
        cases e
        refine rd_tup (Dy.sf _ _ hd) (atI_int (Int.le_refl 0) rfl) ?_
        refine ⟨rfl, _, rfl, ite2 (fun c => absurd (of_decide_eq_true c) nw) (fun _ => ?_)⟩
        try simp only [rv0,rvS,rC,rOp,rUn,rTest,rB,rBl,rI0i,rIi,rUi,rEqi,rNei,rEqb,rNeb,rNot,rAnd,rOr,rAndV,rOrV,rNotV,rIf,rSeq,rNext,rDrop,rRet,rRetN,rIfS,rAsg,rName,rNil,rCons,rCB,rBM,rCall,rTup,rLst,rSl,rNoPart,rPart,rInt,rChain,rComp,rIList,rITup,rIRng1,rK,rKn,rKc,rRaise,rIsN,rNotN,rBM0,rFld,rSFld,rMeth,rMake,rGSub,rIRngThree,rTryIf,rMCall,rMMeth,rTryR2,List.set_cons_zero,List.set_cons_succ,List.append_nil,capS,List.map_cons,List.map_nil,List.nil_append,List.cons_append,List.getD_cons_zero,List.getD_cons_succ]
        refine rd_list (Dy.sf _ _ hpaf) ix ?_
        refine ⟨lr, dp, n, rs, d, rfl, Dy.rep, hokr, rx.mono Dy.sf, hnl, by omega, by omega, fun v Hx xs' kp hl' hx' nice r => ?_⟩
        have sx : Same Hf Hx := fun b o e => kp b o (Dy.sf _ _ e) (ne_of_none e b0)
        obtain ⟨xl, hlr, _⟩ := Dy.ro
        have kx : Kept lr lr H' Hx := fun b o e n1 _ => kp b o e n1
        have Nx := Dy.net.keep kx (.lst hlr) (.lst hlr) b1 b1 b2 b2 Dy.nt Dy.nt
        have Mx := Dy.sec.keep kx (.lst hlr) (.lst hlr) b3 b3 b4 b4 b5 b5
        try simp only [rv0,rvS,rC,rOp,rUn,rTest,rB,rBl,rI0i,rIi,rUi,rEqi,rNei,rEqb,rNeb,rNot,rAnd,rOr,rAndV,rOrV,rNotV,rIf,rSeq,rNext,rDrop,rRet,rRetN,rIfS,rAsg,rName,rNil,rCons,rCB,rBM,rCall,rTup,rLst,rSl,rNoPart,rPart,rInt,rChain,rComp,rIList,rITup,rIRng1,rK,rKn,rKc,rRaise,rIsN,rNotN,rBM0,rFld,rSFld,rMeth,rMake,rGSub,rIRngThree,rTryIf,rMCall,rMMeth,rTryR2,List.set_cons_zero,List.set_cons_succ,List.append_nil,capS,List.map_cons,List.map_nil,List.nil_append,List.cons_append,List.getD_cons_zero,List.getD_cons_succ]
        refine rd_list (sx _ _ hpff) iy ?_
        refine ⟨_, y, v, rfl, ry.mono sx, r, nice, fun Hy sy => ?_⟩
        try simp only [rv0,rvS,rC,rOp,rUn,rTest,rB,rBl,rI0i,rIi,rUi,rEqi,rNei,rEqb,rNeb,rNot,rAnd,rOr,rAndV,rOrV,rNotV,rIf,rSeq,rNext,rDrop,rRet,rRetN,rIfS,rAsg,rName,rNil,rCons,rCB,rBM,rCall,rTup,rLst,rSl,rNoPart,rPart,rInt,rChain,rComp,rIList,rITup,rIRng1,rK,rKn,rKc,rRaise,rIsN,rNotN,rBM0,rFld,rSFld,rMeth,rMake,rGSub,rIRngThree,rTryIf,rMCall,rMMeth,rTryR2,List.set_cons_zero,List.set_cons_succ,List.append_nil,capS,List.map_cons,List.map_nil,List.nil_append,List.cons_append,List.getD_cons_zero,List.getD_cons_succ]
        refine iteF ?_
        have sxy := sx.trans sy
        refine rd_list (sxy _ _ hpaf) ix ?_
        refine ⟨np, pr, tq, dp, n, rs, d, rfl, Nx.mono sy, rx.mono sxy, hnl, by omega, by omega, sxy _ _ hTf, fun u tq' Hz etq Nz kz rz => ?_⟩
        have sz : Same Hf Hz := kz.same sxy nnp npr0
        have Ny := Nx.mono sy
        have My := Mx.mono sy
        refine ⟨n, rs, d, u, v, rfl, rz, Rep.keep (fun p xs e => kz.tup Ny.np Ny.pr e) (flat_told hnl) (r.mono sy), fun ok => ?_, hnl, fun Hw sw => ?_⟩
        · unfold toldD at nice
          rw [ok, if_pos rfl] at nice
          exact nice
        try simp only [rv0,rvS,rC,rOp,rUn,rTest,rB,rBl,rI0i,rIi,rUi,rEqi,rNei,rEqb,rNeb,rNot,rAnd,rOr,rAndV,rOrV,rNotV,rIf,rSeq,rNext,rDrop,rRet,rRetN,rIfS,rAsg,rName,rNil,rCons,rCB,rBM,rCall,rTup,rLst,rSl,rNoPart,rPart,rInt,rChain,rComp,rIList,rITup,rIRng1,rK,rKn,rKc,rRaise,rIsN,rNotN,rBM0,rFld,rSFld,rMeth,rMake,rGSub,rIRngThree,rTryIf,rMCall,rMMeth,rTryR2,List.set_cons_zero,List.set_cons_succ,List.append_nil,capS,List.map_cons,List.map_nil,List.nil_append,List.cons_append,List.getD_cons_zero,List.getD_cons_succ]
        refine iteF ⟨tq', _, _, rfl, ?_⟩
        rw [en2]
        have hly : Hy lr = some (.lst xs') := sy _ _ hl'
        have hlz : Hz lr = some (.lst xs') := kz _ _ hly b1.symm b2.symm
        refine DayAt.mono ⟨sz, Nz, ?_, My.keep kz Ny.np Ny.pr a1 a2 a3 a4 a5 a6, xs', hlz, ropes_keep kz Ny.np Ny.pr (hx'.mono sy)⟩ sw
        rcases etq with e | e
        · exact (ne_of_none hly e).symm
        · rw [e]; exact Dy.nt
    · rintro σ H' ⟨tq, v8, v9, rfl, Dy⟩
      obtain ⟨dxc, obc⟩ := Dy.sec.ob
      try simp only [rv0,rvS,rC,rOp,rUn,rTest,rB,rBl,rI0i,rIi,rUi,rEqi,rNei,rEqb,rNeb,rNot,rAnd,rOr,rAndV,rOrV,rNotV,rIf,rSeq,rNext,rDrop,rRet,rRetN,rIfS,rAsg,rName,rNil,rCons,rCB,rBM,rCall,rTup,rLst,rSl,rNoPart,rPart,rInt,rChain,rComp,rIList,rITup,rIRng1,rK,rKn,rKc,rRaise,rIsN,rNotN,rBM0,rFld,rSFld,rMeth,rMake,rGSub,rIRngThree,rTryIf,rMCall,rMMeth,rTryR2,List.set_cons_zero,List.set_cons_succ,List.append_nil,capS,List.map_cons,List.map_nil,List.nil_append,List.cons_append,List.getD_cons_zero,List.getD_cons_succ]
      refine ⟨np2, dxc, _, rfl, obc, flds_no _ _ _ (by decide +kernel) (by decide +kernel) (by decide +kernel), ?_⟩
      refine ⟨np2, pr2, tq2, 3, [(0, 2, 5)], 2, 1, 4, rfl, Dy.sec, by decide, by decide, Dy.sf _ _ hTf, fun z => absurd z (by decide), fun _ v tq3 Hx _ _ kx rx => ?_⟩
      have sx : Same Hf Hx := kx.same Dy.sf nnp2f npr2f
      rw [ans_two] at rx
      have nice2 : NiceD (.tuple [.int 1, .none, .int 9]) := ans_two ▸ nice_lay 3 [(0, 2, 5)] 2 1 4
      refine ⟨show 3 ≤ sizeLine by decide, fun p np' => ?_⟩
      have sy := Same.upd_new (o := .tup [.int 1, .non, .int 9]) np'
      exact ⟨_, v, .ref p, rfl, rx.mono sy, rep_tup.mpr ⟨p, _, rfl, upd_same, reps_cc.mpr ⟨rep_int.mpr rfl, reps_cc.mpr ⟨rep_non.mpr rfl, reps_cc.mpr ⟨rep_int.mpr rfl, reps_nil.mpr rfl⟩⟩⟩⟩, nice2, fun Hz sz => k Hz ((sx.trans sy).trans sz)⟩
end
end My
namespace My
open PySem L2
theorem all_mk {l : PySem.W.OpenLaw} {w : World} {K : PySem.W.Frag} {h : Heap} {mg : Str → Option Value} {fa : Addr} (X : K.In h) (G : h.Ns mainGlobals mg) (hfa : mg "law" = some (.ref fa))
    {f0 : Addr} {od0 an0 : Option Addr} {sl0 : Array (Option Value)} {oc0 kV0 dc0 pm0 cd0 ct0 : Value}
    {f1 : Addr} {od1 an1 : Option Addr} {sl1 : Array (Option Value)} {oc1 kV1 dc1 pm1 cd1 ct1 : Value}
    {f2 : Addr} {od2 an2 : Option Addr} {sl2 : Array (Option Value)} {oc2 kV2 dc2 pm2 cd2 ct2 : Value}
    {f3 : Addr} {od3 an3 : Option Addr} {sl3 : Array (Option Value)} {oc3 kV3 dc3 pm3 cd3 ct3 : Value}
    {f4 : Addr} {od4 an4 : Option Addr} {sl4 : Array (Option Value)} {oc4 kV4 dc4 pm4 ct4 : Value} {c_4 : Addr} (p_4 : Addr)
    {f5 : Addr} {od5 an5 : Option Addr} {sl5 : Array (Option Value)} {oc5 kV5 dc5 pm5 cd5 ct5 : Value}
    {f6 : Addr} {od6 an6 : Option Addr} {sl6 : Array (Option Value)} {oc6 kV6 dc6 pm6 cd6 ct6 : Value}
    {f7 : Addr} {od7 an7 : Option Addr} {sl7 : Array (Option Value)} {oc7 kV7 dc7 pm7 cd7 ct7 : Value}
    {f8 : Addr} {od8 an8 : Option Addr} {sl8 : Array (Option Value)} {oc8 kV8 dc8 pm8 cd8 ct8 : Value}
    {f9 : Addr} {od9 an9 : Option Addr} {sl9 : Array (Option Value)} {oc9 kV9 dc9 pm9 cd9 ct9 : Value}
    {f10 : Addr} {od10 an10 : Option Addr} {sl10 : Array (Option Value)} {oc10 kV10 dc10 pm10 cd10 ct10 : Value}
    {f11 : Addr} {od11 an11 : Option Addr} {sl11 : Array (Option Value)} {oc11 kV11 dc11 pm11 cd11 ct11 : Value}
    {f12 : Addr} {od12 an12 : Option Addr} {sl12 : Array (Option Value)} {oc12 kV12 dc12 pm12 cd12 ct12 : Value}
    {f13 : Addr} {od13 an13 : Option Addr} {sl13 : Array (Option Value)} {oc13 kV13 dc13 pm13 cd13 ct13 : Value}
    {f14 : Addr} {od14 an14 : Option Addr} {sl14 : Array (Option Value)} {oc14 kV14 dc14 pm14 cd14 ct14 : Value}
    {f15 : Addr} {od15 an15 : Option Addr} {sl15 : Array (Option Value)} {oc15 kV15 dc15 pm15 cd15 ct15 : Value}
    {f16 : Addr} {od16 an16 : Option Addr} {sl16 : Array (Option Value)} {oc16 kV16 dc16 pm16 cd16 ct16 : Value}
    {f17 : Addr} {od17 an17 : Option Addr} {sl17 : Array (Option Value)} {oc17 kV17 dc17 pm17 cd17 ct17 : Value}
    {f18 : Addr} {od18 an18 : Option Addr} {sl18 : Array (Option Value)} {oc18 kV18 dc18 pm18 cd18 ct18 : Value}
    {f19 : Addr} {od19 an19 : Option Addr} {sl19 : Array (Option Value)} {oc19 kV19 dc19 pm19 cd19 ct19 : Value}
    {f20 : Addr} {od20 an20 : Option Addr} {sl20 : Array (Option Value)} {oc20 kV20 dc20 pm20 cd20 ct20 : Value}
    {f21 : Addr} {od21 an21 : Option Addr} {sl21 : Array (Option Value)} {oc21 kV21 dc21 pm21 cd21 ct21 : Value}
    {f22 : Addr} {od22 an22 : Option Addr} {sl22 : Array (Option Value)} {oc22 kV22 dc22 pm22 cd22 ct22 : Value}
    {f23 : Addr} {od23 an23 : Option Addr} {sl23 : Array (Option Value)} {oc23 kV23 dc23 pm23 cd23 ct23 : Value}
    {f24 : Addr} {od24 an24 : Option Addr} {sl24 : Array (Option Value)} {oc24 kV24 dc24 pm24 cd24 ct24 : Value}
    {f25 : Addr} {od25 an25 : Option Addr} {sl25 : Array (Option Value)} {oc25 kV25 dc25 pm25 cd25 ct25 : Value}
    {f26 : Addr} {od26 an26 : Option Addr} {sl26 : Array (Option Value)} {oc26 kV26 dc26 pm26 cd26 ct26 : Value}
    {f27 : Addr} {od27 an27 : Option Addr} {sl27 : Array (Option Value)} {oc27 kV27 dc27 pm27 cd27 ct27 : Value}
    {f28 : Addr} {od28 an28 : Option Addr} {sl28 : Array (Option Value)} {oc28 kV28 dc28 pm28 cd28 ct28 : Value}
    {f29 : Addr} {od29 an29 : Option Addr} {sl29 : Array (Option Value)} {oc29 kV29 dc29 pm29 cd29 ct29 : Value}
    {k_Net : Addr} (g_Net : PySem.W.nsIn K mainGlobals "Net" = some (some (.ref k_Net)))
    (pg_Net : PySem.W.plainGet K k_Net Str.empty = true)
    (hd_Net : PySem.W.hasDictIn K k_Net = true)
    (po_Net : PySem.W.plainOver K k_Net = true)
    (sa_Net : PySem.W.findIn K (.ref k_Net) "__setattr__" = some (some (.builtin "object.__setattr__")))
    (mk_Net : PySem.W.makesIn K k_Net = true)
    (kc_Net : PySem.W.keepIn K (.ref k_Net) = true)
    (nf_place_count : PySem.W.findIn K (.ref k_Net) "place_count" = some none)
    (nf_ropes : PySem.W.findIn K (.ref k_Net) "ropes" = some none)
    (nf_tree : PySem.W.findIn K (.ref k_Net) "tree" = some none)
    (a0 : PySem.W.nsIn K mainGlobals "check_places" = some (some (.ref f0)))
    (l0 : K.lookup f0 = some ⟨oc0, od0, .func (PySem.W.fnOf "check_places" "check_places" (defArgs s_check_places) (defBody s_check_places) (defScope s_check_places) .none kV0 dc0 pm0 an0 cd0 ct0), sl0⟩)
    (c0 : PySem.W.codeIn K cd0 "check_places" = true) (k0 : PySem.W.keepIn K (.ref f0) = true)
    (a1 : PySem.W.nsIn K mainGlobals "check_ropes" = some (some (.ref f1)))
    (l1 : K.lookup f1 = some ⟨oc1, od1, .func (PySem.W.fnOf "check_ropes" "check_ropes" (defArgs s_check_ropes) (defBody s_check_ropes) (defScope s_check_ropes) .none kV1 dc1 pm1 an1 cd1 ct1), sl1⟩)
    (c1 : PySem.W.codeIn K cd1 "check_ropes" = true) (k1 : PySem.W.keepIn K (.ref f1) = true)
    (a2 : PySem.W.nsIn K mainGlobals "is_rope_number" = some (some (.ref f2)))
    (l2 : K.lookup f2 = some ⟨oc2, od2, .func (PySem.W.fnOf "is_rope_number" "is_rope_number" (defArgs s_is_rope_number) (defBody s_is_rope_number) (defScope s_is_rope_number) .none kV2 dc2 pm2 an2 cd2 ct2), sl2⟩)
    (c2 : PySem.W.codeIn K cd2 "is_rope_number" = true) (k2 : PySem.W.keepIn K (.ref f2) = true)
    (a3 : PySem.W.nsIn K mainGlobals "cost_of" = some (some (.ref f3)))
    (l3 : K.lookup f3 = some ⟨oc3, od3, .func (PySem.W.fnOf "cost_of" "cost_of" (defArgs s_cost_of) (defBody s_cost_of) (defScope s_cost_of) .none kV3 dc3 pm3 an3 cd3 ct3), sl3⟩)
    (c3 : PySem.W.codeIn K cd3 "cost_of" = true) (k3 : PySem.W.keepIn K (.ref f3) = true)
    (a4 : PySem.W.nsIn K mainGlobals "from_cheapest" = some (some (.ref f4)))
    (l4 : K.lookup f4 = some ⟨oc4, od4, .func (PySem.W.fnOf "from_cheapest" "from_cheapest" (defArgs s_from_cheapest) (defBody s_from_cheapest) (defScope s_from_cheapest) .none kV4 dc4 pm4 an4 (.ref c_4) ct4), sl4⟩)
    (c4 : PySem.W.codeIn K (.ref c_4) "from_cheapest" = true) (k4 : PySem.W.keepIn K (.ref f4) = true)
    (t4 : PySem.W.codeHdIn K c_4 p_4 = true) (n4 : K.lookup p_4 = none)
    (a5 : PySem.W.nsIn K mainGlobals "take_ringless" = some (some (.ref f5)))
    (l5 : K.lookup f5 = some ⟨oc5, od5, .func (PySem.W.fnOf "take_ringless" "take_ringless" (defArgs s_take_ringless) (defBody s_take_ringless) (defScope s_take_ringless) .none kV5 dc5 pm5 an5 cd5 ct5), sl5⟩)
    (c5 : PySem.W.codeIn K cd5 "take_ringless" = true) (k5 : PySem.W.keepIn K (.ref f5) = true)
    (a6 : PySem.W.nsIn K mainGlobals "least_tree" = some (some (.ref f6)))
    (l6 : K.lookup f6 = some ⟨oc6, od6, .func (PySem.W.fnOf "least_tree" "least_tree" (defArgs s_least_tree) (defBody s_least_tree) (defScope s_least_tree) .none kV6 dc6 pm6 an6 cd6 ct6), sl6⟩)
    (c6 : PySem.W.codeIn K cd6 "least_tree" = true) (k6 : PySem.W.keepIn K (.ref f6) = true)
    (a7 : PySem.W.findIn K (.ref k_Net) "__init__" = some (some (.ref f7))) (i7 : PySem.W.isFn K (.ref f7) = true)
    (l7 : K.lookup f7 = some ⟨oc7, od7, .func (PySem.W.fnOf "__init__" "Net.__init__" (defArgs s_Net___init__) (defBody s_Net___init__) (defScope s_Net___init__) .none kV7 dc7 pm7 an7 cd7 ct7), sl7⟩)
    (c7 : PySem.W.codeIn K cd7 "Net.__init__" = true) (k7 : PySem.W.keepIn K (.ref f7) = true)
    (a8 : PySem.W.findIn K (.ref k_Net) "lay" = some (some (.ref f8))) (i8 : PySem.W.isFn K (.ref f8) = true)
    (l8 : K.lookup f8 = some ⟨oc8, od8, .func (PySem.W.fnOf "lay" "Net.lay" (defArgs s_Net_lay) (defBody s_Net_lay) (defScope s_Net_lay) .none kV8 dc8 pm8 an8 cd8 ct8), sl8⟩)
    (c8 : PySem.W.codeIn K cd8 "Net.lay" = true) (k8 : PySem.W.keepIn K (.ref f8) = true)
    (a9 : PySem.W.findIn K (.ref k_Net) "recost" = some (some (.ref f9))) (i9 : PySem.W.isFn K (.ref f9) = true)
    (l9 : K.lookup f9 = some ⟨oc9, od9, .func (PySem.W.fnOf "recost" "Net.recost" (defArgs s_Net_recost) (defBody s_Net_recost) (defScope s_Net_recost) .none kV9 dc9 pm9 an9 cd9 ct9), sl9⟩)
    (c9 : PySem.W.codeIn K cd9 "Net.recost" = true) (k9 : PySem.W.keepIn K (.ref f9) = true)
    (a10 : PySem.W.findIn K (.ref k_Net) "look" = some (some (.ref f10))) (i10 : PySem.W.isFn K (.ref f10) = true)
    (l10 : K.lookup f10 = some ⟨oc10, od10, .func (PySem.W.fnOf "look" "Net.look" (defArgs s_Net_look) (defBody s_Net_look) (defScope s_Net_look) .none kV10 dc10 pm10 an10 cd10 ct10), sl10⟩)
    (c10 : PySem.W.codeIn K cd10 "Net.look" = true) (k10 : PySem.W.keepIn K (.ref f10) = true)
    (a11 : PySem.W.findIn K (.ref k_Net) "cost" = some (some (.ref f11))) (i11 : PySem.W.isFn K (.ref f11) = true)
    (l11 : K.lookup f11 = some ⟨oc11, od11, .func (PySem.W.fnOf "cost" "Net.cost" (defArgs s_Net_cost) (defBody s_Net_cost) (defScope s_Net_cost) .none kV11 dc11 pm11 an11 cd11 ct11), sl11⟩)
    (c11 : PySem.W.codeIn K cd11 "Net.cost" = true) (k11 : PySem.W.keepIn K (.ref f11) = true)
    (a12 : PySem.W.findIn K (.ref k_Net) "renew" = some (some (.ref f12))) (i12 : PySem.W.isFn K (.ref f12) = true)
    (l12 : K.lookup f12 = some ⟨oc12, od12, .func (PySem.W.fnOf "renew" "Net.renew" (defArgs s_Net_renew) (defBody s_Net_renew) (defScope s_Net_renew) .none kV12 dc12 pm12 an12 cd12 ct12), sl12⟩)
    (c12 : PySem.W.codeIn K cd12 "Net.renew" = true) (k12 : PySem.W.keepIn K (.ref f12) = true)
    (a13 : PySem.W.nsIn K mainGlobals "only_in" = some (some (.ref f13)))
    (l13 : K.lookup f13 = some ⟨oc13, od13, .func (PySem.W.fnOf "only_in" "only_in" (defArgs s_only_in) (defBody s_only_in) (defScope s_only_in) .none kV13 dc13 pm13 an13 cd13 ct13), sl13⟩)
    (c13 : PySem.W.codeIn K cd13 "only_in" = true) (k13 : PySem.W.keepIn K (.ref f13) = true)
    (a14 : PySem.W.nsIn K mainGlobals "exchange" = some (some (.ref f14)))
    (l14 : K.lookup f14 = some ⟨oc14, od14, .func (PySem.W.fnOf "exchange" "exchange" (defArgs s_exchange) (defBody s_exchange) (defScope s_exchange) .none kV14 dc14 pm14 an14 cd14 ct14), sl14⟩)
    (c14 : PySem.W.codeIn K cd14 "exchange" = true) (k14 : PySem.W.keepIn K (.ref f14) = true)
    (a15 : PySem.W.nsIn K mainGlobals "answers" = some (some (.ref f15)))
    (l15 : K.lookup f15 = some ⟨oc15, od15, .func (PySem.W.fnOf "answers" "answers" (defArgs s_answers) (defBody s_answers) (defScope s_answers) .none kV15 dc15 pm15 an15 cd15 ct15), sl15⟩)
    (c15 : PySem.W.codeIn K cd15 "answers" = true) (k15 : PySem.W.keepIn K (.ref f15) = true)
    (a16 : PySem.W.nsIn K mainGlobals "answer" = some (some (.ref f16)))
    (l16 : K.lookup f16 = some ⟨oc16, od16, .func (PySem.W.fnOf "answer" "answer" (defArgs s_answer) (defBody s_answer) (defScope s_answer) .none kV16 dc16 pm16 an16 cd16 ct16), sl16⟩)
    (c16 : PySem.W.codeIn K cd16 "answer" = true) (k16 : PySem.W.keepIn K (.ref f16) = true)
    (a17 : PySem.W.nsIn K mainGlobals "do_deed" = some (some (.ref f17)))
    (l17 : K.lookup f17 = some ⟨oc17, od17, .func (PySem.W.fnOf "do_deed" "do_deed" (defArgs s_do_deed) (defBody s_do_deed) (defScope s_do_deed) .none kV17 dc17 pm17 an17 cd17 ct17), sl17⟩)
    (c17 : PySem.W.codeIn K cd17 "do_deed" = true) (k17 : PySem.W.keepIn K (.ref f17) = true)
    (a18 : PySem.W.nsIn K mainGlobals "_law_upto" = some (some (.ref f18)))
    (l18 : K.lookup f18 = some ⟨oc18, od18, .func (PySem.W.fnOf "_law_upto" "_law_upto" (defArgs s__law_upto) (defBody s__law_upto) (defScope s__law_upto) .none kV18 dc18 pm18 an18 cd18 ct18), sl18⟩)
    (c18 : PySem.W.codeIn K cd18 "_law_upto" = true) (k18 : PySem.W.keepIn K (.ref f18) = true)
    (a19 : PySem.W.nsIn K mainGlobals "_law_whole" = some (some (.ref f19)))
    (l19 : K.lookup f19 = some ⟨oc19, od19, .func (PySem.W.fnOf "_law_whole" "_law_whole" (defArgs s__law_whole) (defBody s__law_whole) (defScope s__law_whole) .none kV19 dc19 pm19 an19 cd19 ct19), sl19⟩)
    (c19 : PySem.W.codeIn K cd19 "_law_whole" = true) (k19 : PySem.W.keepIn K (.ref f19) = true)
    (a20 : PySem.W.nsIn K mainGlobals "_law_at" = some (some (.ref f20)))
    (l20 : K.lookup f20 = some ⟨oc20, od20, .func (PySem.W.fnOf "_law_at" "_law_at" (defArgs s__law_at) (defBody s__law_at) (defScope s__law_at) .none kV20 dc20 pm20 an20 cd20 ct20), sl20⟩)
    (c20 : PySem.W.codeIn K cd20 "_law_at" = true) (k20 : PySem.W.keepIn K (.ref f20) = true)
    (a21 : PySem.W.nsIn K mainGlobals "_law_whole_row" = some (some (.ref f21)))
    (l21 : K.lookup f21 = some ⟨oc21, od21, .func (PySem.W.fnOf "_law_whole_row" "_law_whole_row" (defArgs s__law_whole_row) (defBody s__law_whole_row) (defScope s__law_whole_row) .none kV21 dc21 pm21 an21 cd21 ct21), sl21⟩)
    (c21 : PySem.W.codeIn K cd21 "_law_whole_row" = true) (k21 : PySem.W.keepIn K (.ref f21) = true)
    (a22 : PySem.W.nsIn K mainGlobals "_law_least_of" = some (some (.ref f22)))
    (l22 : K.lookup f22 = some ⟨oc22, od22, .func (PySem.W.fnOf "_law_least_of" "_law_least_of" (defArgs s__law_least_of) (defBody s__law_least_of) (defScope s__law_least_of) .none kV22 dc22 pm22 an22 cd22 ct22), sl22⟩)
    (c22 : PySem.W.codeIn K cd22 "_law_least_of" = true) (k22 : PySem.W.keepIn K (.ref f22) = true)
    (a23 : PySem.W.nsIn K mainGlobals "_law_deeds" = some (some (.ref f23)))
    (l23 : K.lookup f23 = some ⟨oc23, od23, .func (PySem.W.fnOf "_law_deeds" "_law_deeds" (defArgs s__law_deeds) (defBody s__law_deeds) (defScope s__law_deeds) .none kV23 dc23 pm23 an23 cd23 ct23), sl23⟩)
    (c23 : PySem.W.codeIn K cd23 "_law_deeds" = true) (k23 : PySem.W.keepIn K (.ref f23) = true)
    (a24 : PySem.W.nsIn K mainGlobals "_law_told_by" = some (some (.ref f24)))
    (l24 : K.lookup f24 = some ⟨oc24, od24, .func (PySem.W.fnOf "_law_told_by" "_law_told_by" (defArgs s__law_told_by) (defBody s__law_told_by) (defScope s__law_told_by) .none kV24 dc24 pm24 an24 cd24 ct24), sl24⟩)
    (c24 : PySem.W.codeIn K cd24 "_law_told_by" = true) (k24 : PySem.W.keepIn K (.ref f24) = true)
    (a25 : PySem.W.nsIn K mainGlobals "_law_due_for" = some (some (.ref f25)))
    (l25 : K.lookup f25 = some ⟨oc25, od25, .func (PySem.W.fnOf "_law_due_for" "_law_due_for" (defArgs s__law_due_for) (defBody s__law_due_for) (defScope s__law_due_for) .none kV25 dc25 pm25 an25 cd25 ct25), sl25⟩)
    (c25 : PySem.W.codeIn K cd25 "_law_due_for" = true) (k25 : PySem.W.keepIn K (.ref f25) = true)
    (a26 : PySem.W.nsIn K mainGlobals "_law_alike" = some (some (.ref f26)))
    (l26 : K.lookup f26 = some ⟨oc26, od26, .func (PySem.W.fnOf "_law_alike" "_law_alike" (defArgs s__law_alike) (defBody s__law_alike) (defScope s__law_alike) .none kV26 dc26 pm26 an26 cd26 ct26), sl26⟩)
    (c26 : PySem.W.codeIn K cd26 "_law_alike" = true) (k26 : PySem.W.keepIn K (.ref f26) = true)
    (a27 : PySem.W.nsIn K mainGlobals "_law_like" = some (some (.ref f27)))
    (l27 : K.lookup f27 = some ⟨oc27, od27, .func (PySem.W.fnOf "_law_like" "_law_like" (defArgs s__law_like) (defBody s__law_like) (defScope s__law_like) .none kV27 dc27 pm27 an27 cd27 ct27), sl27⟩)
    (c27 : PySem.W.codeIn K cd27 "_law_like" = true) (k27 : PySem.W.keepIn K (.ref f27) = true)
    (a28 : PySem.W.nsIn K mainGlobals "_law_hand_is" = some (some (.ref f28)))
    (l28 : K.lookup f28 = some ⟨oc28, od28, .func (PySem.W.fnOf "_law_hand_is" "_law_hand_is" (defArgs s__law_hand_is) (defBody s__law_hand_is) (defScope s__law_hand_is) .none kV28 dc28 pm28 an28 cd28 ct28), sl28⟩)
    (c28 : PySem.W.codeIn K cd28 "_law_hand_is" = true) (k28 : PySem.W.keepIn K (.ref f28) = true)
    (a29 : PySem.W.nsIn K mainGlobals "law" = some (some (.ref f29)))
    (l29 : K.lookup f29 = some ⟨oc29, od29, .func (PySem.W.fnOf "law" "law" (defArgs s_law) (defBody s_law) (defScope s_law) .none kV29 dc29 pm29 an29 cd29 ct29), sl29⟩)
    (c29 : PySem.W.codeIn K cd29 "law" = true) (k29 : PySem.W.keepIn K (.ref f29) = true)
    {k_RopeError : Addr} (g_RopeError : PySem.W.nsIn K mainGlobals "RopeError" = some (some (.ref k_RopeError)))
    {k_NoPlace : Addr} (g_NoPlace : PySem.W.nsIn K mainGlobals "NoPlace" = some (some (.ref k_NoPlace)))
    {k_NoRope : Addr} (g_NoRope : PySem.W.nsIn K mainGlobals "NoRope" = some (some (.ref k_NoRope)))
    (x_NoPlace : PySem.W.excIn K k_NoPlace [.type "ValueError", .type "Exception", .type "BaseException", .type "object"] "ValueError.__new__" = true)
    (x_NoRope : PySem.W.excIn K k_NoRope [.type "ValueError", .type "Exception", .type "BaseException", .type "object"] "ValueError.__new__" = true)
    (y_NoPlace_RopeError : PySem.W.exmOne K (.ref k_NoPlace) (.ref k_RopeError) = some true)
    (y_NoRope_RopeError : PySem.W.exmOne K (.ref k_NoRope) (.ref k_RopeError) = some true)
    (y_NoPlace_NoPlace : PySem.W.exmOne K (.ref k_NoPlace) (.ref k_NoPlace) = some true)
    (y_NoRope_NoPlace : PySem.W.exmOne K (.ref k_NoRope) (.ref k_NoPlace) = some false)
    (y_NoRope_NoRope : PySem.W.exmOne K (.ref k_NoRope) (.ref k_NoRope) = some true)
    (i_NoPlace_NoPlace : PySem.W.kitOne K (.ref k_NoPlace) (.ref k_NoPlace) = some true)
    (i_NoPlace_NoRope : PySem.W.kitOne K (.ref k_NoPlace) (.ref k_NoRope) = some false)
    (i_NoRope_NoPlace : PySem.W.kitOne K (.ref k_NoRope) (.ref k_NoPlace) = some false)
    (i_NoRope_NoRope : PySem.W.kitOne K (.ref k_NoRope) (.ref k_NoRope) = some true)
    (i_NoPlace_ValueError : PySem.W.kitOne K (.ref k_NoPlace) (.type "ValueError") = some true)
    (i_NoRope_ValueError : PySem.W.kitOne K (.ref k_NoRope) (.type "ValueError") = some true)
    (no_ga_NoPlace : PySem.W.findIn K (.ref k_NoPlace) "__getattribute__" = some (some (.builtin "BaseException.__getattribute__")))
    (no_hk_NoPlace : PySem.W.findIn K (.ref k_NoPlace) "__getattr__" = some none)
    (no_cl_NoPlace : PySem.W.findIn K (.ref k_NoPlace) "__class__" = some (some (.builtin "object.__class__")))
    (no_gt_NoPlace : PySem.W.specialIn K (.builtin "object.__class__") "__get__" = some (some (.builtin "getset_descriptor.__get__")))
    (no_tk_NoPlace : PySem.W.takesIn K (.builtin "object.__class__") = some true)
    (no_mo_NoPlace : PySem.W.mroIn K k_NoPlace (.type "object") = some true)
    (no_mb_NoPlace : PySem.W.mroIn K k_NoPlace (.type "BaseException") = some true)
    (no_cd_NoPlace : (PySem.W.clsIn K k_NoPlace).isSome = true)
    (no_ga_NoRope : PySem.W.findIn K (.ref k_NoRope) "__getattribute__" = some (some (.builtin "BaseException.__getattribute__")))
    (no_hk_NoRope : PySem.W.findIn K (.ref k_NoRope) "__getattr__" = some none)
    (no_cl_NoRope : PySem.W.findIn K (.ref k_NoRope) "__class__" = some (some (.builtin "object.__class__")))
    (no_gt_NoRope : PySem.W.specialIn K (.builtin "object.__class__") "__get__" = some (some (.builtin "getset_descriptor.__get__")))
    (no_tk_NoRope : PySem.W.takesIn K (.builtin "object.__class__") = some true)
    (no_mo_NoRope : PySem.W.mroIn K k_NoRope (.type "object") = some true)
    (no_mb_NoRope : PySem.W.mroIn K k_NoRope (.type "BaseException") = some true)
    (no_cd_NoRope : (PySem.W.clsIn K k_NoRope).isSome = true)
    (z_len : PySem.W.nsIn K mainGlobals "len" = some none)
    (z_list : PySem.W.nsIn K mainGlobals "list" = some none)
    (z_range : PySem.W.nsIn K mainGlobals "range" = some none)
    (z_isinstance : PySem.W.nsIn K mainGlobals "isinstance" = some none)
    (z_int : PySem.W.nsIn K mainGlobals "int" = some none)
    (z_bool : PySem.W.nsIn K mainGlobals "bool" = some none)
    (z_tuple : PySem.W.nsIn K mainGlobals "tuple" = some none)
    (z_max : PySem.W.nsIn K mainGlobals "max" = some none)
    (z_sorted : PySem.W.nsIn K mainGlobals "sorted" = some none)
    (z_sum : PySem.W.nsIn K mainGlobals "sum" = some none)
    (z_str : PySem.W.nsIn K mainGlobals "str" = some none)
    (z_ValueError : PySem.W.nsIn K mainGlobals "ValueError" = some none)
    : ∃ fd : FuncData, (∀ (s : Shared) (v : Value), BindsTo s fd ⟨[v], []⟩ [("_law_script", v)]) ∧ (∀ T q, (fun b => if b = p_4 then some q_from_cheapest else none : Addr → Option Str) T = some q → K.lookup T = none ∧ ∃ c, PySem.W.codeHdIn K c T = true) ∧ ∀ base : Heap, K.In base → base.Ns mainGlobals mg → Bm mg base → FnOk l.prog w K mg base CX0 9 fa fd ["_law_script"] (sp_law p_4 K) := by
  have e := hfa.symm.trans (PySem.W.mg_of X G a29)
  cases e
  have F0 := fun_mk (st := s_check_places) l0 c0 k0
  have b0 := F0.binds (ps := ["count", "places"]) fun _ _ _ _ _ _ us hl => match us, hl with | [_, _], _ => rfl
  have F1 := fun_mk (st := s_check_ropes) l1 c1 k1
  have b1 := F1.binds (ps := ["count", "ropes"]) fun _ _ _ _ _ _ us hl => match us, hl with | [_, _], _ => rfl
  have F2 := fun_mk (st := s_is_rope_number) l2 c2 k2
  have b2 := F2.binds (ps := ["ropes", "number"]) fun _ _ _ _ _ _ us hl => match us, hl with | [_, _], _ => rfl
  have F3 := fun_mk (st := s_cost_of) l3 c3 k3
  have b3 := F3.binds (ps := ["ropes", "numbers"]) fun _ _ _ _ _ _ us hl => match us, hl with | [_, _], _ => rfl
  have F4 := fun_mk (st := s_from_cheapest) l4 c4 k4
  have b4 := F4.binds (ps := ["ropes"]) fun _ _ _ _ _ _ us hl => match us, hl with | [_], _ => rfl
  have F5 := fun_mk (st := s_take_ringless) l5 c5 k5
  have b5 := F5.binds (ps := ["count", "ropes", "order"]) fun _ _ _ _ _ _ us hl => match us, hl with | [_, _, _], _ => rfl
  have F6 := fun_mk (st := s_least_tree) l6 c6 k6
  have b6 := F6.binds (ps := ["count", "ropes"]) fun _ _ _ _ _ _ us hl => match us, hl with | [_, _], _ => rfl
  have F7 := fun_mk (st := s_Net___init__) l7 c7 k7
  have b7 := F7.binds (ps := ["self", "count"]) fun _ _ _ _ _ _ us hl => match us, hl with | [_, _], _ => rfl
  have F8 := fun_mk (st := s_Net_lay) l8 c8 k8
  have b8 := F8.binds (ps := ["self", "one", "other", "cost"]) fun _ _ _ _ _ _ us hl => match us, hl with | [_, _, _, _], _ => rfl
  have F9 := fun_mk (st := s_Net_recost) l9 c9 k9
  have b9 := F9.binds (ps := ["self", "number", "cost"]) fun _ _ _ _ _ _ us hl => match us, hl with | [_, _, _], _ => rfl
  have F10 := fun_mk (st := s_Net_look) l10 c10 k10
  have b10 := F10.binds (ps := ["self"]) fun _ _ _ _ _ _ us hl => match us, hl with | [_], _ => rfl
  have F11 := fun_mk (st := s_Net_cost) l11 c11 k11
  have b11 := F11.binds (ps := ["self"]) fun _ _ _ _ _ _ us hl => match us, hl with | [_], _ => rfl
  have F12 := fun_mk (st := s_Net_renew) l12 c12 k12
  have b12 := F12.binds (ps := ["self"]) fun _ _ _ _ _ _ us hl => match us, hl with | [_], _ => rfl
  have F13 := fun_mk (st := s_only_in) l13 c13 k13
  have b13 := F13.binds (ps := ["one", "other"]) fun _ _ _ _ _ _ us hl => match us, hl with | [_, _], _ => rfl
  have F14 := fun_mk (st := s_exchange) l14 c14 k14
  have b14 := F14.binds (ps := ["before", "after"]) fun _ _ _ _ _ _ us hl => match us, hl with | [_, _], _ => rfl
  have F15 := fun_mk (st := s_answers) l15 c15 k15
  have b15 := F15.binds (ps := ["count", "deeds"]) fun _ _ _ _ _ _ us hl => match us, hl with | [_, _], _ => rfl
  have F16 := fun_mk (st := s_answer) l16 c16 k16
  have b16 := F16.binds (ps := ["net", "deed"]) fun _ _ _ _ _ _ us hl => match us, hl with | [_, _], _ => rfl
  have F17 := fun_mk (st := s_do_deed) l17 c17 k17
  have b17 := F17.binds (ps := ["net", "deed"]) fun _ _ _ _ _ _ us hl => match us, hl with | [_, _], _ => rfl
  have F18 := fun_mk (st := s__law_upto) l18 c18 k18
  have b18 := F18.binds (ps := ["_law_script", "_law_small", "_law_great"]) fun _ _ _ _ _ _ us hl => match us, hl with | [_, _, _], _ => rfl
  have F19 := fun_mk (st := s__law_whole) l19 c19 k19
  have b19 := F19.binds (ps := ["_law_found"]) fun _ _ _ _ _ _ us hl => match us, hl with | [_], _ => rfl
  have F20 := fun_mk (st := s__law_at) l20 c20 k20
  have b20 := F20.binds (ps := ["_law_script", "_law_k"]) fun _ _ _ _ _ _ us hl => match us, hl with | [_, _], _ => rfl
  have F21 := fun_mk (st := s__law_whole_row) l21 c21 k21
  have b21 := F21.binds (ps := ["_law_found"]) fun _ _ _ _ _ _ us hl => match us, hl with | [_], _ => rfl
  have F22 := fun_mk (st := s__law_least_of) l22 c22 k22
  have b22 := F22.binds (ps := ["_law_count", "_law_ropes"]) fun _ _ _ _ _ _ us hl => match us, hl with | [_, _], _ => rfl
  have F23 := fun_mk (st := s__law_deeds) l23 c23 k23
  have b23 := F23.binds (ps := ["_law_cells", "_law_count"]) fun _ _ _ _ _ _ us hl => match us, hl with | [_, _], _ => rfl
  have F24 := fun_mk (st := s__law_told_by) l24 c24 k24
  have b24 := F24.binds (ps := ["_law_net", "_law_deed"]) fun _ _ _ _ _ _ us hl => match us, hl with | [_, _], _ => rfl
  have F25 := fun_mk (st := s__law_due_for) l25 c25 k25
  have b25 := F25.binds (ps := ["_law_count", "_law_ropes", "_law_deed"]) fun _ _ _ _ _ _ us hl => match us, hl with | [_, _, _], _ => rfl
  have F26 := fun_mk (st := s__law_alike) l26 c26 k26
  have b26 := F26.binds (ps := ["_law_found", "_law_due"]) fun _ _ _ _ _ _ us hl => match us, hl with | [_, _], _ => rfl
  have F27 := fun_mk (st := s__law_like) l27 c27 k27
  have b27 := F27.binds (ps := ["_law_found", "_law_due"]) fun _ _ _ _ _ _ us hl => match us, hl with | [_, _], _ => rfl
  have F28 := fun_mk (st := s__law_hand_is) l28 c28 k28
  have b28 := F28.binds (ps := ["_law_told", "_law_due"]) fun _ _ _ _ _ _ us hl => match us, hl with | [_, _], _ => rfl
  have F29 := fun_mk (st := s_law) l29 c29 k29
  have b29 := F29.binds (ps := ["_law_script"]) fun _ _ _ _ _ _ us hl => match us, hl with | [_], _ => rfl
  have T : Txt K mg ⟨f0, _, f1, _, f2, _, f3, _, f4, _, c_4, p_4, f5, _, f6, _, f7, _, f8, _, f9, _, f10, _, f11, _, f12, _, f13, _, f14, _, f15, _, f16, _, f17, _, f18, _, f19, _, f20, _, f21, _, f22, _, f23, _, f24, _, f25, _, f26, _, f27, _, f28, _, fa, _, k_Net, k_RopeError, k_NoPlace, k_NoRope⟩ := ⟨F0, PySem.W.mg_of X G a0, k0, b0, F1, PySem.W.mg_of X G a1, k1, b1, F2, PySem.W.mg_of X G a2, k2, b2, F3, PySem.W.mg_of X G a3, k3, b3, F4, PySem.W.mg_of X G a4, k4, b4, rfl, t4, F5, PySem.W.mg_of X G a5, k5, b5, F6, PySem.W.mg_of X G a6, k6, b6, F7, ⟨mk_Net, a7, i7, kc_Net⟩, b7, F8, ⟨a8, i8, k8⟩, b8, F9, ⟨a9, i9, k9⟩, b9, F10, ⟨a10, i10, k10⟩, b10, F11, ⟨a11, i11, k11⟩, b11, F12, ⟨a12, i12, k12⟩, b12, F13, PySem.W.mg_of X G a13, k13, b13, F14, PySem.W.mg_of X G a14, k14, b14, F15, PySem.W.mg_of X G a15, k15, b15, F16, PySem.W.mg_of X G a16, k16, b16, F17, PySem.W.mg_of X G a17, k17, b17, F18, PySem.W.mg_of X G a18, k18, b18, F19, PySem.W.mg_of X G a19, k19, b19, F20, PySem.W.mg_of X G a20, k20, b20, F21, PySem.W.mg_of X G a21, k21, b21, F22, PySem.W.mg_of X G a22, k22, b22, F23, PySem.W.mg_of X G a23, k23, b23, F24, PySem.W.mg_of X G a24, k24, b24, F25, PySem.W.mg_of X G a25, k25, b25, F26, PySem.W.mg_of X G a26, k26, b26, F27, PySem.W.mg_of X G a27, k27, b27, F28, PySem.W.mg_of X G a28, k28, b28, F29, PySem.W.mg_of X G a29, k29, b29, PySem.W.mg_of X G g_Net, ⟨pg_Net, hd_Net, po_Net, sa_Net⟩, nf_place_count, nf_ropes, nf_tree, PySem.W.mg_of X G g_RopeError, PySem.W.mg_of X G g_NoPlace, PySem.W.mg_of X G g_NoRope, ⟨_, _, _, _, PySem.F.excBase_ValueError, x_NoPlace⟩, ⟨_, _, _, _, PySem.F.excBase_ValueError, x_NoRope⟩, y_NoPlace_RopeError, y_NoRope_RopeError, y_NoPlace_NoPlace, y_NoRope_NoPlace, y_NoRope_NoRope, i_NoPlace_NoPlace, i_NoPlace_NoRope, i_NoRope_NoPlace, i_NoRope_NoRope, i_NoPlace_ValueError, i_NoRope_ValueError, ⟨no_ga_NoPlace, no_hk_NoPlace, no_cl_NoPlace, no_gt_NoPlace, no_tk_NoPlace, no_mo_NoPlace, no_mb_NoPlace, no_cd_NoPlace⟩, ⟨no_ga_NoRope, no_hk_NoRope, no_cl_NoRope, no_gt_NoRope, no_tk_NoRope, no_mo_NoRope, no_mb_NoRope, no_cd_NoRope⟩, PySem.W.mg_none_of X G z_len, PySem.W.mg_none_of X G z_list, PySem.W.mg_none_of X G z_range, PySem.W.mg_none_of X G z_isinstance, PySem.W.mg_none_of X G z_int, PySem.W.mg_none_of X G z_bool, PySem.W.mg_none_of X G z_tuple, PySem.W.mg_none_of X G z_max, PySem.W.mg_none_of X G z_sorted, PySem.W.mg_none_of X G z_sum, PySem.W.mg_none_of X G z_str, PySem.W.mg_none_of X G z_ValueError⟩
  refine ⟨PySem.W.fnOf "law" "law" (defArgs s_law) (defBody s_law) (defScope s_law) .none kV29 dc29 pm29 an29 cd29 ct29, fun s v => .of_eq rfl, fun T' q e => ?_, fun base _ _ B => ok_law T B⟩
  dsimp only at e
  by_cases h4 : T' = p_4
  · subst h4; exact ⟨n4, _, t4⟩
  rw [if_neg h4] at e
  cases e
theorem walk {l : PySem.W.OpenLaw} {q : Program} {loose : List Str} {XP : (Str → Option Value) → Heap → Prop} {YP : World → Heap → Prop} {d : DefRec} {K : Params → PySem.W.Frag} (p_4 : Addr) (hn : l.most = some 63) (hdf : d.params.defaults = [])
    (hY : ∀ (w : World) (h : Heap), YP w h → (K w.params).In h) (hT4 : ∀ (w : World) (h : Heap), YP w h → h.get? p_4 = some (PySem.W.tabObj #[]))
    (F : ∀ (w : World) (mg : Str → Option Value) (fa : Addr) (h : Heap), (K w.params).In h → h.Ns mainGlobals mg → mg d.name = some (.ref fa) →
      ∃ fd : FuncData, (∀ (s : Shared) (u : Value), BindsTo s fd ⟨[u], []⟩ [("_law_script", u)]) ∧ (∀ T q, (fun b => if b = p_4 then some q_from_cheapest else none : Addr → Option Str) T = some q → (K w.params).lookup T = none ∧ ∃ c, PySem.W.codeHdIn (K w.params) c T = true) ∧
        ∀ base : Heap, (K w.params).In base → base.Ns mainGlobals mg → Bm mg base → FnOk l.prog w (K w.params) mg base CX0 9 fa fd ["_law_script"] (sp_law p_4 (K w.params))) :
    PySem.W.WalkO q loose XP YP l.row.toRowW d [] (fun f vs => PySem.call f vs) := by
  have tbs : ∀ {P : Addr → Str → Prop}, P p_4 q_from_cheapest → ∀ T q, (fun b => if b = p_4 then some q_from_cheapest else none : Addr → Option Str) T = some q → P T q := by
    intro P g4 T' q e
    dsimp only at e
    by_cases h4 : T' = p_4
    · rw [if_pos h4] at e; cases e; rw [h4]; exact g4
    rw [if_neg h4] at e
    cases e
  refine L2.walk_ofT (n := 63) (k := 9) (x := "_law_script") (sp := fun w => sp_law p_4 (K w.params)) (fun b => if b = p_4 then some q_from_cheapest else none : Addr → Option Str) hn (by decide) hdf ⟨rfl, by decide, by decide⟩ hY (fun w h Y => tbs (hT4 w h Y)) F fun w H a ns hl hO hS => ⟨a, ns, rfl, hS, hl, hO _ _ (by simp), fun H' sm => ⟨rfl, fun T q e => sm _ _ (hO T q e)⟩⟩
end My
open PySem PySem.W PyProof.Rows
set_option maxRecDepth 100000 in
set_option maxHeartbeats 0 in
theorem PySem.Challenge.cw_ropetree_k10_whole_a_day_holds : PySem.Challenge.rw_ropetree_k10_whole_a_day.Holds := by
  w_on; o_law; k_head; (case hw => w_witness2)
  k_fill
  refine My.walk (l := PySem.Challenge.rw_ropetree_k10_whole_a_day) 77 rfl rfl (fun w h Y => PySem.W.km_in_of Y) (fun w h Y => PySem.W.km_tabs_of Y _ (by simp))  ?F
  case F =>
    intro w mg fa h KX G hmg
    refine' My.all_mk KX G hmg 77 ?g_Net ?pg_Net ?hd_Net ?po_Net ?sa_Net ?mk_Net ?kc_Net ?nf_place_count ?nf_ropes ?nf_tree ?a0 ?l0 ?c0 ?k0 ?a1 ?l1 ?c1 ?k1 ?a2 ?l2 ?c2 ?k2 ?a3 ?l3 ?c3 ?k3 ?a4 ?l4 ?c4 ?k4 ?t4 ?n4 ?a5 ?l5 ?c5 ?k5 ?a6 ?l6 ?c6 ?k6 ?a7 ?i7 ?l7 ?c7 ?k7 ?a8 ?i8 ?l8 ?c8 ?k8 ?a9 ?i9 ?l9 ?c9 ?k9 ?a10 ?i10 ?l10 ?c10 ?k10 ?a11 ?i11 ?l11 ?c11 ?k11 ?a12 ?i12 ?l12 ?c12 ?k12 ?a13 ?l13 ?c13 ?k13 ?a14 ?l14 ?c14 ?k14 ?a15 ?l15 ?c15 ?k15 ?a16 ?l16 ?c16 ?k16 ?a17 ?l17 ?c17 ?k17 ?a18 ?l18 ?c18 ?k18 ?a19 ?l19 ?c19 ?k19 ?a20 ?l20 ?c20 ?k20 ?a21 ?l21 ?c21 ?k21 ?a22 ?l22 ?c22 ?k22 ?a23 ?l23 ?c23 ?k23 ?a24 ?l24 ?c24 ?k24 ?a25 ?l25 ?c25 ?k25 ?a26 ?l26 ?c26 ?k26 ?a27 ?l27 ?c27 ?k27 ?a28 ?l28 ?c28 ?k28 ?a29 ?l29 ?c29 ?k29 ?g_RopeError ?g_NoPlace ?g_NoRope ?x_NoPlace ?x_NoRope ?y_NoPlace_RopeError ?y_NoRope_RopeError ?y_NoPlace_NoPlace ?y_NoRope_NoPlace ?y_NoRope_NoRope ?i_NoPlace_NoPlace ?i_NoPlace_NoRope ?i_NoRope_NoPlace ?i_NoRope_NoRope ?i_NoPlace_ValueError ?i_NoRope_ValueError ?no_ga_NoPlace ?no_hk_NoPlace ?no_cl_NoPlace ?no_gt_NoPlace ?no_tk_NoPlace ?no_mo_NoPlace ?no_mb_NoPlace ?no_cd_NoPlace ?no_ga_NoRope ?no_hk_NoRope ?no_cl_NoRope ?no_gt_NoRope ?no_tk_NoRope ?no_mo_NoRope ?no_mb_NoRope ?no_cd_NoRope ?z_len ?z_list ?z_range ?z_isinstance ?z_int ?z_bool ?z_tuple ?z_max ?z_sorted ?z_sum ?z_str ?z_ValueError
    (case g_Net => k_is)
    (case pg_Net => k_is)
    (case hd_Net => k_is)
    (case po_Net => k_is)
    (case sa_Net => k_is)
    (case mk_Net => k_is)
    (case kc_Net => k_is)
    (case nf_place_count => first | k_is | k_exc | kit_is | kernel_rfl)
    (case nf_ropes => first | k_is | k_exc | kit_is | kernel_rfl)
    (case nf_tree => first | k_is | k_exc | kit_is | kernel_rfl)
    (case a0 => k_is)
    (case l0 => k_is)
    (case c0 => k_is)
    (case k0 => k_is)
    (case a1 => k_is)
    (case l1 => k_is)
    (case c1 => k_is)
    (case k1 => k_is)
    (case a2 => k_is)
    (case l2 => k_is)
    (case c2 => k_is)
    (case k2 => k_is)
    (case a3 => k_is)
    (case l3 => k_is)
    (case c3 => k_is)
    (case k3 => k_is)
    (case a4 => k_is)
    (case l4 => k_is)
    (case c4 => k_is)
    (case k4 => k_is)
    (case t4 => first | k_is | k_exc | kit_is | kernel_rfl)
    (case n4 => first | k_is | k_exc | kit_is | kernel_rfl)
    (case a5 => k_is)
    (case l5 => k_is)
    (case c5 => k_is)
    (case k5 => k_is)
    (case a6 => k_is)
    (case l6 => k_is)
    (case c6 => k_is)
    (case k6 => k_is)
    (case a7 => k_is)
    (case i7 => first | k_is | k_exc | kit_is | kernel_rfl)
    (case l7 => k_is)
    (case c7 => k_is)
    (case k7 => k_is)
    (case a8 => k_is)
    (case i8 => first | k_is | k_exc | kit_is | kernel_rfl)
    (case l8 => k_is)
    (case c8 => k_is)
    (case k8 => k_is)
    (case a9 => k_is)
    (case i9 => first | k_is | k_exc | kit_is | kernel_rfl)
    (case l9 => k_is)
    (case c9 => k_is)
    (case k9 => k_is)
    (case a10 => k_is)
    (case i10 => first | k_is | k_exc | kit_is | kernel_rfl)
    (case l10 => k_is)
    (case c10 => k_is)
    (case k10 => k_is)
    (case a11 => k_is)
    (case i11 => first | k_is | k_exc | kit_is | kernel_rfl)
    (case l11 => k_is)
    (case c11 => k_is)
    (case k11 => k_is)
    (case a12 => k_is)
    (case i12 => first | k_is | k_exc | kit_is | kernel_rfl)
    (case l12 => k_is)
    (case c12 => k_is)
    (case k12 => k_is)
    (case a13 => k_is)
    (case l13 => k_is)
    (case c13 => k_is)
    (case k13 => k_is)
    (case a14 => k_is)
    (case l14 => k_is)
    (case c14 => k_is)
    (case k14 => k_is)
    (case a15 => k_is)
    (case l15 => k_is)
    (case c15 => k_is)
    (case k15 => k_is)
    (case a16 => k_is)
    (case l16 => k_is)
    (case c16 => k_is)
    (case k16 => k_is)
    (case a17 => k_is)
    (case l17 => k_is)
    (case c17 => k_is)
    (case k17 => k_is)
    (case a18 => k_is)
    (case l18 => k_is)
    (case c18 => k_is)
    (case k18 => k_is)
    (case a19 => k_is)
    (case l19 => k_is)
    (case c19 => k_is)
    (case k19 => k_is)
    (case a20 => k_is)
    (case l20 => k_is)
    (case c20 => k_is)
    (case k20 => k_is)
    (case a21 => k_is)
    (case l21 => k_is)
    (case c21 => k_is)
    (case k21 => k_is)
    (case a22 => k_is)
    (case l22 => k_is)
    (case c22 => k_is)
    (case k22 => k_is)
    (case a23 => k_is)
    (case l23 => k_is)
    (case c23 => k_is)
    (case k23 => k_is)
    (case a24 => k_is)
    (case l24 => k_is)
    (case c24 => k_is)
    (case k24 => k_is)
    (case a25 => k_is)
    (case l25 => k_is)
    (case c25 => k_is)
    (case k25 => k_is)
    (case a26 => k_is)
    (case l26 => k_is)
    (case c26 => k_is)
    (case k26 => k_is)
    (case a27 => k_is)
    (case l27 => k_is)
    (case c27 => k_is)
    (case k27 => k_is)
    (case a28 => k_is)
    (case l28 => k_is)
    (case c28 => k_is)
    (case k28 => k_is)
    (case a29 => k_is)
    (case l29 => k_is)
    (case c29 => k_is)
    (case k29 => k_is)
    (case g_RopeError => k_is)
    (case g_NoPlace => k_is)
    (case g_NoRope => k_is)
    (case x_NoPlace => first | k_is | k_exc | kit_is | kernel_rfl)
    (case x_NoRope => first | k_is | k_exc | kit_is | kernel_rfl)
    (case y_NoPlace_RopeError => first | k_is | k_exc | kit_is | kernel_rfl)
    (case y_NoRope_RopeError => first | k_is | k_exc | kit_is | kernel_rfl)
    (case y_NoPlace_NoPlace => first | k_is | k_exc | kit_is | kernel_rfl)
    (case y_NoRope_NoPlace => first | k_is | k_exc | kit_is | kernel_rfl)
    (case y_NoRope_NoRope => first | k_is | k_exc | kit_is | kernel_rfl)
    (case i_NoPlace_NoPlace => first | k_is | k_exc | kit_is | kernel_rfl)
    (case i_NoPlace_NoRope => first | k_is | k_exc | kit_is | kernel_rfl)
    (case i_NoRope_NoPlace => first | k_is | k_exc | kit_is | kernel_rfl)
    (case i_NoRope_NoRope => first | k_is | k_exc | kit_is | kernel_rfl)
    (case i_NoPlace_ValueError => first | k_is | k_exc | kit_is | kernel_rfl)
    (case i_NoRope_ValueError => first | k_is | k_exc | kit_is | kernel_rfl)
    (case no_ga_NoPlace => first | k_is | k_exc | kit_is | kernel_rfl)
    (case no_hk_NoPlace => first | k_is | k_exc | kit_is | kernel_rfl)
    (case no_cl_NoPlace => first | k_is | k_exc | kit_is | kernel_rfl)
    (case no_gt_NoPlace => first | k_is | k_exc | kit_is | kernel_rfl)
    (case no_tk_NoPlace => first | k_is | k_exc | kit_is | kernel_rfl)
    (case no_mo_NoPlace => first | k_is | k_exc | kit_is | kernel_rfl)
    (case no_mb_NoPlace => first | k_is | k_exc | kit_is | kernel_rfl)
    (case no_cd_NoPlace => first | k_is | k_exc | kit_is | kernel_rfl)
    (case no_ga_NoRope => first | k_is | k_exc | kit_is | kernel_rfl)
    (case no_hk_NoRope => first | k_is | k_exc | kit_is | kernel_rfl)
    (case no_cl_NoRope => first | k_is | k_exc | kit_is | kernel_rfl)
    (case no_gt_NoRope => first | k_is | k_exc | kit_is | kernel_rfl)
    (case no_tk_NoRope => first | k_is | k_exc | kit_is | kernel_rfl)
    (case no_mo_NoRope => first | k_is | k_exc | kit_is | kernel_rfl)
    (case no_mb_NoRope => first | k_is | k_exc | kit_is | kernel_rfl)
    (case no_cd_NoRope => first | k_is | k_exc | kit_is | kernel_rfl)
    (case z_len => k_is)
    (case z_list => k_is)
    (case z_range => k_is)
    (case z_isinstance => k_is)
    (case z_int => k_is)
    (case z_bool => k_is)
    (case z_tuple => k_is)
    (case z_max => k_is)
    (case z_sorted => k_is)
    (case z_sum => k_is)
    (case z_str => k_is)
    (case z_ValueError => k_is)
