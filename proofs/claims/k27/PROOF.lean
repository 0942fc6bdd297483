import PyProof.Rows.All
import Wide.All
import OpenK.AllK
import Wide.FinOn
import Lean
import PyProof.EqAt
import PyProof.EqKinds
import PyProof.TupleCall
import PyProof.NeKinds
import PyProof.IsInstanceH
import PyProof.SumWalkG
import PyProof.ConsumeWalk
import PyProof.IsiNone
import PyProof.WalksMore
import PyProof.PlainList
import PyProof.CompFree
import PySem.Challenge.RW_sluiceway_k27_whole_more_water
set_option Elab.async false
set_option linter.all false
set_option maxRecDepth 100000
/-! THE HAND LAYER, for ints, bools, texts, own classes, LISTS and tuples (index, slices, in, append, pop ..), calls, loops. Paste it whole ahead of your own text; what your proof does not reach may be deleted. -/
namespace L2
open PySem PySem.Spec PyProof.Rows
/-- a key: an int or a str -/
abbrev Key := Sum Int Str
def keyIs : Key → Value → Bool
  | .inl k, v => Value.isInt k v
  | .inr x, v => Value.isStrOf x v
def keyH (w : World) : Key → Int
  | .inl k => hashInt k
  | .inr x => hashStr w x
theorem keyIs_shape : ∀ {k : Key} {v : Value}, keyIs k v = true → (∃ i t, k = Sum.inl i ∧ v = Value.int i t) ∨ (∃ x t, k = Sum.inr x ∧ v = Value.str x t)
  | .inl i, v, h => by
    obtain ⟨t, e⟩ := Value.isInt_shape (k := i) (v := v) h
    exact .inl ⟨i, t, rfl, e⟩
  | .inr x, v, h => by
    obtain ⟨t, e⟩ := Value.isStrOf_shape (x := x) (v := v) h
    exact .inr ⟨x, t, rfl, e⟩
theorem key_ll (a b : Int) : decide ((Sum.inl a : Key) = Sum.inl b) = (a == b) := by
  by_cases e : a = b
  · subst e; simp
  · have h : ¬ (Sum.inl a : Key) = Sum.inl b := fun q => e (Sum.inl.inj q)
    rw [decide_eq_false h]
    exact (beq_eq_false_iff_ne.mpr e).symm
theorem key_rr (a b : Str) : decide ((Sum.inr a : Key) = Sum.inr b) = decide (a = b) := by
  by_cases e : a = b
  · subst e; simp
  · have h : ¬ (Sum.inr a : Key) = Sum.inr b := fun q => e (Sum.inr.inj q)
    rw [decide_eq_false h, decide_eq_false e]
theorem key_lr (a : Int) (b : Str) : decide ((Sum.inl a : Key) = Sum.inr b) = false := decide_eq_false (fun q => nomatch q)
theorem key_rl (a : Str) (b : Int) : decide ((Sum.inr a : Key) = Sum.inl b) = false := decide_eq_false (fun q => nomatch q)
def mixKind (prog : Program) (w : World) : PySem.KeyKind prog w Key where
  is := keyIs
  hash := keyH w
  inj := fun v a b ha hb => by
    rcases keyIs_shape ha with ⟨i, t, rfl, rfl⟩ | ⟨x, t, rfl, rfl⟩
    · rcases keyIs_shape hb with ⟨j, u, rfl, e⟩ | ⟨y, u, rfl, e⟩
      · injection e with e1 _; rw [e1]
      · exact nomatch e
    · rcases keyIs_shape hb with ⟨j, u, rfl, e⟩ | ⟨y, u, rfl, e⟩
      · exact nomatch e
      · injection e with e1 _; rw [e1]
  byValue := fun k v h => by
    rcases keyIs_shape h with ⟨i, t, rfl, rfl⟩ | ⟨x, t, rfl, rfl⟩ <;> rfl
  pyHash := fun hv h => by
    rcases keyIs_shape hv with ⟨i, t, rfl, rfl⟩ | ⟨x, t, rfl, rfl⟩
    · exact wpAny_pyHash_int h
    · exact wpAny_pyHash_str h
  eqBool := fun hu hv h => by
    rcases keyIs_shape hu with ⟨i, t, rfl, rfl⟩ | ⟨x, t, rfl, rfl⟩
    · rcases keyIs_shape hv with ⟨j, u, rfl, rfl⟩ | ⟨y, u, rfl, rfl⟩
      · rw [key_ll] at h; exact wpAny_eqBool_int h
      · rw [key_lr] at h; exact SeqAt.EqAt.int_str i t y u _ _ _ _ h
    · rcases keyIs_shape hv with ⟨j, u, rfl, rfl⟩ | ⟨y, u, rfl, rfl⟩
      · rw [key_rl] at h; exact SeqAt.EqAt.str_int x t j u _ _ _ _ h
      · rw [key_rr] at h; exact wpAny_eqBool_str h
  «strs» := fun k x t v h => by
    rcases keyIs_shape h with ⟨i, u, rfl, e⟩ | ⟨y, u, rfl, e⟩
    · exact nomatch e
    · injection e with e1 _
      subst e1
      cases v <;> rfl
end L2
namespace L2
open PySem PySem.Spec PyProof.Rows
/-- a value, without the heap -/
inductive V where
  | non | bl (b : Bool) | int (i : Int) | str (x : Str) | byt (b : Array UInt8) | flt (b : UInt64) | ref (a : Addr) | ty (n : String)
  deriving DecidableEq
def RelV : V → Value → Prop
  | .non, u => u = Value.none
  | .bl b, u => u = Value.bool b
  | .int i, u => ∃ t, u = Value.int i t
  | .str x, u => ∃ t, u = Value.str x t
  | .byt b, u => ∃ t, u = Value.bytes b t
  | .flt b, u => ∃ t, u = Value.float b t
  | .ref a, u => u = Value.ref a
  | .ty n, u => u = Value.type n
abbrev Vals : List V → List Value → Prop := Paired RelV
theorem Vals.length {xs : List V} {us : List Value} (r : Vals xs us) : xs.length = us.length := Paired.length r
theorem Vals.get : ∀ {xs : List V} {us : List Value} {i : Nat} {x : V}, Vals xs us → xs[i]? = some x → ∃ u, us[i]? = some u ∧ RelV x u
  | _, _, _, _, .nil, e => by simp at e
  | _, _, 0, _, .cons r _, e => by simp at e; subst e; exact ⟨_, rfl, r⟩
  | _, _, i + 1, x, .cons _ t, e => by
    obtain ⟨u, h1, h2⟩ := Vals.get (i := i) (x := x) t (by simpa using e)
    exact ⟨u, by simpa using h1, h2⟩
theorem Vals.set {x : V} {u : Value} (r : RelV x u) : ∀ {xs : List V} {us : List Value} (i : Nat), Vals xs us → Vals (xs.set i x) (us.set i u)
  | _, _, _, .nil => .nil
  | _, _, 0, .cons _ t => .cons r t
  | _, _, i + 1, .cons q t => .cons q (Vals.set r i t)
theorem Vals.append : ∀ {xs ys : List V} {us ws : List Value}, Vals xs us → Vals ys ws → Vals (xs ++ ys) (us ++ ws)
  | _, _, _, _, .nil, s => s
  | _, _, _, _, .cons r t, s => .cons r (Vals.append t s)
theorem Vals.take : ∀ {xs : List V} {us : List Value} (n : Nat), Vals xs us → Vals (xs.take n) (us.take n)
  | _, _, 0, _ => .nil
  | _, _, _ + 1, .nil => .nil
  | _, _, n + 1, .cons r t => .cons r (Vals.take n t)
theorem Vals.drop : ∀ {xs : List V} {us : List Value} (n : Nat), Vals xs us → Vals (xs.drop n) (us.drop n)
  | _, _, 0, r => r
  | _, _, _ + 1, .nil => .nil
  | _, _, n + 1, .cons _ t => Vals.drop n t
def RelO : Option V → Option Value → Prop
  | some v, some u => RelV v u
  | none, none => True
  | _, _ => False
def KV {κ : Type} : List (κ × V) → List (κ × Value) → Prop := Paired fun (p : κ × V) (q : κ × Value) => p.1 = q.1 ∧ RelV p.2 q.2
/-- a key of a dict (00_mix): an int or a text -/
def kV : Key → V
  | .inl i => .int i
  | .inr x => .str x
/-- what stands at a tracked address -/
inductive HO where
  /-- a list -/
  | lst (xs : List V)
  /-- a tuple (never changes) -/
  | tup (xs : List V)
  /-- a dict whose keys are ints and texts; one whose keys are tuples of ints and texts (the empty one is both) -/
  | dK (kvs : List (Key × V)) | dT (kvs : List (List Key × V))
  /-- a set of ints: its members, its size -/
  | set (S : Int → Bool) (n : Nat)
  /-- an instance of the class at C, its dict at dx, its attributes -/
  | ins (C dx : Addr) (fs : List (Str × V))
  /-- the dict of the instance at x -/
  | own (x : Addr)
  /-- the dict of an exception -/
  | xd (fs : List (Str × V))
  /-- a bound method, f of x -/
  | met (f x : Addr)
  /-- a range object lo, lo + 1, .. below hi -/
  | rng (lo hi : Int)
  /-- a thing that is known to the object (the script; a dict while a loop walks it): read, never written while it is so -/
  | frz (o : Obj) (u : HO)
  /-- a code object's table -/
  | tbl (ps : Array Value)
  /-- any other thing, by what is true of its one object (a def of one's own: SetO a S n := HO.ext fun h => ..) -/
  | ext (φ : Heap → Prop)
abbrev Hp := Addr → Option HO
def upd (H : Hp) (a : Addr) (o : HO) : Hp := fun b => if b = a then some o else H b
theorem upd_same {H : Hp} {a : Addr} {o : HO} : upd H a o a = some o := by unfold upd; rw [if_pos rfl]
theorem upd_ne {H : Hp} {a b : Addr} {o : HO} (h : b ≠ a) : upd H a o b = H b := by unfold upd; rw [if_neg h]
theorem ne_of_none {H : Hp} {a b : Addr} {o : HO} (h : H a = some o) (h' : H b = none) : a ≠ b := by
  intro e; subst e; rw [h] at h'; cases h'
section
variable (P : Program) (w : World)
def ObjOk (H : Hp) (h : Heap) (a : Addr) : HO → Prop
  | .lst xs => xs.length ≤ sizeLine ∧ ∃ (its : List Value) (n : Nat), Vals xs its ∧ h.get? a = some { cls := .type "list", data := .seq its.toArray n }
  | .tup xs => xs.length ≤ sizeLine ∧ ∃ its : List Value, Vals xs its ∧ IsTup h a its.toArray
  | .dK kvs => kvs.length ≤ sizeLine ∧ (a == sysModules) = false ∧ ∃ vs, KV kvs vs ∧ h.DictOf (mixKind P w) a vs
  | .dT kvs => kvs.length ≤ sizeLine ∧ (a == sysModules) = false ∧ ∃ xs : List (List Key × Addr × Value),
      Paired (fun (p : List Key × V) (q : List Key × Addr × Value) => p.1 = q.1 ∧ H q.2.1 = some (.tup (p.1.map kV)) ∧ RelV p.2 q.2.2) kvs xs ∧
      ∃ o es ep, h.get? a = some o ∧ o.ExactDict ∧ o.data = .dict es ep ∧ es.toList = xs.map (entryOfKey (tupleKind (mixKind P w))) ∧ (xs.map (·.1)).Nodup
  | .set S n => h.SetOf (intKind P w) a S n
  | .ins C dx fs => H dx = some (.own a) ∧ fs.length ≤ 1000 ∧ dx ≠ a ∧ h.get? a = some (PySem.W.instObj C dx) ∧
      ∃ mA, h.Ns1 dx mA ∧ (∀ f, RelO (fs.lookup f) (mA f)) ∧ PySem.Within mA (fs.map (·.1))
  | .own _ => ∃ o, h.get? a = some o
  | .xd fs => ∃ mA, h.Ns1 a mA ∧ ∀ f, RelO (fs.lookup f) (mA f)
  | .rng lo hi => ∃ t u v, h.get? a = some { cls := .type "range", data := .fields #[.int lo t, .int hi u, .int 1 v] }
  | .frz o u => h.get? a = some o ∧ ObjOk H h a u
  | .tbl ps => h.get? a = some { cls := .none, data := .fields ps }
  | .met f x => h.get? a = some (PySem.W.methodObj (.ref f) (.ref x))
  | .ext φ => φ h ∧ (∃ o, h.get? a = some o) ∧ ∀ h1 h2 : Heap, φ h1 → (∀ o, h1.get? a = some o → h2.get? a = some o) → φ h2
/-- the abstract heap is held -/
def HOk (H : Hp) (h : Heap) : Prop := ∀ a o, H a = some o → ObjOk P w H h a o
end
section
variable {P : Program} {w : World} {H H' : Hp} {h h' : Heap} {a : Addr} {o : HO}
theorem ObjOk.lt (x : ObjOk P w H h a o) : a < h.objs.size := by
  cases o with
  | lst xs => obtain ⟨_, _, _, _, e⟩ := x; exact Heap.lt_size e
  | tup xs => obtain ⟨_, _, _, p⟩ := x; exact p.lt
  | dK kvs => obtain ⟨_, _, _, _, o, _, _, e, _⟩ := x; exact Heap.lt_size e
  | dT kvs => obtain ⟨_, _, _, _, o, _, _, e, _⟩ := x; exact Heap.lt_size e
  | set S n => obtain ⟨o, _, _, _, e, _⟩ := x; exact Heap.lt_size e
  | ins C dx fs => obtain ⟨_, _, _, e, _⟩ := x; exact Heap.lt_size e
  | own y => obtain ⟨_, e⟩ := x; exact Heap.lt_size e
  | xd fs => obtain ⟨_, ⟨_, _, _, e, _⟩, _⟩ := x; exact Heap.lt_size e
  | rng lo hi => obtain ⟨_, _, _, e⟩ := x; exact Heap.lt_size e
  | frz ob u => obtain ⟨e, _⟩ := x; exact Heap.lt_size e
  | tbl ps => exact Heap.lt_size (show h.get? a = some _ from x)
  | met f y => exact Heap.lt_size (show h.get? a = some _ from x)
  | ext φ => obtain ⟨_, ⟨_, e⟩, _⟩ := x; exact Heap.lt_size e
theorem Paired.mapP {α β : Type} {F G : α → β → Prop} : ∀ {l₁ : List α} {l₂ : List β}, Paired F l₁ l₂ → (∀ a b, F a b → G a b) → Paired G l₁ l₂
  | _, _, .nil, _ => .nil
  | _, _, .cons r t, f => .cons (f _ _ r) (Paired.mapP t f)
/-- what an object's description leans on: its own object, its own dict, the tuples -/
theorem ObjOk.stay (x : ObjOk P w H h a o) (k : ∀ b u, (b = a ∨ H b = some (.own a)) → h.get? b = some u → h'.get? b = some u)
    (ho : ∀ b, H b = some (.own a) → H' b = some (.own a)) (ht : ∀ b xs, H b = some (.tup xs) → H' b = some (.tup xs)) : ObjOk P w H' h' a o := by
  induction o with
  | lst xs => obtain ⟨z, its, n, r, e⟩ := x; exact ⟨z, its, n, r, k _ _ (.inl rfl) e⟩
  | tup xs => obtain ⟨z, its, r, ob, e, c⟩ := x; exact ⟨z, its, r, ob, k _ _ (.inl rfl) e, c⟩
  | dK kvs => obtain ⟨z, y, vs, r, ob, es, ep, e, c⟩ := x; exact ⟨z, y, vs, r, ob, es, ep, k _ _ (.inl rfl) e, c⟩
  | dT kvs =>
    obtain ⟨z, y, xs, r, ob, es, ep, e, c⟩ := x
    exact ⟨z, y, xs, Paired.mapP r fun p q z => ⟨z.1, ht _ _ z.2.1, z.2.2⟩, ob, es, ep, k _ _ (.inl rfl) e, c⟩
  | set S n => obtain ⟨ob, es, ep, t, e, c⟩ := x; exact ⟨ob, es, ep, t, k _ _ (.inl rfl) e, c⟩
  | ins C dx fs =>
    obtain ⟨d, z, ne, e, mA, ⟨od, es, ep, e2, c⟩, r⟩ := x
    exact ⟨ho _ d, z, ne, k _ _ (.inl rfl) e, mA, ⟨od, es, ep, k _ _ (.inr d) e2, c⟩, r⟩
  | own y => obtain ⟨ob, e⟩ := x; exact ⟨ob, k _ _ (.inl rfl) e⟩
  | xd fs => obtain ⟨mA, ⟨od, es, ep, e, c⟩, r⟩ := x; exact ⟨mA, ⟨od, es, ep, k _ _ (.inl rfl) e, c⟩, r⟩
  | rng lo hi => obtain ⟨t, u, v, e⟩ := x; exact ⟨t, u, v, k _ _ (.inl rfl) e⟩
  | frz ob u ih => obtain ⟨e, q⟩ := x; exact ⟨k _ _ (.inl rfl) e, ih q⟩
  | tbl ps =>
    have e : h.get? a = some { cls := .none, data := .fields ps } := x
    show h'.get? a = some { cls := .none, data := .fields ps }
    exact k a _ (.inl rfl) e
  | met f y =>
    have e : h.get? a = some (PySem.W.methodObj (.ref f) (.ref y)) := x
    show h'.get? a = some (PySem.W.methodObj (.ref f) (.ref y))
    exact k a _ (.inl rfl) e
  | ext φ => obtain ⟨p, ⟨o, e⟩, st⟩ := x; exact ⟨st _ _ p fun o q => k _ _ (.inl rfl) q, ⟨o, k _ _ (.inl rfl) e⟩, st⟩
theorem HOk.lt (x : HOk P w H h) (e : H a = some o) : a < h.objs.size := (x a o e).lt
theorem HOk.fresh (x : HOk P w H h) (e : h.objs.size ≤ a) : H a = none := by
  cases q : H a with
  | none => rfl
  | some u => exact absurd (Nat.lt_of_lt_of_le (x.lt q) e) (Nat.lt_irrefl _)
/-- every object of the heap is kept -/
theorem HOk.kept (x : HOk P w H h) (k : ∀ b u, h.get? b = some u → h'.get? b = some u) : HOk P w H h' := fun a o e =>
  (x a o e).stay (fun b u _ q => k b u q) (fun _ q => q) fun _ _ q => q
/-- a new object is laid and tracked -/
theorem HOk.laid (x : HOk P w H h) (k : ∀ b u, h.get? b = some u → h'.get? b = some u) (hp : h.objs.size ≤ a) (new : ObjOk P w (upd H a o) h' a o) : HOk P w (upd H a o) h' := fun b u e => by
  have hn := x.fresh hp
  by_cases hb : b = a
  · subst hb; rw [upd_same] at e; cases e; exact new
  · rw [upd_ne hb] at e
    exact (x b u e).stay (fun c v _ q => k c v q) (fun c q => by rw [upd_ne (ne_of_none q hn)]; exact q) fun c xs q => by rw [upd_ne (ne_of_none q hn)]; exact q
end
/-- what may be read as u: it is u, or a known u -/
def Rd (H : Hp) (a : Addr) (u : HO) : Prop := H a = some u ∨ ∃ o, H a = some (.frz o u)
theorem Rd.ok {P : Program} {w : World} {H : Hp} {h : Heap} {a : Addr} {u : HO} (r : Rd H a u) (x : HOk P w H h) : ObjOk P w H h a u := by
  rcases r with r | ⟨o, r⟩
  · exact x a u r
  · obtain ⟨_, q⟩ := x a _ r
    exact q
/-- what may be written -/
def Mut : Option HO → Prop
  | some (.lst _) => True
  | some (.dK _) => True
  | some (.dT _) => True
  | some (.set _ _) => True
  | some (.ins _ _ _) => True
  | some (.ext _) => True
  | _ => False
section
variable {P : Program} {w : World} {H : Hp} {h h' : Heap} {x e : Addr} {o' : HO}
/-- the object at e is changed: x itself, or the dict of the instance x -/
theorem HOk.write (ok : HOk P w H h) (mu : Mut (H x)) (he : e = x ∨ H e = some (.own x)) (k : ∀ b u, b ≠ e → h.get? b = some u → h'.get? b = some u) (heo : ∃ u, h'.get? e = some u)
    (new : ObjOk P w (upd H x o') h' x o') : HOk P w (upd H x o') h' := fun b u q => by
  have nown : ∀ c y, H c = some (.own y) → c ≠ x := fun c y r z => by subst z; rw [r] at mu; exact mu
  have ntup : ∀ c xs, H c = some (.tup xs) → c ≠ x := fun c xs r z => by subst z; rw [r] at mu; exact mu
  by_cases hb : b = x
  · subst hb; rw [upd_same] at q; cases q; exact new
  · rw [upd_ne hb] at q
    by_cases hbe : b = e
    · have q' : H b = some (.own x) := by
        rcases he with z | z
        · exact absurd (hbe.trans z) hb
        · rw [hbe]; exact z
      rw [q] at q'; cases q'
      obtain ⟨v, hv⟩ := heo
      exact ⟨v, by rw [hbe]; exact hv⟩
    · refine (ok b u q).stay (fun c v hc r => k c v ?_ r) (fun c r => by rw [upd_ne (nown c b r)]; exact r) fun c xs r => by rw [upd_ne (ntup c xs r)]; exact r
      rcases hc with rfl | hc
      · exact hbe
      · rintro rfl
        rcases he with z | z
        · exact nown c b hc z
        · rw [hc] at z; cases z; exact hb rfl
end
/-! ### kept unless tracked; of the frames at fs (the callers') the slots may change (an exception that passes writes there); of the records at ex (iterators) nothing is said -/
structure Un (fs ex : List Addr) (H H' : Hp) (h h' : Heap) : Prop where
  keep : ∀ b o, h.get? b = some o → H b = none → b ∉ fs → b ∉ ex → h'.get? b = some o
  slot : ∀ b o, h.get? b = some o → H b = none → b ∈ fs → b ∉ ex → ∃ sl, h'.get? b = some { o with slots := sl }
  free : ∀ b o, h.get? b = some o → H b = none → b ∉ ex → H' b = none
  there : ∀ b o, h.get? b = some o → b ∉ ex → ∃ o', h'.get? b = some o'
  tups : ∀ b xs, H b = some (.tup xs) → H' b = some (.tup xs)
  frzs : ∀ b o u, H b = some (.frz o u) → H' b = some (.frz o u)
  tbls : ∀ b ps, H b = some (.tbl ps) → ∃ more, H' b = some (.tbl (ps ++ more))
section
variable {fs fs' ex ex' : List Addr} {H H1 H2 : Hp} {h h1 h2 h' : Heap} {a x e : Addr} {o : HO}
theorem Un.any (u : Un fs ex H H1 h h1) {b : Addr} {ob : Obj} (q : h.get? b = some ob) (n : H b = none) (hx : b ∉ ex) : ∃ sl, h1.get? b = some { ob with slots := sl } := by
  by_cases hb : b ∈ fs
  · exact u.slot b ob q n hb hx
  · exact ⟨ob.slots, u.keep b ob q n hb hx⟩
theorem Un.trans (a : Un fs ex H H1 h h1) (b : Un fs ex H1 H2 h1 h2) : Un fs ex H H2 h h2 where
  keep := fun c ob q n hc hx => b.keep c ob (a.keep c ob q n hc hx) (a.free c ob q n hx) hc hx
  slot := fun c ob q n hc hx => by
    obtain ⟨sl, e1⟩ := a.slot c ob q n hc hx
    obtain ⟨sl', e2⟩ := b.slot c _ e1 (a.free c ob q n hx) hc hx
    exact ⟨sl', e2⟩
  free := fun c ob q n hx => by
    obtain ⟨o', e1⟩ := a.there c ob q hx
    exact b.free c o' e1 (a.free c ob q n hx) hx
  there := fun c ob q hx => by
    obtain ⟨o', e1⟩ := a.there c ob q hx
    exact b.there c o' e1 hx
  tups := fun c xs q => b.tups c xs (a.tups c xs q)
  frzs := fun c ob xs q => b.frzs c ob xs (a.frzs c ob xs q)
  tbls := fun c ps q => by
    obtain ⟨m1, e1⟩ := a.tbls c ps q
    obtain ⟨m2, e2⟩ := b.tbls c _ e1
    exact ⟨m1 ++ m2, by rw [e2, Array.append_assoc]⟩
theorem Un.kept (k : ∀ b u, h.get? b = some u → h'.get? b = some u) : Un fs ex H H h h' :=
  ⟨fun b ob q _ _ _ => k b ob q, fun b ob q _ _ _ => ⟨ob.slots, k b ob q⟩, fun _ _ _ n _ => n, fun b ob q _ => ⟨ob, k b ob q⟩, fun _ _ q => q, fun _ _ _ q => q, fun _ ps q => ⟨#[], by rw [q]; simp⟩⟩
theorem Un.refl : Un fs ex H H h h := Un.kept fun _ _ q => q
theorem Un.laid (k : ∀ b u, h.get? b = some u → h'.get? b = some u) (hp : h.objs.size ≤ a) (hn : H a = none) : Un fs ex H (upd H a o) h h' where
  keep := fun b u q _ _ _ => k b u q
  slot := fun b u q _ _ _ => ⟨u.slots, k b u q⟩
  free := fun b u q n _ => by rw [upd_ne (Nat.ne_of_lt (Nat.lt_of_lt_of_le (Heap.lt_size q) hp))]; exact n
  there := fun b u q _ => ⟨u, k b u q⟩
  tups := fun b xs q => by rw [upd_ne (ne_of_none q hn)]; exact q
  frzs := fun b u xs q => by rw [upd_ne (ne_of_none q hn)]; exact q
  tbls := fun b ps q => ⟨#[], by rw [upd_ne (ne_of_none q hn), q]; simp⟩
theorem Un.write (mu : Mut (H x)) (he : e = x ∨ H e = some (.own x)) (k : ∀ b u, b ≠ e → h.get? b = some u → h'.get? b = some u) (heo : ∃ u, h'.get? e = some u) : Un fs ex H (upd H x o) h h' := by
  have hx : ∀ b, H b = none → b ≠ x := fun b n z => by subst z; rw [n] at mu; exact mu
  have hb : ∀ b, H b = none → b ≠ e := fun b n z => by
    subst z
    rcases he with r | r
    · exact hx b n r
    · rw [n] at r; cases r
  have hm : ∀ b u, H b = some u → ¬ Mut (some u) → b ≠ x := fun b u q nm z => by subst z; rw [q] at mu; exact nm mu
  refine ⟨fun b u q n _ _ => k b u (hb b n) q, fun b u q n _ _ => ⟨u.slots, k b u (hb b n) q⟩, fun b u q n _ => by rw [upd_ne (hx b n)]; exact n, fun b u q _ => ?_,
    fun b xs q => by rw [upd_ne (hm b _ q fun z => z)]; exact q, fun b u xs q => by rw [upd_ne (hm b _ q fun z => z)]; exact q, fun b ps q => ⟨#[], by rw [upd_ne (hm b _ q fun z => z), q]; simp⟩⟩
  by_cases hbe : b = e
  · subst hbe; exact heo
  · exact ⟨u, k b u hbe q⟩
theorem Un.mono (u : Un fs ex H H1 h h1) (hs : ∀ b ∈ fs, b ∈ fs') (hx : ∀ b ∈ ex, b ∈ ex') : Un fs' ex' H H1 h h1 :=
  ⟨fun b ob q n hb he => u.keep b ob q n (fun z => hb (hs b z)) fun z => he (hx b z), fun _ _ q n _ he => u.any q n fun z => he (hx _ z), fun b ob q n he => u.free b ob q n fun z => he (hx b z), fun b ob q he => u.there b ob q fun z => he (hx b z), u.tups, u.frzs, u.tbls⟩
end
/-! ### the heap without what is tracked -/
def trk (h : Heap) (H : Hp) : List Addr := (List.range h.objs.size).filter fun a => (H a).isSome
def hidT (h : Heap) (H : Hp) : Heap := PySem.W.hideAll h (trk h H)
theorem hidT_size (h : Heap) (H : Hp) : (hidT h H).objs.size = h.objs.size := PySem.W.hideAll_size _ _
theorem hidT_get {h : Heap} {H : Hp} {b : Addr} {o : Obj} (e : h.get? b = some o) (n : H b = none) : (hidT h H).get? b = some o :=
  PySem.W.hideAll_get _ e fun hm => by
    have q : (H b).isSome = true := (List.mem_filter.mp hm).2
    rw [n] at q; simp at q
theorem of_hidT {h : Heap} {H : Hp} {b : Addr} {o : Obj} (e : (hidT h H).get? b = some o) : h.get? b = some o ∧ H b = none := by
  have e' : h.get? b = some o := PySem.W.of_hideAll (trk h H) e
  refine ⟨e', ?_⟩
  cases q : H b with
  | none => rfl
  | some x =>
    have hm : b ∈ trk h H := List.mem_filter.mpr ⟨List.mem_range.mpr (Heap.lt_size e'), by simp [q]⟩
    have z : (hidT h H).get? b = none := PySem.W.hideAll_none (trk h H) hm
    rw [z] at e; cases e
/-! ### OpenK's ledger, filled with every new object but one -/
def allNews (g h : Heap) (L : Addr) : List (Addr × Obj) := (List.range h.objs.size).filterMap fun a => if a = L ∨ (g.get? a).isSome = true then none else (h.get? a).map fun o => (a, o)
def rest (g h : Heap) (L d : Addr) : List (Addr × Obj) := (allNews g h L).filter fun p => decide (p.1 ≠ d)
end L2
namespace L2
open PySem PySem.Spec PyProof.Rows
/-- the module's facts, over the base: the heap at the law's entry without what is tracked there -/
structure Mod (K : PySem.W.Frag) (mg : Str → Option Value) (base : Heap) : Prop where
  kin : K.In base
  glob : base.Ns mainGlobals mg
  blt : ∃ mb, base.Ns builtinsNs mb ∧ ∀ x : Str, x ≠ "__name__" → mb x = bootBuiltins x
  nolimit : base.NoLimit
/-- the context: a def's body (or a comprehension's block) running. base: fixed through the whole law; s₀, H₀: the entry; outer: the frames whose slots others may change (a def's callers); stack: all frames that run;
   ex: iterators that were made ahead of the entry and are walked here (a comprehension's); fn: the names whose cells were made at the entry (a def: all; a comprehension's block: its own); calm: not within an except suite; pn: pins that every state bears; xe: what is wanted of an exception that leaves the code -/
structure Cx where
  prog : Program
  w : World
  K : PySem.W.Frag
  mg : Str → Option Value
  base : Heap
  A : Around
  N : List Str
  s₀ : Shared
  H₀ : Hp
  env : Env
  outer : List Env
  stack : List Env
  ex : List Addr
  fn : Str → Bool
  calm : Bool
  pn : List (Addr × Obj)
  xe : Value → Shared → Prop
/-- the callers' frames -/
def frs (l : List Env) : List Addr := l.filterMap (·.frame)
abbrev Cx.fs (X : Cx) : List Addr := frs X.outer
def Vis (sc : Scope) (x : Str) : Prop := sc.names.lookup x = some .local ∨ sc.names.lookup x = some .cell ∨ sc.names.lookup x = some .free
def Loc (sc : Scope) (x : Str) : Prop := sc.names.lookup x = some .local ∨ sc.names.lookup x = some .cell
def Look (env : Env) (h : Heap) (m : Str → Option Value) (x : Str) (u : Value) : Prop :=
  (env.kindOf x = some .local ∧ m x = some u) ∨ ((env.kindOf x = some .cell ∨ env.kindOf x = some .free) ∧ ∃ c, env.cells.lookup x = some c ∧ h.IsCell c (some u))
structure Cx.Ok (X : Cx) : Prop where
  mod : Mod X.K X.mg X.base
  kind : X.env.scope.kind = .function
  glob : X.env.globals = mainGlobals
  blt : X.env.builtins = builtinsNs
  above : X.s₀.heap.objs.size ≤ X.env.locals
  inj : ∀ x y c, X.env.cells.lookup x = some c → X.env.cells.lookup y = some c → x = y
  has : ∀ x, (X.env.kindOf x = some .cell ∨ X.env.kindOf x = some .free) → ∃ c, X.env.cells.lookup x = some c
  cab : ∀ x c, X.fn x = true → X.env.cells.lookup x = some c → X.s₀.heap.objs.size ≤ c
  hd : X.calm = true → X.A.handled = none
  frames : X.A.frames = some X.stack
  stk : X.stack = X.outer ∨ (X.stack = X.env :: X.outer ∧ X.env.frame = some X.env.locals)
  exf : ∀ b ∈ X.ex, b ≠ X.env.locals ∧ ∀ x c, X.env.cells.lookup x = some c → c ≠ b
  bs : ∀ b o, X.base.get? b = some o → X.s₀.heap.get? b = some o ∧ X.H₀ b = none
  bsz : X.base.objs.size ≤ X.s₀.heap.objs.size
  noex : ∀ b o, X.base.get? b = some o → b ∉ X.ex
  exfs : ∀ b ∈ X.ex, b ∉ X.fs
  funs : X.s₀.heap.FunFrames X.base X.outer
  frf : ∀ b ∈ X.fs, X.H₀ b = none
structure Inv (X : Cx) (pins : List (Addr × Obj)) (σ : List (Option V)) (H : Hp) (s : Shared) : Prop where
  ok : X.Ok
  os : s.os = X.s₀.os
  bare : AllBare s.gens
  base : Un X.fs X.ex X.H₀ H X.s₀.heap s.heap
  loc : ∃ m, s.heap.Ns X.env.locals m ∧ ∀ (i : Nat) (x : Str) (v : V), X.N[i]? = some x → σ[i]? = some (some v) → Vis X.env.scope x → ∃ u, RelV v u ∧ Look X.env s.heap m x u
  cell : ∀ x c, X.env.cells.lookup x = some c → ∃ v, s.heap.IsCell c v
  free : H X.env.locals = none
  freeC : ∀ x c, X.env.cells.lookup x = some c → H c = none
  pin : ∀ p ∈ X.pn ++ pins, s.heap.get? p.1 = some p.2 ∧ H p.1 = none ∧ p.1 ≠ X.env.locals ∧ p.1 ∉ X.fs ∧ ∀ v, p.2.data ≠ .cell v
  hok : HOk X.prog X.w H s.heap
  len : σ.length = X.N.length
section
variable {X : Cx} {pins : List (Addr × Obj)} {σ : List (Option V)} {H H' : Hp} {s : Shared} {h' : Heap}
theorem Cx.Ok.nofr (ok : X.Ok) {b : Addr} {o : Obj} (e : X.base.get? b = some o) : b ∉ X.fs := fun hb => by
  have := (ok.funs.mem hb).1
  rw [e] at this; cases this
theorem Inv.bs (I : Inv X pins σ H s) : ∀ b o, X.base.get? b = some o → s.heap.get? b = some o ∧ H b = none := fun b o e =>
  ⟨I.base.keep b o (I.ok.bs b o e).1 (I.ok.bs b o e).2 (I.ok.nofr e) (I.ok.noex b o e), I.base.free b o (I.ok.bs b o e).1 (I.ok.bs b o e).2 (I.ok.noex b o e)⟩
theorem Inv.bk (I : Inv X pins σ H s) : ∀ b o, X.base.get? b = some o → s.heap.get? b = some o := fun b o e => (I.bs b o e).1
theorem Inv.mod (I : Inv X pins σ H s) : Mod X.K X.mg X.base := I.ok.mod
theorem Inv.kIn (I : Inv X pins σ H s) : X.K.In s.heap := I.ok.mod.kin.keeps I.bk
theorem Inv.nolimit (I : Inv X pins σ H s) : s.heap.NoLimit := I.ok.mod.nolimit.keeps I.bk
/-- the frame over the base: for OpenK's rules (K.In X.base is I.mod.kin) -/
theorem Inv.fr (I : Inv X pins σ H s) : ∃ m, Fr X.base X.env.locals s.heap m :=
  let ⟨m, hn, _⟩ := I.loc
  ⟨m, hn, I.bk, Nat.le_trans I.ok.bsz I.ok.above⟩
theorem Inv.lt (I : Inv X pins σ H s) : X.env.locals < s.heap.objs.size := let ⟨_, hn, _⟩ := I.loc; hn.lt
theorem Inv.sz (I : Inv X pins σ H s) : X.s₀.heap.objs.size ≤ s.heap.objs.size := Nat.le_trans I.ok.above (Nat.le_of_lt I.lt)
theorem Inv.nofs (I : Inv X pins σ H s) {a : Addr} (h : s.heap.objs.size ≤ a) : a ∉ X.fs := fun hb => by
  obtain ⟨_, o, ho, _⟩ := I.ok.funs.mem hb
  exact absurd (Nat.lt_of_lt_of_le (Heap.lt_size ho) (Nat.le_trans I.sz h)) (Nat.lt_irrefl _)
theorem Inv.cne (I : Inv X pins σ H s) : ∀ x c, X.env.cells.lookup x = some c → c ≠ X.env.locals := fun x c e z => by
  obtain ⟨v, o, ho, hd⟩ := I.cell x c e
  obtain ⟨m, ⟨o', es, ep, ho', hd', _⟩, _⟩ := I.loc
  rw [z, ho'] at ho; cases ho; rw [hd'] at hd; cases hd
theorem Inv.funs (I : Inv X pins σ H s) : s.heap.FunFrames X.base X.outer := by
  have all : ∀ (l : List Env), (∀ b ∈ frs l, b ∈ X.fs) → X.s₀.heap.FunFrames X.base l → s.heap.FunFrames X.base l := by
    intro l
    induction l with
    | nil => intro _ _; trivial
    | cons env r ih =>
      intro hs hl
      obtain ⟨hk, ⟨L, o, hf, hn, ho, hd⟩, hr⟩ := hl
      have hL : L ∈ X.fs := hs L (by unfold frs; rw [List.filterMap_cons, hf]; exact List.mem_cons_self)
      obtain ⟨sl, e⟩ := I.base.slot L o ho (I.ok.frf L hL) hL fun z => I.ok.exfs L z hL
      exact ⟨hk, ⟨L, _, hf, hn, e, hd⟩, ih (fun b hb => hs b (by unfold frs; rw [List.filterMap_cons, hf]; exact List.mem_cons_of_mem _ hb)) hr⟩
  exact all X.outer (fun _ hb => hb) I.ok.funs
/-- the frames that run, for a call -/
theorem Inv.stack (I : Inv X pins σ H s) : s.heap.FunFrames X.base X.stack := by
  rcases I.ok.stk with e | ⟨e, hf⟩
  · rw [e]; exact I.funs
  · rw [e]
    obtain ⟨m, hn, _⟩ := I.loc
    refine .cons (by rw [I.ok.kind]; decide) hf hn ?_ I.funs
    exact Heap.get?_none_of_le (Nat.le_trans I.ok.bsz I.ok.above)
theorem Inv.stkSub (I : Inv X pins σ H s) : ∀ b ∈ frs X.stack, b ∈ X.env.locals :: X.fs := fun b hb => by
  rcases I.ok.stk with e | ⟨e, hf⟩
  · rw [e] at hb; exact List.mem_cons_of_mem _ hb
  · rw [e] at hb
    unfold frs at hb
    rw [List.filterMap_cons, hf] at hb
    exact hb
theorem Inv.stkFree (I : Inv X pins σ H s) : ∀ b ∈ frs X.stack, H b = none := fun b hb => by
  rcases List.mem_cons.mp (I.stkSub b hb) with e | hb
  · rw [e]; exact I.free
  · obtain ⟨_, o, ho, _⟩ := I.ok.funs.mem hb
    exact I.base.free b o ho (I.ok.frf b hb) fun z => I.ok.exfs b z hb
/-- THE STEP: the untracked objects but the frame and the records at ch are kept (the callers' frames up to slots), the frame's map is kept, the new abstract heap is held -/
theorem Inv.step {g' : Array GenState} {t' : Nat} {d' : Drawn} {ch : List Addr} (I : Inv X pins σ H s)
    (hch : ∀ b ∈ ch, (b ∈ X.ex ∨ X.s₀.heap.objs.size ≤ b) ∧ b ≠ X.env.locals ∧ (∀ x c, X.env.cells.lookup x = some c → c ≠ b) ∧ ∀ p ∈ X.pn ++ pins, p.1 ≠ b)
    (keep : ∀ b o, b ≠ X.env.locals → b ∉ X.fs → b ∉ ch → s.heap.get? b = some o → H b = none → h'.get? b = some o)
    (slot : ∀ b o, b ≠ X.env.locals → b ∈ X.fs → b ∉ ch → s.heap.get? b = some o → H b = none → ∃ sl, h'.get? b = some { o with slots := sl }) (free : ∀ b o, b ∉ ch → s.heap.get? b = some o → H b = none → H' b = none)
    (there : ∀ b o, b ∉ ch → s.heap.get? b = some o → ∃ o', h'.get? b = some o')
    (tups : ∀ b xs, H b = some (.tup xs) → H' b = some (.tup xs)) (frzs : ∀ b o u, H b = some (.frz o u) → H' b = some (.frz o u)) (tbls : ∀ b ps, H b = some (.tbl ps) → ∃ more, H' b = some (.tbl (ps ++ more)))
    (ns : ∀ m, s.heap.Ns X.env.locals m → h'.Ns X.env.locals m) (hok : HOk X.prog X.w H' h') (hg : AllBare g') :
    Inv X pins σ H' { s with heap := h', gens := g', drawn := d', toks := t' } := by
  have neL : ∀ b o, X.s₀.heap.get? b = some o → b ≠ X.env.locals := fun b o e => Nat.ne_of_lt (Nat.lt_of_lt_of_le (Heap.lt_size e) I.ok.above)
  have neC : ∀ b o, X.s₀.heap.get? b = some o → b ∉ X.ex → b ∉ ch := fun b o e hx hb => by
    rcases (hch b hb).1 with z | z
    · exact hx z
    · exact absurd (Nat.lt_of_lt_of_le (Heap.lt_size e) z) (Nat.lt_irrefl _)
  have cellK : ∀ x c, X.env.cells.lookup x = some c → ∀ v, s.heap.IsCell c v → h'.IsCell c v := fun x c e v ⟨o, ho, hd⟩ => by
    have nch : c ∉ ch := fun z => (hch c z).2.2.1 x c e rfl
    by_cases hc : c ∈ X.fs
    · obtain ⟨sl, q⟩ := slot c o (I.cne x c e) hc nch ho (I.freeC x c e)
      exact ⟨_, q, hd⟩
    · exact ⟨o, keep c o (I.cne x c e) hc nch ho (I.freeC x c e), hd⟩
  refine ⟨I.ok, I.os, hg, ⟨fun b o e n hb hx => ?_, fun b o e n hb hx => ?_, fun b o e n hx => ?_, fun b o e hx => ?_, fun b xs e => tups b xs (I.base.tups b xs e), fun b o xs e => frzs b o xs (I.base.frzs b o xs e), fun b ps e => ?_⟩, ?_, fun x c e => ?_, ?_, fun x c e => ?_, fun p hp => ?_, hok, I.len⟩
  · exact keep b o (neL b o e) hb (neC b o e hx) (I.base.keep b o e n hb hx) (I.base.free b o e n hx)
  · obtain ⟨sl, e1⟩ := I.base.slot b o e n hb hx
    obtain ⟨sl', e2⟩ := slot b _ (neL b o e) hb (neC b o e hx) e1 (I.base.free b o e n hx)
    exact ⟨sl', e2⟩
  · obtain ⟨o', e1⟩ := I.base.there b o e hx
    exact free b o' (neC b o e hx) e1 (I.base.free b o e n hx)
  · obtain ⟨o', e1⟩ := I.base.there b o e hx
    exact there b o' (neC b o e hx) e1
  · obtain ⟨m1, e1⟩ := I.base.tbls b ps e
    obtain ⟨m2, e2⟩ := tbls b _ e1
    exact ⟨m1 ++ m2, by rw [e2, Array.append_assoc]⟩
  · obtain ⟨m, hn, hl⟩ := I.loc
    refine ⟨m, ns m hn, fun i x v e1 e2 e3 => ?_⟩
    obtain ⟨u, r, l⟩ := hl i x v e1 e2 e3
    refine ⟨u, r, ?_⟩
    rcases l with l | ⟨k, c, e, z⟩
    · exact .inl l
    · exact .inr ⟨k, c, e, cellK x c e _ z⟩
  · obtain ⟨v, z⟩ := I.cell x c e
    exact ⟨v, cellK x c e v z⟩
  · obtain ⟨m, ⟨o, _, _, ho, _⟩, _⟩ := I.loc
    exact free _ o (fun z => (hch _ z).2.1 rfl) ho I.free
  · obtain ⟨v, o, ho, hd⟩ := I.cell x c e
    exact free c o (fun z => (hch c z).2.2.1 x c e rfl) ho (I.freeC x c e)
  · obtain ⟨e, n, ne, nf, d⟩ := I.pin p hp
    have nch : p.1 ∉ ch := fun z => (hch p.1 z).2.2.2 p hp rfl
    exact ⟨keep p.1 p.2 ne nf nch e n, free p.1 p.2 nch e n, ne, nf, d⟩
/-- .. where the frame's own object is kept too -/
theorem Inv.un {t' : Nat} (I : Inv X pins σ H s) (u : Un X.fs [] H H' s.heap h') (hok : HOk X.prog X.w H' h') : Inv X pins σ H' { s with heap := h', toks := t' } := by
  obtain ⟨m, ⟨o, es, ep, ho, r⟩, _⟩ := id I.loc
  obtain ⟨sl, hL⟩ := u.any ho I.free (by simp)
  exact I.step (g' := s.gens) (d' := s.drawn) (ch := []) (fun _ z => nomatch z) (fun b o _ hb _ e n => u.keep b o e n hb (by simp)) (fun b o _ hb _ e n => u.slot b o e n hb (by simp)) (fun b o _ e n => u.free b o e n (by simp)) (fun b o _ e => u.there b o e (by simp)) u.tups u.frzs u.tbls (fun m' hm => by
    obtain ⟨o', es', ep', ho', r'⟩ := hm
    rw [ho] at ho'; cases ho'
    exact ⟨_, es', ep', hL, r'⟩) hok I.bare
/-- behind a call (or a comprehension's block): the slots of this frame may have changed too, the records at ch may have turned -/
theorem Inv.call {g' : Array GenState} {t' : Nat} {d' : Drawn} {ch : List Addr} (I : Inv X pins σ H s) (u : Un (frs X.stack) ch H H' s.heap h') (hok : HOk X.prog X.w H' h') (hg : AllBare g')
    (hch : ∀ b ∈ ch, (b ∈ X.ex ∨ X.s₀.heap.objs.size ≤ b) ∧ b ≠ X.env.locals ∧ (∀ x c, X.env.cells.lookup x = some c → c ≠ b) ∧ ∀ p ∈ X.pn ++ pins, p.1 ≠ b) :
    Inv X pins σ H' { s with heap := h', gens := g', drawn := d', toks := t' } := by
  obtain ⟨m, ⟨o, es, ep, ho, r⟩, _⟩ := id I.loc
  obtain ⟨sl, hL⟩ := u.any ho I.free fun z => (hch _ z).2.1 rfl
  exact I.step (ch := ch) hch (fun b o hL hb hc e n => u.keep b o e n (fun z => (List.mem_cons.mp (I.stkSub b z)).elim hL hb) hc) (fun b o _ _ hc e n => u.any e n hc) (fun b o hc e n => u.free b o e n hc) (fun b o hc e => u.there b o e hc) u.tups u.frzs u.tbls (fun m' hm => by
    obtain ⟨o', es', ep', ho', r'⟩ := hm
    rw [ho] at ho'; cases ho'
    exact ⟨_, es', ep', hL, r'⟩) hok hg
/-- an untracked record of ours (an iterator) has turned -/
theorem Inv.turned {t' : Nat} {it : Addr} (I : Inv X pins σ H s) (k : ∀ b o, b ≠ it → s.heap.get? b = some o → h'.get? b = some o) (hn : H it = none) (hL : it ≠ X.env.locals)
    (h1 : it ∈ X.ex ∨ X.s₀.heap.objs.size ≤ it) (h2 : ∀ x c, X.env.cells.lookup x = some c → c ≠ it) (h3 : ∀ p ∈ X.pn ++ pins, p.1 ≠ it) : Inv X pins σ H { s with heap := h', toks := t' } := by
  have nit : ∀ b u, H b = some u → b ≠ it := fun b u e z => by rw [z, hn] at e; cases e
  refine I.step (g' := s.gens) (d' := s.drawn) (ch := [it]) (fun b hb => ?_) (fun b o _ _ hc e _ => k b o (fun z => hc (by simp [z])) e) (fun b o _ _ hc e _ => ⟨o.slots, k b o (fun z => hc (by simp [z])) e⟩) (fun _ _ _ _ n => n)
    (fun b o hc e => ⟨o, k b o (fun z => hc (by simp [z])) e⟩) (fun _ _ e => e) (fun _ _ _ e => e) (fun b ps e => ⟨#[], by rw [e]; simp⟩) (fun m hm => ?_) (fun b u e => ?_) I.bare
  · have e : b = it := by simpa using hb
    subst e
    exact ⟨h1, hL, h2, h3⟩
  · obtain ⟨o, es, ep, ho, r⟩ := hm
    exact ⟨o, es, ep, k _ o (Ne.symm hL) ho, r⟩
  · refine (I.hok b u e).stay (fun c v hc q => k c v ?_ q) (fun _ q => q) fun _ _ q => q
    rcases hc with z | z
    · rw [z]; exact nit b u e
    · exact nit c _ z
theorem Inv.tok (I : Inv X pins σ H s) (t : Nat) : Inv X pins σ H { s with toks := t } := I.un (h' := s.heap) (t' := t) Un.refl I.hok
/-- all objects kept -/
theorem Inv.kept {t' : Nat} (I : Inv X pins σ H s) (k : ∀ b u, s.heap.get? b = some u → h'.get? b = some u) : Inv X pins σ H { s with heap := h', toks := t' } := I.un (Un.kept k) (I.hok.kept k)
/-- a new object laid and tracked -/
theorem Inv.laid {a : Addr} {o : HO} {t' : Nat} (I : Inv X pins σ H s) (k : ∀ b u, s.heap.get? b = some u → h'.get? b = some u) (hp : s.heap.objs.size ≤ a) (new : ObjOk X.prog X.w (upd H a o) h' a o) :
    Inv X pins σ (upd H a o) { s with heap := h', toks := t' } := I.un (Un.laid k hp (I.hok.fresh hp)) (I.hok.laid k hp new)
/-- an object written -/
theorem Inv.write {x e : Addr} {o : HO} {t' : Nat} (I : Inv X pins σ H s) (mu : Mut (H x)) (he : e = x ∨ H e = some (.own x)) (k : ∀ b u, b ≠ e → s.heap.get? b = some u → h'.get? b = some u) (heo : ∃ u, h'.get? e = some u)
    (new : ObjOk X.prog X.w (upd H x o) h' x o) : Inv X pins σ (upd H x o) { s with heap := h', toks := t' } := I.un (Un.write mu he k heo) (I.hok.write mu he k heo new)
/-- forgetting slots, pins -/
theorem Inv.weak {σ' : List (Option V)} (I : Inv X pins σ H s) (hl : σ'.length = σ.length) (w : ∀ (i : Nat) v, σ'[i]? = some (some v) → σ[i]? = some (some v)) : Inv X pins σ' H s :=
  ⟨I.ok, I.os, I.bare, I.base, let ⟨m, hn, hl'⟩ := I.loc; ⟨m, hn, fun i x v e1 e2 e3 => hl' i x v e1 (w i v e2) e3⟩, I.cell, I.free, I.freeC, I.pin, I.hok, hl.trans I.len⟩
theorem Inv.pins_of {pins' : List (Addr × Obj)} (I : Inv X pins σ H s) (h : ∀ p ∈ pins', s.heap.get? p.1 = some p.2 ∧ H p.1 = none ∧ p.1 ≠ X.env.locals ∧ p.1 ∉ X.fs ∧ ∀ v, p.2.data ≠ .cell v) : Inv X pins' σ H s :=
  ⟨I.ok, I.os, I.bare, I.base, I.loc, I.cell, I.free, I.freeC, fun p hp => (List.mem_append.mp hp).elim (fun z => I.pin p (List.mem_append_left _ z)) (h p), I.hok, I.len⟩
theorem nodup_ix {N : List Str} (hN : N.Nodup) {i j : Nat} {x : Str} (a : N[i]? = some x) (b : N[j]? = some x) : i = j := by
  obtain ⟨h1, e1⟩ := List.getElem?_eq_some_iff.mp a
  obtain ⟨h2, e2⟩ := List.getElem?_eq_some_iff.mp b
  exact (List.getElem_inj hN).mp (e1.trans e2.symm)
/-- a name is stored; what changed -/
theorem store_ok2 {M : Model} {A : Around} {E : Value → Shared → Prop} {i : Nat} {x : Str} {v : V} {u : Value} {Q : Unit → Shared → Prop} (I : Inv X pins σ H s) (hN : X.N.Nodup) (hi : X.N[i]? = some x) (hx : Loc X.env.scope x) (r : RelV v u)
    (h : ∀ s', Inv X pins (σ.set i (some v)) H s' → (∃ a, Heap.SameBut a s.heap s'.heap ∧ (a = X.env.locals ∨ X.env.cells.lookup x = some a)) → Q () s') (hf : X.fn x = true ∨ X.env.scope.names.lookup x = some .local := by first | exact .inl rfl | exact .inr rfl | assumption) : wpAny M A (storeName X.env x u) Q E s := by
  obtain ⟨m, hn, hl⟩ := id I.loc
  have hcls : (X.env.scope.kind == .class || (X.env.scope.kind == .module && X.env.locals != X.env.globals)) = false := by rw [I.ok.kind]; rfl
  have hiσ : i < σ.length := by rw [I.len]; exact (List.getElem?_eq_some_iff.mp hi).1
  have cne := I.cne
  have tracked : ∀ {a : Addr} {h' : Heap}, (∃ o, s.heap.get? a = some o ∧ H a = none) → Heap.SameBut a s.heap h' → HOk X.prog X.w H h' := fun {a h'} ha hs b ob e => by
    obtain ⟨_, _, hfree⟩ := ha
    refine (I.hok b ob e).stay (fun c w' hc q => (hs.2 c ?_).trans q) (fun _ q => q) fun _ _ q => q
    rintro rfl
    rcases hc with rfl | hc
    · rw [hfree] at e; cases e
    · rw [hfree] at hc; cases hc
  rcases hx with hk | hk
  · refine wpAny_storeName_local hk hn (fun h' hn' hs => ?_) hcls
    obtain ⟨oL, _, _, hoL, _⟩ := id hn
    refine h _ ⟨I.ok, I.os, I.bare, ⟨fun b o e n hb hx => ?_, fun b o e n hb hx => ?_, I.base.free, fun b o e hx => ?_, I.base.tups, I.base.frzs, I.base.tbls⟩, ⟨_, hn', fun j y v' e1 e2 e3 => ?_⟩, fun y c e => ?_, I.free, I.freeC, fun p hp => ?_, tracked ⟨oL, hoL, I.free⟩ hs, by simpa using I.len⟩ ⟨_, hs, .inl rfl⟩
    · exact (hs.2 b (Nat.ne_of_lt (Nat.lt_of_lt_of_le (Heap.lt_size e) I.ok.above))).trans (I.base.keep b o e n hb hx)
    · obtain ⟨sl, e1⟩ := I.base.slot b o e n hb hx
      exact ⟨sl, (hs.2 b (Nat.ne_of_lt (Nat.lt_of_lt_of_le (Heap.lt_size e) I.ok.above))).trans e1⟩
    · obtain ⟨o', e1⟩ := I.base.there b o e hx
      exact ⟨o', (hs.2 b (Nat.ne_of_lt (Nat.lt_of_lt_of_le (Heap.lt_size e) I.ok.above))).trans e1⟩
    · by_cases hj : j = i
      · subst hj
        rw [hi] at e1; cases e1
        rw [List.getElem?_set_self hiσ] at e2
        cases e2
        exact ⟨u, r, .inl ⟨hk, by simp⟩⟩
      · rw [List.getElem?_set_ne (Ne.symm hj)] at e2
        obtain ⟨u', r', q⟩ := hl j y v' e1 e2 e3
        refine ⟨u', r', ?_⟩
        rcases q with ⟨k, e⟩ | ⟨k, c, e, z⟩
        · refine .inl ⟨k, ?_⟩
          have : y ≠ x := fun e => hj (nodup_ix hN e1 (e ▸ hi))
          simp [this, e]
        · exact .inr ⟨k, c, e, z.sameBut hs (cne y c e)⟩
    · obtain ⟨w', z⟩ := I.cell y c e
      exact ⟨w', z.sameBut hs (cne y c e)⟩
    · obtain ⟨e, n, ne, nf, d⟩ := I.pin p hp
      exact ⟨(hs.2 p.1 ne).trans e, n, ne, nf, d⟩
  · have hfn : X.fn x = true := by
      rcases hf with z | z
      · exact z
      · rw [z] at hk; cases hk
    obtain ⟨c, hc⟩ := I.ok.has x (.inl hk)
    obtain ⟨w', z⟩ := I.cell x c hc
    refine wpAny_storeName_cell I.ok.kind hk hc z (fun h' hc' hs => ?_)
    obtain ⟨oc, hoc, hocd⟩ := id z
    refine h { s with heap := h' } ⟨I.ok, I.os, I.bare, ⟨fun b o e n hb hx => ?_, fun b o e n hb hx => ?_, I.base.free, fun b o e hx => ?_, I.base.tups, I.base.frzs, I.base.tbls⟩, ⟨m, hn.sameBut hs (Ne.symm (cne x c hc)), fun j y v' e1 e2 e3 => ?_⟩, fun y c' e => ?_, I.free, I.freeC, fun p hp => ?_, tracked ⟨oc, hoc, I.freeC x c hc⟩ hs, by simpa using I.len⟩ ⟨c, hs, .inr hc⟩
    · exact (hs.2 b (Nat.ne_of_lt (Nat.lt_of_lt_of_le (Heap.lt_size e) (I.ok.cab x c hfn hc)))).trans (I.base.keep b o e n hb hx)
    · obtain ⟨sl, e1⟩ := I.base.slot b o e n hb hx
      exact ⟨sl, (hs.2 b (Nat.ne_of_lt (Nat.lt_of_lt_of_le (Heap.lt_size e) (I.ok.cab x c hfn hc)))).trans e1⟩
    · obtain ⟨o', e1⟩ := I.base.there b o e hx
      exact ⟨o', (hs.2 b (Nat.ne_of_lt (Nat.lt_of_lt_of_le (Heap.lt_size e) (I.ok.cab x c hfn hc)))).trans e1⟩
    · by_cases hj : j = i
      · subst hj
        rw [hi] at e1; cases e1
        rw [List.getElem?_set_self hiσ] at e2
        cases e2
        exact ⟨u, r, .inr ⟨.inl hk, c, hc, hc'⟩⟩
      · rw [List.getElem?_set_ne (Ne.symm hj)] at e2
        obtain ⟨u', r', q⟩ := hl j y v' e1 e2 e3
        refine ⟨u', r', ?_⟩
        rcases q with q | ⟨k, c', e, z'⟩
        · exact .inl q
        · refine .inr ⟨k, c', e, z'.sameBut hs ?_⟩
          rintro rfl
          exact hj (nodup_ix hN e1 (I.ok.inj _ _ _ e hc ▸ hi))
    · by_cases hcc : c' = c
      · subst hcc; exact ⟨_, hc'⟩
      · obtain ⟨w2, z2⟩ := I.cell y c' e
        exact ⟨w2, z2.sameBut hs hcc⟩
    · obtain ⟨e, n, ne, nf, d⟩ := I.pin p hp
      refine ⟨(hs.2 p.1 ?_).trans e, n, ne, nf, d⟩
      intro q
      rw [q, hoc] at e
      have q' : oc = p.2 := Option.some.inj e
      exact d w' (by rw [← q']; exact hocd)
theorem store_ok {M : Model} {A : Around} {E : Value → Shared → Prop} {i : Nat} {x : Str} {v : V} {u : Value} {Q : Unit → Shared → Prop} (I : Inv X pins σ H s) (hN : X.N.Nodup) (hi : X.N[i]? = some x) (hx : Loc X.env.scope x) (r : RelV v u)
    (h : ∀ s', Inv X pins (σ.set i (some v)) H s' → Q () s') (hf : X.fn x = true ∨ X.env.scope.names.lookup x = some .local := by first | exact .inl rfl | exact .inr rfl | assumption) : wpAny M A (storeName X.env x u) Q E s :=
  store_ok2 I hN hi hx r (fun s' I' _ => h s' I') hf
/-- behind a call or a block, the state as it is -/
theorem Inv.call' {s' : Shared} {ch : List Addr} (I : Inv X pins σ H s) (ho : s'.os = s.os) (u : Un (frs X.stack) ch H H' s.heap s'.heap) (hok : HOk X.prog X.w H' s'.heap) (hg : AllBare s'.gens)
    (hch : ∀ b ∈ ch, (b ∈ X.ex ∨ X.s₀.heap.objs.size ≤ b) ∧ b ≠ X.env.locals ∧ (∀ x c, X.env.cells.lookup x = some c → c ≠ b) ∧ ∀ p ∈ X.pn ++ pins, p.1 ≠ b) : Inv X pins σ H' s' := by
  obtain ⟨h', g', d', t', o'⟩ := s'
  have e : o' = s.os := ho
  subst e
  exact I.call (g' := g') (t' := t') (d' := d') u hok hg hch
end
/-! ### the judgements -/
/-- an exception: its class, its own dict's address (where it has one), the abstract heap behind it -/
abbrev XK := Value → Option Addr → Hp → Prop
abbrev St := List (Option V)
abbrev VK := V → Hp → Prop
/-- an expression's reading; a test's; an argument list's -/
abbrev TE := St → Hp → VK → Prop
abbrev TT := St → Hp → (Bool → Hp → Prop) → Prop
abbrev TA := St → Hp → (List V → Hp → Prop) → Prop
/-- what is wanted behind a statement -/
structure Ends where
  nx : St → Hp → Prop
  rt : VK
  bk : St → Hp → Prop := fun _ _ => False
  ct : St → Hp → Prop := fun _ _ => False
abbrev TS := Ends → St → Hp → Prop
def EP (X : Cx) (pins : List (Addr × Obj)) (σ : St) (Q : VK) (u : Value) (s' : Shared) : Prop := ∃ v H', Inv X pins σ H' s' ∧ RelV v u ∧ Q v H'
def TP (X : Cx) (pins : List (Addr × Obj)) (σ : St) (Q : Bool → Hp → Prop) (b : Bool) (s' : Shared) : Prop := ∃ H', Inv X pins σ H' s' ∧ Q b H'
def AP (X : Cx) (pins : List (Addr × Obj)) (σ : St) (Q : List V → Hp → Prop) (us : List Value) (s' : Shared) : Prop := ∃ vs H', Inv X pins σ H' s' ∧ Vals vs us ∧ Q vs H'
def SP (X : Cx) (pins : List (Addr × Obj)) (D : Ends) (f : Flow) (s' : Shared) : Prop :=
  match f with
  | .next => ∃ σ' H', Inv X pins σ' H' s' ∧ D.nx σ' H'
  | .brk => ∃ σ' H', Inv X pins σ' H' s' ∧ D.bk σ' H'
  | .cont => ∃ σ' H', Inv X pins σ' H' s' ∧ D.ct σ' H'
  | .ret u => ∃ v σ' H', Inv X pins σ' H' s' ∧ RelV v u ∧ D.rt v H'
def PE (X : Cx) (e : Expr) (t : TE) : Prop :=
  ∀ (pins : List (Addr × Obj)) (s : Shared) (σ : St) (H : Hp) (Q : VK), Inv X pins σ H s → t σ H Q → wpAny (model X.prog X.w) X.A (eval e X.env) (EP X pins σ Q) X.xe s
def PT (X : Cx) (e : Expr) (t : TT) : Prop :=
  ∀ (pins : List (Addr × Obj)) (s : Shared) (σ : St) (H : Hp) (Q : Bool → Hp → Prop), Inv X pins σ H s → t σ H Q → wpAny (model X.prog X.w) X.A (isTrue e X.env (eval e X.env)) (TP X pins σ Q) X.xe s
/-- a test whatever its 'whole' is (and, or) -/
def PW (X : Cx) (e : Expr) (t : TT) : Prop :=
  ∀ (whole : Sem Value) (pins : List (Addr × Obj)) (s : Shared) (σ : St) (H : Hp) (Q : Bool → Hp → Prop), Inv X pins σ H s → t σ H Q → wpAny (model X.prog X.w) X.A (isTrue e X.env whole) (TP X pins σ Q) X.xe s
theorem PW.pt {X : Cx} {e : Expr} {t : TT} (h : PW X e t) : PT X e t := h _
/-- an argument list (no star), from the left -/
def PA (X : Cx) (es : List Expr) (t : TA) : Prop :=
  ∀ (pos : Pos) (pins : List (Addr × Obj)) (s : Shared) (σ : St) (H : Hp) (Q : List V → Hp → Prop), Inv X pins σ H s → t σ H Q → wpAny (model X.prog X.w) X.A (spliced (backTo pos (starEach es X.env))) (AP X pins σ Q) X.xe s
def PS (X : Cx) (st : Stmt) (t : TS) : Prop :=
  ∀ (pins : List (Addr × Obj)) (s : Shared) (σ : St) (H : Hp) (D : Ends), Inv X pins σ H s → t D σ H → wpAny (model X.prog X.w) X.A (exec st X.env) (SP X pins D) X.xe s
def PSs (X : Cx) (st : List Stmt) (t : TS) : Prop :=
  ∀ (pins : List (Addr × Obj)) (s : Shared) (σ : St) (H : Hp) (D : Ends), Inv X pins σ H s → t D σ H → wpAny (model X.prog X.w) X.A (execs st X.env) (SP X pins D) X.xe s
/-- weaken the end -/
theorem thn {α : Type} {t : Sem α} {Q Q' : α → Shared → Prop} {M : Model} {A : Around} {E : Value → Shared → Prop} {s : Shared} (h : wpAny M A t Q E s) (hQ : ∀ a s, Q a s → Q' a s) : wpAny M A t Q' E s := wpAny_mono h hQ fun _ _ x => x
end L2
namespace L2
open PySem PySem.Spec PyProof.Rows
section
variable {X : Cx}
/-- two expressions in a row -/
theorem bin {a b : Expr} {ta tb : TE} (ha : PE X a ta) (hb : PE X b tb) {pins : List (Addr × Obj)} {s : Shared} {σ : St} {H : Hp} {R : V → V → Hp → Prop} (I : Inv X pins σ H s) (h : ta σ H fun x H1 => tb σ H1 fun y H2 => R x y H2)
    {α : Type} {Q : α → Shared → Prop} {f : Value → Value → Sem α}
    (hf : ∀ v u s2 x y H2, Inv X pins σ H2 s2 → RelV x v → RelV y u → R x y H2 → wpAny (model X.prog X.w) X.A (f v u) Q X.xe s2) :
    wpAny (model X.prog X.w) X.A (eval a X.env) (fun v s₁ => wpAny (model X.prog X.w) X.A (eval b X.env) (fun u s₂ => wpAny (model X.prog X.w) X.A (f v u) Q X.xe s₂) X.xe s₁) X.xe s := by
  refine thn (ha pins s σ H _ I h) fun v s1 ⟨x, H1, I1, r1, q1⟩ => ?_
  refine thn (hb pins s1 σ H1 _ I1 q1) fun u s2 ⟨y, H2, I2, r2, q2⟩ => ?_
  exact hf v u s2 x y H2 I2 r1 r2 q2
/-! ### names and constants -/
def tVar (i : Nat) : TE := fun σ H Q => ∃ v, σ[i]? = some (some v) ∧ Q v H
def tC (v : V) : TE := fun _ H Q => Q v H
theorem pe_var {i : Nat} {x : Str} {pos : Pos} (hN : X.N[i]? = some x) (hv : Vis X.env.scope x) (hd : (x == ("__debug__" : Str)) = false := by decide) (hcd : (x == ("__classdict__" : Str)) = false := by decide) : PE X (.Name x pos) (tVar i) := by
  intro pins s σ H Q I h
  obtain ⟨v, e, h⟩ := h
  obtain ⟨m, hn, hl⟩ := I.loc
  obtain ⟨u, r, l⟩ := hl i x v hN e hv
  have fin : EP X pins σ Q u s := ⟨v, H, I, r, h⟩
  rcases l with ⟨hk, hm⟩ | ⟨hk, c, hc, hcell⟩
  · exact wpAny_Name (wpAny_loadName_local I.ok.kind hk hn hm fin) hd
  · rcases hk with hk | hk
    · exact wpAny_Name (wpAny_loadName_cell I.ok.kind hk hc hcell fin) hd
    · exact wpAny_Name (wpAny_loadName_free I.ok.kind hk hc hcell fin hcd) hd
theorem pe_int {i j pos} : PE X (.Constant (.int i) j pos) (tC (.int i)) := fun _ _ _ H _ I h => wpAny_Constant_int ⟨.int i, H, I.tok _, ⟨_, rfl⟩, h⟩
theorem pe_bl {b j pos} : PE X (.Constant (.bool b) j pos) (tC (.bl b)) := fun _ _ _ H _ I h => Constant_bool ⟨.bl b, H, I, rfl, h⟩
theorem pe_non {j pos} : PE X (.Constant .none j pos) (tC .non) := fun _ _ _ H _ I h => Constant_none ⟨.non, H, I, rfl, h⟩
/-- a global name of the def -/
def Gl (X : Cx) (x : Str) : Prop := X.env.kindOf x = some .globalImplicit
theorem ld_glob {E : Value → Shared → Prop} {pins : List (Addr × Obj)} {s : Shared} {σ : St} {H : Hp} {x : Str} {u : Value} {pos : Pos} {Q : Value → Shared → Prop} (I : Inv X pins σ H s) (hg : Gl X x) (hm : X.mg x = some u) (h : Q u s)
    (hd : (x == ("__debug__" : Str)) = false := by decide) : wpAny (model X.prog X.w) X.A (eval (.Name x pos) X.env) Q E s :=
  Calls.Name_function_global I.ok.kind hg (Calls.loadGlobal_global (by rw [I.ok.glob]; exact I.mod.glob.keeps I.bk) hm h) hd
theorem ld_blt {E : Value → Shared → Prop} {pins : List (Addr × Obj)} {s : Shared} {σ : St} {H : Hp} {x : Str} {u : Value} {pos : Pos} {Q : Value → Shared → Prop} (I : Inv X pins σ H s) (hg : Gl X x) (hm : X.mg x = none) (hv : bootBuiltins x = some u) (h : Q u s)
    (hn : x ≠ "__name__" := by decide) (hd : (x == ("__debug__" : Str)) = false := by decide) : wpAny (model X.prog X.w) X.A (eval (.Name x pos) X.env) Q E s := by
  obtain ⟨mb, h1, h2⟩ := I.mod.blt
  exact Calls.Name_function_global I.ok.kind hg (Calls.loadGlobal_builtin (by rw [I.ok.glob]; exact I.mod.glob.keeps I.bk) hm (by rw [I.ok.blt]; exact h1.keeps I.bk) ((h2 x hn).trans hv) h) hd
/-- a module's constant, a class, a function, as a value -/
theorem pe_glob {x : Str} {v : V} {u : Value} {pos : Pos} (hg : Gl X x) (hm : X.mg x = some u) (r : RelV v u) (hd : (x == ("__debug__" : Str)) = false := by decide) : PE X (.Name x pos) (tC v) :=
  fun _ _ _ H _ I h => ld_glob I hg hm ⟨v, H, I, r, h⟩ hd
theorem pe_bltn {x : Str} {v : V} {u : Value} {pos : Pos} (hg : Gl X x) (hm : X.mg x = none) (hv : bootBuiltins x = some u) (r : RelV v u) (hn : x ≠ "__name__" := by decide) (hd : (x == ("__debug__" : Str)) = false := by decide) : PE X (.Name x pos) (tC v) :=
  fun _ _ _ H _ I h => ld_blt I hg hm hv ⟨v, H, I, r, h⟩ hn hd
/-! ### arithmetic -/
variable {a b : Expr} {ta tb : TE} {pos : Pos}
/-! ### comparisons -/
def PC (X : Cx) (op : CmpOp) (a b : Expr) (t : TE) : Prop :=
  ∀ (pins : List (Addr × Obj)) (s : Shared) (σ : St) (H : Hp) (Q : VK), Inv X pins σ H s → t σ H Q →
    wpAny (model X.prog X.w) X.A (eval a X.env) (fun v s₁ => wpAny (model X.prog X.w) X.A (eval b X.env) (fun u s₂ => wpAny (model X.prog X.w) X.A (compareOp op v u) (EP X pins σ Q) X.xe s₂) X.xe s₁) X.xe s
theorem nobehind (b : Expr) {op : CmpOp} (h : op ≠ .In) (h2 : op ≠ .NotIn) : behindInMarks op b = false := by
  have e1 : (op == CmpOp.In) = false := by cases op <;> first | rfl | exact absurd rfl h
  have e2 : (op == CmpOp.NotIn) = false := by cases op <;> first | rfl | exact absurd rfl h2
  cases b <;> simp [behindInMarks, e1, e2]
/-- a comparison as a value, as a test -/
def tB (t : TE) : TT := fun σ H Q => t σ H fun x H1 => ∃ c, x = .bl c ∧ Q c H1
theorem pt_cmp {op : CmpOp} {t : TE} (h : PC X op a b t) (h1 : behindInMarks op b = false := by first | exact nobehind _ (by decide) (by decide) | rfl) : PT X (.Compare a [op] [b] pos) (tB t) := by
  intro pins s σ H Q I hw
  refine wpAny_isTrue_Compare1 (thn (h pins s σ H _ I hw) fun v s1 h1 => thn h1 fun u s2 h2 => thn h2 fun c s3 ⟨x, H1, I1, r1, q1⟩ => ?_) h1
  obtain ⟨d, rfl, q⟩ := q1
  cases r1
  exact wpAny_truthy_bool ⟨H1, I1, q⟩
/-- an expression whose value is a bool, as a test -/
theorem pt_val {e : Expr} {t : TE} (h : PE X e t) (he : ∀ whole, isTrue e X.env whole = (do let v ← whole; standAt e.pos; holding [v] (truthy v)) := by intro _; rfl) : PT X e (tB t) := by
  intro pins s σ H Q I hw
  refine isTrue_plain (thn (h pins s σ H _ I hw) fun v s1 ⟨x, H1, I1, r1, q1⟩ => ?_) (he _)
  obtain ⟨d, rfl, q⟩ := q1
  cases r1
  exact wpAny_truthy_bool ⟨H1, I1, q⟩
/-! ### and, or, not -/
variable {tA tB' : TT} {rest : List Expr}
def tOr (t u : TT) : TT := fun σ H Q => t σ H fun c H1 => if c = true then Q true H1 else u σ H1 Q
def tNot (t : TT) : TT := fun σ H Q => t σ H fun c H1 => Q (!c) H1
theorem pw_or1 (ha : PT X a tA) : PW X (.BoolOp .Or [a] pos) tA := by
  intro wh pins s σ H Q I h
  refine isTrue_or (thn (ha pins s σ H Q I h) fun c s1 e => ?_)
  cases c with
  | false => exact isTrue_or_nil e
  | true => exact e
theorem pw_or (ha : PT X a tA) (hb : PW X (.BoolOp .Or (b :: rest) pos) tB') : PW X (.BoolOp .Or (a :: b :: rest) pos) (tOr tA tB') := by
  intro wh pins s σ H Q I h
  refine isTrue_or (thn (ha pins s σ H _ I h) fun c s1 ⟨H1, I1, q1⟩ => ?_)
  cases c with
  | true => exact ⟨H1, I1, q1⟩
  | false => exact hb wh pins s1 σ H1 Q I1 q1
theorem pt_not (ha : PT X a tA) : PT X (.UnaryOp .Not a pos) (tNot tA) := by
  intro pins s σ H Q I h
  exact isTrue_not (ha pins s σ H (fun c H1 => Q (!c) H1) I h)
/-- .. as values (bools) -/
def tAndV (ta tb : TE) : TE := fun σ H Q => ta σ H fun x H1 => ∃ c, x = .bl c ∧ if c = true then tb σ H1 Q else Q (.bl false) H1
def tOrV (ta tb : TE) : TE := fun σ H Q => ta σ H fun x H1 => ∃ c, x = .bl c ∧ if c = true then Q (.bl true) H1 else tb σ H1 Q
theorem pe_one {op} {t : TE} (h : PE X a t) : PE X (.BoolOp op [a] pos) t := fun pins s σ H Q I hw => BoolOp_one (h pins s σ H Q I hw)
theorem pe_and (ha : PE X a ta) (hb : PE X (.BoolOp .And (b :: rest) pos) tb) : PE X (.BoolOp .And (a :: b :: rest) pos) (tAndV ta tb) := by
  intro pins s σ H Q I h
  refine BoolOp_and (thn (ha pins s σ H _ I h) fun v s1 ⟨x, H1, I1, r1, q1⟩ => ?_)
  obtain ⟨c, rfl, q1⟩ := q1
  cases r1
  refine wpAny_truthy_bool ?_
  cases c with
  | true => exact hb pins s1 σ H1 Q I1 q1
  | false => exact ⟨.bl false, H1, I1, rfl, q1⟩
theorem pe_or (ha : PE X a ta) (hb : PE X (.BoolOp .Or (b :: rest) pos) tb) : PE X (.BoolOp .Or (a :: b :: rest) pos) (tOrV ta tb) := by
  intro pins s σ H Q I h
  refine BoolOp_or (thn (ha pins s σ H _ I h) fun v s1 ⟨x, H1, I1, r1, q1⟩ => ?_)
  obtain ⟨c, rfl, q1⟩ := q1
  cases r1
  refine wpAny_truthy_bool ?_
  cases c with
  | false => exact hb pins s1 σ H1 Q I1 q1
  | true => exact ⟨.bl true, H1, I1, rfl, q1⟩
end
end L2
namespace L2
open PySem PySem.Spec PyProof.Rows
/-! ### a list, a tuple that is read: tracked, frozen, or an object of the module -/
def SqL (K : PySem.W.Frag) (H : Hp) (a : Addr) (xs : List V) : Prop :=
  Rd H a (.lst xs) ∨
    ∃ (o : Obj) (its : Array Value) (n : Nat), K.lookup a = some o ∧ o.cls = .type "list" ∧ o.dict = none ∧ o.data = .seq its n ∧ its.size ≤ sizeLine ∧ Vals xs its.toList
def SqT (K : PySem.W.Frag) (H : Hp) (a : Addr) (xs : List V) : Prop :=
  Rd H a (.tup xs) ∨
    ∃ (o : Obj) (its : Array Value) (n : Nat), K.lookup a = some o ∧ o.cls = .type "tuple" ∧ o.data = .seq its n ∧ its.size ≤ sizeLine ∧ Vals xs its.toList
def absV : Value → Option V
  | .none => some .non
  | .bool b => some (.bl b)
  | .int i _ => some (.int i)
  | .str x _ => some (.str x)
  | .bytes b _ => some (.byt b)
  | .float b _ => some (.flt b)
  | .ref a => some (.ref a)
  | .type n => some (.ty n)
  | _ => none
theorem RelV.abs {x : V} {u : Value} (r : RelV x u) : absV u = some x := by
  cases x with
  | non => cases r; rfl
  | bl _ => cases r; rfl
  | int _ => obtain ⟨t, rfl⟩ := r; rfl
  | str _ => obtain ⟨t, rfl⟩ := r; rfl
  | byt _ => obtain ⟨t, rfl⟩ := r; rfl
  | flt _ => obtain ⟨t, rfl⟩ := r; rfl
  | ref _ => cases r; rfl
  | ty _ => cases r; rfl
theorem RelV.inj {x y : V} {u : Value} (r : RelV x u) (q : RelV y u) : x = y := Option.some.inj (r.abs.symm.trans q.abs)
theorem Vals.inj : ∀ {xs ys : List V} {us : List Value}, Vals xs us → Vals ys us → xs = ys
  | _, _, _, .nil, .nil => rfl
  | _, _, _, .cons r t, .cons r' t' => by rw [r.inj r', Vals.inj t t']
section
variable {X : Cx} {pins : List (Addr × Obj)} {σ : St} {H : Hp} {s : Shared} {a : Addr} {xs ys : List V}
theorem SqL.of {K : PySem.W.Frag} (h : H a = some (.lst xs)) : SqL K H a xs := .inl (.inl h)
theorem SqT.of {K : PySem.W.Frag} (h : H a = some (.tup xs)) : SqT K H a xs := .inl (.inl h)
theorem Inv.list (I : Inv X pins σ H s) (h : SqL X.K H a xs) : ∃ its : List Value, Vals xs its ∧ PlainL s.heap a its.toArray ∧ xs.length ≤ sizeLine := by
  rcases h with h | ⟨o, its, n, hk, hc, hd, hs, hz, r⟩
  · obtain ⟨z, its, n, r, e⟩ := h.ok I.hok
    exact ⟨its, r, ⟨_, n, e, rfl, rfl, rfl⟩, z⟩
  · refine ⟨its.toList, r, ⟨o, n, I.kIn a o hk, hc, hd, by simpa using hs⟩, ?_⟩
    have e := r.length
    simp only [Array.length_toList] at e
    omega
theorem Inv.tuple (I : Inv X pins σ H s) (h : SqT X.K H a xs) : ∃ its : List Value, Vals xs its ∧ IsTup s.heap a its.toArray ∧ xs.length ≤ sizeLine := by
  rcases h with h | ⟨o, its, n, hk, hc, hs, hz, r⟩
  · obtain ⟨z, its, r, p⟩ := h.ok I.hok
    exact ⟨its, r, p, z⟩
  · refine ⟨its.toList, r, ⟨o, I.kIn a o hk, hc, n, by simpa using hs⟩, ?_⟩
    have e := r.length
    simp only [Array.length_toList] at e
    omega
theorem Inv.list_inj (I : Inv X pins σ H s) (h : SqL X.K H a xs) (h' : SqL X.K H a ys) : xs = ys := by
  obtain ⟨its, r, ⟨o, n, e, _, _, d⟩, _⟩ := I.list h
  obtain ⟨its', r', ⟨o', n', e', _, _, d'⟩, _⟩ := I.list h'
  rw [e] at e'; cases e'
  rw [d] at d'
  injection d' with d1 _
  have : its = its' := by simpa using congrArg Array.toList d1
  subst this
  exact r.inj r'
theorem Inv.tuple_inj (I : Inv X pins σ H s) (h : SqT X.K H a xs) (h' : SqT X.K H a ys) : xs = ys := by
  obtain ⟨its, r, ⟨o, e, _, n, d⟩, _⟩ := I.tuple h
  obtain ⟨its', r', ⟨o', e', _, n', d'⟩, _⟩ := I.tuple h'
  rw [e] at e'; cases e'
  rw [d] at d'
  injection d' with d1 _
  have : its = its' := by simpa using congrArg Array.toList d1
  subst this
  exact r.inj r'
end
/-! ### another wish about exceptions -/
abbrev Cx.wish (X : Cx) (E : Value → Shared → Prop) : Cx := { X with xe := E }
/-- no exception leaves -/
abbrev Cx.nox (X : Cx) : Cx := X.wish fun _ _ => False
theorem Cx.Ok.wish {X : Cx} (ok : X.Ok) (E : Value → Shared → Prop) : (X.wish E).Ok :=
  ⟨ok.mod, ok.kind, ok.glob, ok.blt, ok.above, ok.inj, ok.has, ok.cab, ok.hd, ok.frames, ok.stk, ok.exf, ok.bs, ok.bsz, ok.noex, ok.exfs, ok.funs, ok.frf⟩
theorem Cx.Ok.unwish {X : Cx} {E : Value → Shared → Prop} (ok : (X.wish E).Ok) : X.Ok :=
  ⟨ok.mod, ok.kind, ok.glob, ok.blt, ok.above, ok.inj, ok.has, ok.cab, ok.hd, ok.frames, ok.stk, ok.exf, ok.bs, ok.bsz, ok.noex, ok.exfs, ok.funs, ok.frf⟩
section
variable {X : Cx} {pins : List (Addr × Obj)} {σ : St} {H : Hp} {s : Shared} {E : Value → Shared → Prop}
theorem Inv.wish (I : Inv X pins σ H s) (E : Value → Shared → Prop) : Inv (X.wish E) pins σ H s := ⟨I.ok.wish E, I.os, I.bare, I.base, I.loc, I.cell, I.free, I.freeC, I.pin, I.hok, I.len⟩
theorem Inv.unwish (I : Inv (X.wish E) pins σ H s) : Inv X pins σ H s := ⟨I.ok.unwish, I.os, I.bare, I.base, I.loc, I.cell, I.free, I.freeC, I.pin, I.hok, I.len⟩
theorem SP.unwish {D : Ends} {f : Flow} {s' : Shared} (h : SP (X.wish E) pins D f s') : SP X pins D f s' := by
  cases f with
  | next => obtain ⟨σ', H', I, q⟩ := h; exact ⟨σ', H', I.unwish, q⟩
  | brk => obtain ⟨σ', H', I, q⟩ := h; exact ⟨σ', H', I.unwish, q⟩
  | cont => obtain ⟨σ', H', I, q⟩ := h; exact ⟨σ', H', I.unwish, q⟩
  | ret u => obtain ⟨v, σ', H', I, r, q⟩ := h; exact ⟨v, σ', H', I.unwish, r, q⟩
theorem PE.nox {e : Expr} {t : TE} (h : PE X.nox e t) : PE X e t := fun pins s σ H Q I hw =>
  wpAny_mono (h pins s σ H Q (I.wish _) hw) (fun _ _ ⟨v, H', I', r, q⟩ => ⟨v, H', I'.unwish, r, q⟩) fun _ _ z => False.elim z
theorem PT.nox {e : Expr} {t : TT} (h : PT X.nox e t) : PT X e t := fun pins s σ H Q I hw =>
  wpAny_mono (h pins s σ H Q (I.wish _) hw) (fun _ _ ⟨H', I', q⟩ => ⟨H', I'.unwish, q⟩) fun _ _ z => False.elim z
theorem PSs.nox {st : List Stmt} {t : TS} (h : PSs X.nox st t) : PSs X st t := fun pins s σ H D I hw =>
  wpAny_mono (h pins s σ H D (I.wish _) hw) (fun _ _ q => q.unwish) fun _ _ z => False.elim z
end
/-! ### blocks and small statements -/
section
variable {X : Cx} {st : Stmt} {rest : List Stmt} {t u : TS} {e : Expr} {te : TE} {pos : Pos}
def tNext : TS := fun D σ H => D.nx σ H
def tSeq (t u : TS) : TS := fun D σ H => t { D with nx := u D } σ H
theorem pss_nil : PSs X [] tNext := fun _ _ σ H _ I h => wpAny_execs_nil ⟨σ, H, I, h⟩
theorem pss_cons (h1 : PS X st t) (h2 : PSs X rest u) : PSs X (st :: rest) (tSeq t u) := by
  intro pins s σ H D I h
  refine wpAny_execs_cons (thn (h1 pins s σ H { D with nx := u D } I h) fun f s1 q => ?_)
  cases f with
  | next =>
    obtain ⟨σ', H', I', q⟩ := q
    exact h2 pins s1 σ' H' D I' q
  | ret v => exact q
  | brk => exact q
  | cont => exact q
theorem pss_one (h1 : PS X st t) : PSs X [st] t := by
  intro pins s σ H D I h
  refine wpAny_execs_cons (thn (h1 pins s σ H D I h) fun f s1 q => ?_)
  cases f with
  | next => exact wpAny_execs_nil q
  | ret v => exact q
  | brk => exact q
  | cont => exact q
/-- in a def's body nothing is shown -/
theorem Inv.quiet {pins : List (Addr × Obj)} {σ : St} {H : Hp} {s : Shared} (I : Inv X pins σ H s) : interactive X.env = false := by simp [interactive, I.ok.kind]
/-- an expression whose value is dropped -/
def tDrop (te : TE) : TS := fun D σ H => te σ H fun _ H1 => D.nx σ H1
theorem ps_expr (he : PE X e te) (hs : swapsWith e none pos.line X.env = pure false := by rfl) : PS X (.Expr e pos) (tDrop te) := by
  intro pins s σ H D I h
  exact wpAny_Expr_any (thn (he pins s σ H _ I h) fun v s1 ⟨x, H1, I1, r1, q1⟩ => ⟨σ, H1, I1, q1⟩) I.quiet hs
def tRet (te : TE) : TS := fun D σ H => te σ H D.rt
theorem ps_ret (he : PE X e te) : PS X (.Return (some e) pos) (tRet te) := by
  intro pins s σ H D I h
  exact wpAny_Return_some (thn (he pins s σ H _ I h) fun v s1 ⟨x, H1, I1, r1, q1⟩ => ⟨x, σ, H1, I1, r1, q1⟩)
def tIfS (c : TT) (t u : TS) : TS := fun D σ H => c σ H fun b H1 => if b = true then t D σ H1 else u D σ H1
theorem ps_if {c : Expr} {a b : List Stmt} {tc : TT} (hc : PT X c tc) (ha : PSs X a t) (hb : PSs X b u) : PS X (.If c a b pos) (tIfS tc t u) := by
  intro pins s σ H D I h
  refine wpAny_If (thn (hc pins s σ H _ I h) fun d s1 ⟨H1, I1, q1⟩ => ?_)
  cases d with
  | true => exact ha pins s1 σ H1 D I1 q1
  | false => exact hb pins s1 σ H1 D I1 q1
end
/-! ### targets -/
abbrev TG := V → St → Hp → (St → Hp → Prop) → Prop
abbrev TGs := List V → St → Hp → (St → Hp → Prop) → Prop
def PG (X : Cx) (target : Expr) (t : TG) : Prop :=
  ∀ (pins : List (Addr × Obj)) (s : Shared) (σ : St) (H : Hp) (v : V) (u : Value) (Q : St → Hp → Prop), Inv X pins σ H s → RelV v u → t v σ H Q →
    wpAny (model X.prog X.w) X.A (assign target X.env u) (fun _ s' => ∃ σ' H', Inv X pins σ' H' s' ∧ Q σ' H') X.xe s
/-- several targets, one after another -/
def PGs (X : Cx) (ts : List Expr) (t : TGs) : Prop :=
  ∀ (pins : List (Addr × Obj)) (s : Shared) (σ : St) (H : Hp) (vs : List V) (us : List Value) (Q : St → Hp → Prop), Inv X pins σ H s → Vals vs us → t vs σ H Q →
    wpAny (model X.prog X.w) X.A (assignInOrder ((assignEach ts X.env).map (·.2)) us) (fun _ s' => ∃ σ' H', Inv X pins σ' H' s' ∧ Q σ' H') X.xe s
/-- o[i] = v, by values -/
abbrev TSet := V → V → V → Hp → (Hp → Prop) → Prop
def PSet (X : Cx) (t : TSet) : Prop :=
  ∀ (pins : List (Addr × Obj)) (s : Shared) (σ : St) (H : Hp) (o i v : V) (ov iv u : Value) (Q : Hp → Prop), Inv X pins σ H s → RelV o ov → RelV i iv → RelV v u → t o i v H Q →
    wpAny (model X.prog X.w) X.A (setItem ov iv u) (fun _ s' => ∃ H', Inv X pins σ H' s' ∧ Q H') X.xe s
/-- a op= b, by values -/
abbrev TIp := V → V → Hp → VK → Prop
def PIp (X : Cx) (op : Operator) (t : TIp) : Prop :=
  ∀ (pins : List (Addr × Obj)) (s : Shared) (σ : St) (H : Hp) (x y : V) (v u : Value) (Q : VK), Inv X pins σ H s → RelV x v → RelV y u → t x y H Q →
    wpAny (model X.prog X.w) X.A (inplaceOp op v u) (EP X pins σ Q) X.xe s
section
variable {X : Cx} {pos : Pos}
def gName (i : Nat) : TG := fun v σ H Q => Q (σ.set i (some v)) H
theorem pg_name {i : Nat} {x : Str} (hN : X.N.Nodup) (hi : X.N[i]? = some x) (hx : Loc X.env.scope x) (hf : X.fn x = true ∨ X.env.scope.names.lookup x = some .local := by first | exact .inl rfl | exact .inr rfl | assumption) : PG X (.Name x pos) (gName i) := by
  intro pins s σ H v u Q I r h
  exact wpAny_assign_Name (store_ok I hN hi hx r (fun s' I' => ⟨_, H, I', h⟩) hf)
def gNil : TGs := fun vs σ H Q => vs = [] ∧ Q σ H
def gCons (t : TG) (u : TGs) : TGs := fun vs σ H Q => ∃ v r, vs = v :: r ∧ t v σ H fun σ' H' => u r σ' H' Q
theorem pgs_nil : PGs X [] gNil := by
  intro pins s σ H vs us Q I r h
  obtain ⟨e, h⟩ := h
  subst e
  cases r
  exact assignInOrder_nil ⟨σ, H, I, h⟩
theorem pgs_cons {e : Expr} {es : List Expr} {t : TG} {u : TGs} (h1 : PG X e t) (h2 : PGs X es u)
    (hs : (assignEach (e :: es) X.env).map (·.2) = assign e X.env :: (assignEach es X.env).map (·.2) := by rfl) : PGs X (e :: es) (gCons t u) := by
  intro pins s σ H vs us Q I r h
  obtain ⟨v, vr, e1, h⟩ := h
  subst e1
  cases r with
  | cons r rr =>
    rw [hs]
    refine assignInOrder_cons (thn (h1 pins s σ H _ _ _ I r h) fun _ s1 ⟨σ1, H1, I1, q1⟩ => ?_)
    exact h2 pins s1 σ1 H1 _ _ Q I1 rr q1
/-- (a, b, ..) = a tuple of that length -/
def gTup (K : PySem.W.Frag) (n : Nat) (t : TGs) : TG := fun v σ H Q => ∃ a xs, v = .ref a ∧ SqT K H a xs ∧ xs.length = n ∧ t xs σ H Q
theorem pg_tup {es : List Expr} {k : Nat} {t : TGs} {n : Nat} (hc : X.calm = true) (h : PGs X es t)
    (hn : (assignEach es X.env).length = n := by rfl) (hst : (assignEach es X.env).findIdx? (·.1) = none := by rfl) : PG X (.Tuple es k pos) (gTup X.K n t) := by
  intro pins s σ H v u Q I r hw
  obtain ⟨a, xs, e1, hq, hl, hw⟩ := hw
  subst e1
  cases r
  obtain ⟨its, rv, ht, hz⟩ := I.tuple hq
  refine assign_Tuple_tuple (I.ok.hd hc) ht (by simp [hn, ← hl, rv.length]) hst fun h' hx => ?_
  have I1 : Inv X pins σ H { s with heap := h' } := I.kept (t' := s.toks) fun b o e => hx b o (Nat.ne_of_lt (Heap.lt_size e)) e
  exact h pins _ σ H xs _ Q I1 (by simpa using rv) hw
/-- o[i] = .. -/
def gSub (to ti : TE) (t : TSet) : TG := fun v σ H Q => to σ H fun o H1 => ti σ H1 fun i H2 => t o i v H2 fun H3 => Q σ H3
theorem pg_sub {o i : Expr} {to ti : TE} {t : TSet} (ho : PE X o to) (hi : PE X i ti) (hs : PSet X t)
    (ha : ∀ v, assign (.Subscript o i pos) X.env v = (do
      let ov ← holding [v] (eval o X.env)
      let iv ← holding [v, ov] (eval i X.env)
      standAt pos
      holding [v, ov, iv] (setItem ov iv v)
      release [v, ov, iv] []) := by intro _; rfl) : PG X (.Subscript o i pos) (gSub to ti t) := by
  intro pins s σ H v u Q I r h
  rw [ha]
  refine wpAny_bind (wpAny_holding (thn (ho pins s σ H _ I h) fun ov s1 ⟨x, H1, I1, r1, q1⟩ => ?_))
  refine wpAny_bind (wpAny_holding (thn (hi pins s1 σ H1 _ I1 q1) fun iv s2 ⟨y, H2, I2, r2, q2⟩ => ?_))
  refine wpAny_bind (wpAny_standAt (wpAny_bind (wpAny_holding (thn (hs pins s2 σ H2 x y v ov iv u _ I2 r1 r2 r q2) fun _ s3 ⟨H3, I3, q3⟩ => ?_))))
  exact wpAny_release ⟨σ, H3, I3, q3⟩
/-- target = value -/
def tAsg (te : TE) (g : TG) : TS := fun D σ H => te σ H fun x H1 => g x σ H1 D.nx
theorem ps_asg {tg e : Expr} {te : TE} {g : TG} (he : PE X e te) (hg : PG X tg g) (hs : swapsWithSole [tg] e pos.line X.env = pure false := by rfl) (hw : swappedStores [tg] e X.env = pure none := by rfl)
    (h1 : (assignEach [tg] X.env).map (·.2) = [assign tg X.env] := by rfl) : PS X (.Assign [tg] e pos) (tAsg te g) := by
  intro pins s σ H D I h
  refine wpAny_Assign_stores (thn (he pins s σ H _ I h) fun v s1 ⟨x, H1, I1, r1, q1⟩ => ?_) hs hw
  rw [h1]
  exact thn (hg pins s1 σ H1 x v _ I1 r1 q1) fun _ s2 q => q
/-- name = value -/
theorem ps_set {i : Nat} {x : Str} {e : Expr} {te : TE} {pos' : Pos} (hN : X.N.Nodup) (hi : X.N[i]? = some x) (hx : Loc X.env.scope x) (he : PE X e te) (hs : swapsWith e (some (.Name x pos')) pos.line X.env = pure false := by rfl) (hf : X.fn x = true ∨ X.env.scope.names.lookup x = some .local := by first | exact .inl rfl | exact .inr rfl | assumption) :
    PS X (.Assign [.Name x pos'] e pos) (tAsg te (gName i)) := by
  intro pins s σ H D I h
  refine wpAny_Assign_Name (thn (he pins s σ H _ I h) fun v s1 ⟨y, H1, I1, r1, q1⟩ => ?_) hs
  exact store_ok I1 hN hi hx r1 (fun s2 I2 => ⟨_, H1, I2, q1⟩) hf
/-- ints -/
def ipI (f : Int → Int → Int) : TIp := fun x y H Q => ∃ i j, x = .int i ∧ y = .int j ∧ Q (.int (f i j)) H
theorem ip_add : PIp X .Add (ipI fun i j => i + j) := by
  intro pins s σ H x y v u Q I r1 r2 h
  obtain ⟨i, j, e1, e2, q⟩ := h
  subst e1; subst e2
  obtain ⟨t, rfl⟩ := r1
  obtain ⟨t', rfl⟩ := r2
  exact iadd_int ⟨.int _, H, I.tok _, ⟨_, rfl⟩, q⟩
theorem ip_sub : PIp X .Sub (ipI fun i j => i - j) := by
  intro pins s σ H x y v u Q I r1 r2 h
  obtain ⟨i, j, e1, e2, q⟩ := h
  subst e1; subst e2
  obtain ⟨t, rfl⟩ := r1
  obtain ⟨t', rfl⟩ := r2
  exact isub_int ⟨.int _, H, I.tok _, ⟨_, rfl⟩, q⟩
end
/-! ### while -/
section
variable {X : Cx} {pos : Pos}
/-- the invariant W with its measure -/
def tWhile (c : TT) (tb : TS) : TS := fun D σ H => ∃ W : Nat → St → Hp → Prop, (∃ m, W m σ H) ∧ ∀ m σ H, W m σ H →
  c σ H fun b H1 => if b = true then ∃ N : St → Hp → Prop, (∀ σ' H', N σ' H' → ∃ m', m' < m ∧ W m' σ' H') ∧ tb { D with nx := N, ct := N, bk := D.nx } σ H1 else D.nx σ H1
theorem ps_while {c : Expr} {body : List Stmt} {tc : TT} {tb : TS} (hp : PassesOwn (model X.prog X.w) X.A X.env X.xe) (hc : PT X c tc) (hb : PSs X body tb) : PS X (.While c body [] pos) (tWhile tc tb) := by
  intro pins s σ H D I h
  obtain ⟨W, ⟨m0, w0⟩, turn⟩ := h
  refine wpAny_While (codeAny_whileLoop (fun n s' => ∃ σ' H', Inv X pins σ' H' s' ∧ W n σ' H') ?_ m0 ⟨σ, H, I, w0⟩)
  rintro n s1 ⟨σ1, H1, I1, w1⟩
  refine wpAny_passesOwn hp (thn (hc pins s1 σ1 H1 _ I1 (turn n σ1 H1 w1)) fun b s2 ⟨H2, I2, q2⟩ => ?_)
  cases b with
  | true =>
    obtain ⟨N, hN, q2⟩ := q2
    rw [if_pos rfl]
    refine wpAny_passesOwn hp (thn (hb pins s2 σ1 H2 _ I2 q2) fun f s3 q3 => ?_)
    cases f with
    | next =>
      obtain ⟨σ3, H3, I3, n3⟩ := q3
      obtain ⟨m', hm, w3⟩ := hN σ3 H3 n3
      exact ⟨m', hm, σ3, H3, I3, w3⟩
    | cont =>
      obtain ⟨σ3, H3, I3, n3⟩ := q3
      obtain ⟨m', hm, w3⟩ := hN σ3 H3 n3
      exact ⟨m', hm, σ3, H3, I3, w3⟩
    | brk => exact q3
    | ret v => exact q3
  | false =>
    rw [if_neg Bool.false_ne_true]
    exact wpAny_execs_nil ⟨σ1, H2, I2, q2⟩
end
/-! ### what a loop or a comprehension walks -/
/-- at turn i: it yields x (the heap may grow), or it stops -/
structure It where
  go : Nat → Hp → Prop
  yld : Nat → Hp → V → Hp → Prop
  stop : Nat → Hp → Prop
/-- the iterator's own objects may turn: they are not the frame's, not pinned, younger than the entry (or a comprehension's own) -/
def FpOk (X : Cx) (pins : List (Addr × Obj)) (H : Hp) (b : Addr) : Prop :=
  H b = none ∧ b ≠ X.env.locals ∧ b ∉ X.fs ∧ (b ∈ X.ex ∨ X.s₀.heap.objs.size ≤ b) ∧ (∀ x c, X.env.cells.lookup x = some c → c ≠ b) ∧ ∀ p ∈ X.pn ++ pins, p.1 ≠ b
theorem Inv.fpOk {X : Cx} {pins : List (Addr × Obj)} {σ : St} {H H' : Hp} {s : Shared} {b : Addr} (I : Inv X pins σ H s) (hb : s.heap.objs.size ≤ b) (hn : H' b = none) : FpOk X pins H' b := by
  refine ⟨hn, Nat.ne_of_gt (Nat.lt_of_lt_of_le I.lt hb), I.nofs hb, .inr (Nat.le_trans I.sz hb), fun x c e z => ?_, fun p hp z => ?_⟩
  · obtain ⟨v, q⟩ := I.cell x c e
    exact absurd (Nat.lt_of_lt_of_le q.lt (by rw [z]; exact hb)) (Nat.lt_irrefl _)
  · exact absurd (Nat.lt_of_lt_of_le (Heap.lt_size (I.pin p hp).1) (by rw [z]; exact hb)) (Nat.lt_irrefl _)
structure Turn (P : Program) (w : World) (K : PySem.W.Frag) (tg : Expr) (J : It) (fp : List Addr) (it : Addr) (tn : Nat → Heap → Prop) : Prop where
  mem : it ∈ fp
  obj : ∀ i h, tn i h → ∀ b ∈ fp, ∃ o, h.get? b = some o ∧ ∀ v, o.data ≠ .cell v
  keep : ∀ i h h', tn i h → (∀ b ∈ fp, ∀ o, h.get? b = some o → h'.get? b = some o) → tn i h'
  item : ∀ (X : Cx), X.prog = P → X.w = w → X.K = K → X.calm = true → ∀ (i : Nat) (pins : List (Addr × Obj)) (s : Shared) (σ : St) (H : Hp) (E : Value → Shared → Prop), Inv X pins σ H s → (∀ b ∈ fp, FpOk X pins H b) → tn i s.heap → J.go i H →
    wpAny (model P w) X.A (pyNext (.ref it)) (fun r s1 => ∃ u, r = some u ∧
      wpAny (model P w) X.A (letOwnedTupleGo tg (.ref it) u) (fun _ s2 => ∃ x H', Inv X pins σ H' s2 ∧ RelV x u ∧ J.yld i H x H' ∧ tn (i + 1) s2.heap ∧ ∀ b ∈ fp, H' b = none) E s1) E s
  done : ∀ (X : Cx), X.prog = P → X.w = w → X.K = K → X.calm = true → ∀ (i : Nat) (pins : List (Addr × Obj)) (s : Shared) (σ : St) (H : Hp) (E : Value → Shared → Prop), Inv X pins σ H s → (∀ b ∈ fp, FpOk X pins H b) → tn i s.heap → J.stop i H →
    wpAny (model P w) X.A (pyNext (.ref it)) (fun r s1 => r = none ∧ Inv X pins σ H s1) E s
  self : ∀ (A : Around) (i : Nat) (s : Shared) (Q : Value → Shared → Prop) (E : Value → Shared → Prop), tn i s.heap → Q (.ref it) s → wpAny (model P w) A (pyIter (.ref it)) Q E s
abbrev TI := St → Hp → (It → Hp → Prop) → Prop
/-- an iterator has come -/
def PIE (X : Cx) (pins : List (Addr × Obj)) (σ : St) (tg : Expr) (R : It → Hp → Prop) (itv : Value) (s2 : Shared) : Prop :=
  ∃ (it : Addr) (fp : List Addr) (tn : Nat → Heap → Prop) (J : It) (H' : Hp), itv = .ref it ∧ Inv X pins σ H' s2 ∧ Turn X.prog X.w X.K tg J fp it tn ∧ tn 0 s2.heap ∧ (∀ b ∈ fp, FpOk X pins H' b) ∧ R J H'
def PI (X : Cx) (tg iter : Expr) (wi : TI) : Prop :=
  ∀ (pins : List (Addr × Obj)) (s : Shared) (σ : St) (H : Hp) (R : It → Hp → Prop), Inv X pins σ H s → wi σ H R →
    wpAny (model X.prog X.w) X.A (eval iter X.env) (fun v s1 => wpAny (model X.prog X.w) X.A (pyIter v) (PIE X pins σ tg R) X.xe s1) X.xe s
/-- the step ahead of the store is nothing for an iterator that keeps no tuple -/
theorem go_of {M : Model} {A : Around} {E : Value → Shared → Prop} {s : Shared} {tg : Expr} {it : Addr} {u : Value} {o : Obj} {n : String} {vs : Array Value} {Q : Unit → Shared → Prop} (ho : s.heap.get? it = some o) (hc : o.cls = .type n) (hd : o.data = .fields vs)
    (hn : ["enumerate", "zip", "dict_itemiterator", "dict_reverseitemiterator", "odict_iterator", "itertools.zip_longest", "itertools.pairwise"].contains n = false) (hQ : Q () s) : wpAny M A (letOwnedTupleGo tg (.ref it) u) Q E s := by
  unfold letOwnedTupleGo
  cases tg <;> first
    | exact wpAny_pure hQ
    | (cases u <;> first
        | exact wpAny_pure hQ
        | (refine wpAny_bind (wpAny_load ho ?_)
           rw [hc, hd]
           show wpAny M A (if (["enumerate", "zip", "dict_itemiterator", "dict_reverseitemiterator", "odict_iterator", "itertools.zip_longest", "itertools.pairwise"].contains n && vs[0]? == some (rawInt _)) = true then _ else _) Q E s
           rw [if_neg (by intro h; rw [hn, Bool.false_and] at h; cases h)]
           exact wpAny_pure hQ))
/-- the list at a, as it stands at each turn (a loop may append to it) -/
def Itl (K : PySem.W.Frag) (a : Addr) : It :=
  ⟨fun i H => ∃ xs x, SqL K H a xs ∧ xs[i]? = some x, fun i H x H' => H' = H ∧ ∀ xs, SqL K H a xs → xs[i]? = some x, fun i H => ∃ xs, SqL K H a xs ∧ xs.length ≤ i⟩
def Itt (K : PySem.W.Frag) (a : Addr) : It :=
  ⟨fun i H => ∃ xs x, SqT K H a xs ∧ xs[i]? = some x, fun i H x H' => H' = H ∧ ∀ xs, SqT K H a xs → xs[i]? = some x, fun i H => ∃ xs, SqT K H a xs ∧ xs.length ≤ i⟩
/-- lo, lo + 1, .. (n of them) -/
def Itr (lo : Int) (n : Nat) : It := ⟨fun i _ => i < n, fun i H x H' => H' = H ∧ x = .int (lo + i), fun i _ => n ≤ i⟩
theorem turn_list {P : Program} {w : World} {K : PySem.W.Frag} {tg : Expr} (a it : Addr) : Turn P w K tg (Itl K a) [it] it (fun i h => h.IsListIter it a i) where
  mem := by simp
  obj := fun i h st b hb => by
    have e : b = it := by simpa using hb
    subst e
    obtain ⟨o, e, c, d⟩ := st
    exact ⟨o, e, fun v z => by rw [d] at z; cases z⟩
  keep := fun i h h' st k => st.at fun o e => k it (by simp) o e
  item := by
    intro X hP hw hK hc i pins s σ H E I hf st hg
    subst hP hw hK
    obtain ⟨xs, x, hq, hx⟩ := hg
    obtain ⟨its, rv, p, hz⟩ := I.list hq
    obtain ⟨u, hu, ru⟩ := rv.get hx
    obtain ⟨f0, f1, f2, f3, f4, f5⟩ := hf it (by simp)
    refine wpAny_pyNext_list_item st p.isList (x := u) (by simpa using hu) fun h' st' sb => ?_
    have I1 : Inv X pins σ H { s with heap := h' } := I.turned (t' := s.toks) (fun b o hb e => (sb.2 b hb).trans e) f0 f1 f3 f4 f5
    obtain ⟨o, e, c, d⟩ := id st'
    exact ⟨u, rfl, go_of (s := { s with heap := h' }) e c d (by decide) ⟨x, H, I1, ru, ⟨rfl, fun ys hy => by rw [I.list_inj hy hq]; exact hx⟩, st', fun b hb => (hf b hb).1⟩⟩
  done := by
    intro X hP hw hK hc i pins s σ H E I hf st hg
    subst hP hw hK
    obtain ⟨xs, hq, hx⟩ := hg
    obtain ⟨its, rv, p, hz⟩ := I.list hq
    obtain ⟨f0, f1, f2, f3, f4, f5⟩ := hf it (by simp)
    have hl := rv.length
    exact wpAny_pyNext_list_end (I.ok.hd hc) st p.isList (by simp; omega) fun h' eb => ⟨rfl, I.turned (t' := s.toks) (fun b o hb e => eb b o hb e) f0 f1 f3 f4 f5⟩
  self := fun _ _ _ _ _ st h => wpAny_pyIter_listiter st h
theorem turn_tuple {P : Program} {w : World} {K : PySem.W.Frag} {tg : Expr} (a it : Addr) : Turn P w K tg (Itt K a) [it] it (fun i h => h.IsTupleIter it a i) where
  mem := by simp
  obj := fun i h st b hb => by
    have e : b = it := by simpa using hb
    subst e
    obtain ⟨o, e, c, d⟩ := st
    exact ⟨o, e, fun v z => by rw [d] at z; cases z⟩
  keep := fun i h h' st k => st.at fun o e => k it (by simp) o e
  item := by
    intro X hP hw hK hc i pins s σ H E I hf st hg
    subst hP hw hK
    obtain ⟨xs, x, hq, hx⟩ := hg
    obtain ⟨its, rv, p, hz⟩ := I.tuple hq
    obtain ⟨u, hu, ru⟩ := rv.get hx
    obtain ⟨f0, f1, f2, f3, f4, f5⟩ := hf it (by simp)
    refine wpAny_pyNext_tuple_item st (show s.heap.IsTuple a its.toArray from p) (x := u) (by simpa using hu) fun h' st' sb => ?_
    have I1 : Inv X pins σ H { s with heap := h' } := I.turned (t' := s.toks) (fun b o hb e => (sb.2 b hb).trans e) f0 f1 f3 f4 f5
    obtain ⟨o, e, c, d⟩ := id st'
    exact ⟨u, rfl, go_of (s := { s with heap := h' }) e c d (by decide) ⟨x, H, I1, ru, ⟨rfl, fun ys hy => by rw [I.tuple_inj hy hq]; exact hx⟩, st', fun b hb => (hf b hb).1⟩⟩
  done := by
    intro X hP hw hK hc i pins s σ H E I hf st hg
    subst hP hw hK
    obtain ⟨xs, hq, hx⟩ := hg
    obtain ⟨its, rv, p, hz⟩ := I.tuple hq
    obtain ⟨f0, f1, f2, f3, f4, f5⟩ := hf it (by simp)
    have hl := rv.length
    exact wpAny_pyNext_tuple_end (I.ok.hd hc) st (show s.heap.IsTuple a its.toArray from p) (by simp; omega) fun h' eb => ⟨rfl, I.turned (t' := s.toks) (fun b o hb e => eb b o hb e) f0 f1 f3 f4 f5⟩
  self := fun _ _ _ _ _ st h => wpAny_pyIter_tupleiter st h
theorem turn_range {P : Program} {w : World} {K : PySem.W.Frag} {tg : Expr} (it : Addr) (lo : Int) (n : Nat) : Turn P w K tg (Itr lo n) [it] it (fun i h => IsRangeIter h it (lo + (i : Nat) * 1) ((n : Int) - (i : Nat)) 1) where
  mem := by simp
  obj := fun i h st b hb => by
    have e : b = it := by simpa using hb
    subst e
    exact ⟨_, st, fun v z => by
      have z' : Data.fields _ = Data.cell v := z
      cases z'⟩
  keep := fun i h h' st k => k it (by simp) _ st
  item := by
    intro X hP hw hK hc i pins s σ H E I hf st hg
    subst hP hw hK
    obtain ⟨f0, f1, f2, f3, f4, f5⟩ := hf it (by simp)
    have W := Walks.range (prog := X.prog) (w := X.w) (I.ok.hd hc) it lo 1 n
    refine W.item i s _ _ hg st fun v h' tk hv st' kk => ?_
    obtain ⟨t, rfl⟩ := hv
    have I1 : Inv X pins σ H { s with heap := h', toks := tk } := I.turned (fun b o hb e => kk b o (by simpa using hb) e) f0 f1 f3 f4 f5
    refine ⟨_, rfl, go_of (s := { s with heap := h', toks := tk }) (n := "range_iterator") st' rfl rfl (by decide) ⟨.int (lo + i), H, I1, ⟨t, ?_⟩, ⟨rfl, rfl⟩, st', fun b hb => (hf b hb).1⟩⟩
    rw [Int.mul_one]
  done := by
    intro X hP hw hK hc i pins s σ H E I hf st hg
    subst hP hw hK
    obtain ⟨f0, f1, f2, f3, f4, f5⟩ := hf it (by simp)
    exact wpAny_pyNext_range_end (I.ok.hd hc) st (by have : n ≤ i := hg; omega) fun h' eb => ⟨rfl, I.turned (t' := s.toks) (fun b o hb e => eb b o hb e) f0 f1 f3 f4 f5⟩
  self := fun _ _ _ _ _ st h => wpAny_pyIter_rangeiter st h
end L2
namespace L2
open PySem PySem.Spec PyProof.Rows
section
variable {X : Cx} {tg : Expr}
def iList (K : PySem.W.Frag) (tl : TE) : TI := fun σ H R => tl σ H fun x H1 => ∃ a, x = .ref a ∧ (∃ xs, SqL K H1 a xs) ∧ R (Itl K a) H1
def iTup (K : PySem.W.Frag) (tl : TE) : TI := fun σ H R => tl σ H fun x H1 => ∃ a, x = .ref a ∧ (∃ xs, SqT K H1 a xs) ∧ R (Itt K a) H1
theorem pi_list {l : Expr} {tl : TE} (hl : PE X l tl) : PI X tg l (iList X.K tl) := by
  intro pins s σ H R I h
  refine thn (hl pins s σ H _ I h) fun v s1 ⟨x, H1, I1, r1, q1⟩ => ?_
  obtain ⟨a, e, ⟨xs, hq⟩, q⟩ := q1
  subst e
  cases r1
  obtain ⟨its, rv, p, hz⟩ := I1.list hq
  refine wpAny_pyIter_list p.isList ?_
  refine ⟨s1.heap.objs.size, [s1.heap.objs.size], _, _, H1, rfl, I1.kept (t' := s1.toks) fun b o e => Heap.get?_push_of_some _ e, turn_list a _, ⟨_, Heap.get?_push_size _ rfl, rfl, rfl⟩, fun b hb => ?_, q⟩
  have e : b = s1.heap.objs.size := by simpa using hb
  subst e
  exact I1.fpOk (Nat.le_refl _) (I1.hok.fresh (Nat.le_refl _))
theorem pi_tup {l : Expr} {tl : TE} (hl : PE X l tl) : PI X tg l (iTup X.K tl) := by
  intro pins s σ H R I h
  refine thn (hl pins s σ H _ I h) fun v s1 ⟨x, H1, I1, r1, q1⟩ => ?_
  obtain ⟨a, e, ⟨xs, hq⟩, q⟩ := q1
  subst e
  cases r1
  obtain ⟨its, rv, p, hz⟩ := I1.tuple hq
  refine wpAny_pyIter_tuple (show s1.heap.IsTuple a its.toArray from p) ?_
  refine ⟨s1.heap.objs.size, [s1.heap.objs.size], _, _, H1, rfl, I1.kept (t' := s1.toks) fun b o e => Heap.get?_push_of_some _ e, turn_tuple a _, ⟨_, Heap.get?_push_size _ rfl, rfl, rfl⟩, fun b hb => ?_, q⟩
  have e : b = s1.heap.objs.size := by simpa using hb
  subst e
  exact I1.fpOk (Nat.le_refl _) (I1.hok.fresh (Nat.le_refl _))
/-- a range object just made, walked -/
theorem range_it {pins : List (Addr × Obj)} {σ : St} {H : Hp} {s : Shared} {R : It → Hp → Prop} {E : Value → Shared → Prop} {lo hi : Int} {t u v : Tok} {tk : Nat} (I : Inv X pins σ H s) (h1 : -(2 ^ 62) ≤ lo) (h2 : lo < 2 ^ 62) (h3 : -(2 ^ 62) ≤ hi) (h4 : hi < 2 ^ 62)
    (q : R (Itr lo (hi - lo).toNat) H) : wpAny (model X.prog X.w) X.A (pyIter (.ref s.heap.objs.size)) (PIE X pins σ tg R) E { s with heap := s.heap.push { cls := .type "range", data := .fields #[.int lo t, .int hi u, .int 1 v] }, toks := tk } := by
  refine wpAny_pyIter_range (IsRange.new ..) (small_one h1 h2 h3 h4) ?_
  have I1 : Inv X pins σ H { s with heap := s.heap.push { cls := .type "range", data := .fields #[.int lo t, .int hi u, .int 1 v] }, toks := tk } := I.kept fun b o e => Heap.get?_push_of_some _ e
  refine ⟨(s.heap.push { cls := .type "range", data := .fields #[.int lo t, .int hi u, .int 1 v] }).objs.size, [(s.heap.push { cls := .type "range", data := .fields #[.int lo t, .int hi u, .int 1 v] }).objs.size], _, _, H, rfl,
    I1.kept (t' := tk) fun b o e => Heap.get?_push_of_some _ e, turn_range _ lo (hi - lo).toNat, ?_, fun b hb => ?_, q⟩
  · have e1 : lo + ((0 : Nat) : Int) * 1 = lo := by simp
    have e2 : (((hi - lo).toNat : Nat) : Int) - ((0 : Nat) : Int) = Builtin.Range.rangeSize lo hi 1 := by rw [rangeSize_one]; split <;> omega
    show IsRangeIter _ _ (lo + ((0 : Nat) : Int) * 1) ((((hi - lo).toNat : Nat) : Int) - ((0 : Nat) : Int)) 1
    rw [e1, e2]
    exact Heap.get?_push_size _ rfl
  · have e : b = (s.heap.push { cls := .type "range", data := .fields #[.int lo t, .int hi u, .int 1 v] }).objs.size := by simpa using hb
    subst e
    exact I1.fpOk (Nat.le_refl _) (I1.hok.fresh (Nat.le_refl _))
def iRng1 (ta : TA) : TI := fun σ H R => ta σ H fun vs H1 => ∃ j : Int, vs = [.int j] ∧ -(2 ^ 62) ≤ j ∧ j < 2 ^ 62 ∧ R (Itr 0 j.toNat) H1
theorem pi_range1 {a : Expr} {ta : TA} {p pos : Pos} (hg : Gl X "range") (hm : X.mg "range" = none) (ha : PA X [a] ta) (hs : starEach [a] X.env = [(false, eval a X.env)] := by rfl) : PI X tg (.Call (.Name "range" p) [a] [] pos) (iRng1 ta) := by
  intro pins s σ H R I h
  refine Call_ (ld_blt I hg hm boot_range (PyProof.Rows.callWith_type1 (thn (ha pos pins s σ H _ I h) fun us s1 ⟨vs, H1, I1, r1, q1⟩ => ?_) hs rfl))
  obtain ⟨j, e, q1, q2, q⟩ := q1
  subst e
  cases r1 with
  | cons r rr =>
    cases rr
    obtain ⟨t, rfl⟩ := r
    exact call_range_1 (range_it I1 (by omega) (by omega) q1 q2 (by simpa using q))
/-! ### for -/
/-- W: the invariant by the turn and a measure; N: what the body is to reach -/
def tFor (wi : TI) (g : TG) (tb : TS) : TS := fun D σ H => wi σ H fun J H1 => ∃ W : Nat → Nat → St → Hp → Prop, (∃ m, W 0 m σ H1) ∧ ∀ i m σ H, W i m σ H →
  (J.stop i H ∧ D.nx σ H) ∨ (J.go i H ∧ ∃ N : St → Hp → Prop, (∀ σ' H', N σ' H' → ∃ m', m' < m ∧ W (i + 1) m' σ' H') ∧ ∀ x H', J.yld i H x H' → g x σ H' fun σ2 H2 => tb { D with nx := N, ct := N, bk := D.nx } σ2 H2)
/-- the records at fp as they stand -/
def pinsAt (fp : List Addr) (h : Heap) : List (Addr × Obj) := fp.filterMap fun b => (h.get? b).map fun o => (b, o)
theorem mem_pinsAt {fp : List Addr} {h : Heap} {b : Addr} {o : Obj} (hb : b ∈ fp) (e : h.get? b = some o) : (b, o) ∈ pinsAt fp h := List.mem_filterMap.mpr ⟨b, hb, by rw [e]; rfl⟩
theorem of_pinsAt {fp : List Addr} {h : Heap} {p : Addr × Obj} (hp : p ∈ pinsAt fp h) : p.1 ∈ fp ∧ h.get? p.1 = some p.2 := by
  obtain ⟨b, hb, e⟩ := List.mem_filterMap.mp hp
  cases q : h.get? b with
  | none => rw [q] at e; cases e
  | some o =>
    rw [q] at e
    have e' : (b, o) = p := Option.some.inj e
    subst e'
    exact ⟨hb, q⟩
theorem Inv.pinned {pins : List (Addr × Obj)} {σ : St} {H : Hp} {s : Shared} {fp : List Addr} (I : Inv X pins σ H s) (hf : ∀ b ∈ fp, FpOk X pins H b) (ho : ∀ b ∈ fp, ∃ o, s.heap.get? b = some o ∧ ∀ v, o.data ≠ .cell v) : Inv X (pins ++ pinsAt fp s.heap) σ H s :=
  I.pins_of fun p hp => (List.mem_append.mp hp).elim (fun z => I.pin p (List.mem_append_right _ z)) fun z => by
    obtain ⟨hb, e⟩ := of_pinsAt z
    obtain ⟨f0, f1, f2, _⟩ := hf p.1 hb
    obtain ⟨o, e', d⟩ := ho p.1 hb
    rw [e] at e'; cases e'
    exact ⟨e, f0, f1, f2, d⟩
theorem Inv.unpinned {pins pl : List (Addr × Obj)} {σ : St} {H : Hp} {s : Shared} (I : Inv X (pins ++ pl) σ H s) : Inv X pins σ H s := I.pins_of fun p hp => I.pin p (List.mem_append_right _ (List.mem_append_left _ hp))
theorem ps_for {iter : Expr} {body : List Stmt} {wi : TI} {g : TG} {tb : TS} {pos : Pos} (hp : PassesOwn (model X.prog X.w) X.A X.env X.xe) (hc : X.calm = true) (hi : PI X tg iter wi) (hg : PG X tg g) (hb : PSs X body tb)
    (hs : ∀ x, foldedSetIterable iter X.env x = pure x := by intro _; rfl) : PS X (.For tg iter body [] pos) (tFor wi g tb) := by
  intro pins s σ H D I h
  refine wpAny_For (thn (hi pins s σ H _ I h) fun v s1 h1 => thn h1 fun itv s2 h2 => ?_) hs
  obtain ⟨it, fp, tn, J, H2, e, I2, T, st2, f2, W, ⟨m0, w0⟩, turn⟩ := h2
  subst e
  -- what stays true of the iterator's objects through the loop
  have stat : ∀ {H' : Hp}, (∀ b ∈ fp, H' b = none) → ∀ b ∈ fp, FpOk X pins H' b := fun hn b hb => ⟨hn b hb, (f2 b hb).2⟩
  refine codeAny_forLoop_any (fun n s' => ∃ i σ' H', Inv X pins σ' H' s' ∧ tn i s'.heap ∧ (∀ b ∈ fp, H' b = none) ∧ W i n σ' H') ?_ m0 ⟨0, σ, H2, I2, st2, fun b hb => (f2 b hb).1, w0⟩
  rintro n s3 ⟨i, σ3, H3, I3, st3, fr3, w3⟩
  rcases turn i n σ3 H3 w3 with ⟨stop, qn⟩ | ⟨go, N, hN, step⟩
  · refine wpAny_passesOwn hp (thn (T.done X rfl rfl rfl hc i pins s3 σ3 H3 X.xe I3 (stat fr3) st3 stop) fun r s4 ⟨hr, I4⟩ => ?_)
    subst hr
    exact wpAny_execs_nil ⟨σ3, H3, I4, qn⟩
  · refine wpAny_passesOwn hp (thn (T.item X rfl rfl rfl hc i pins s3 σ3 H3 X.xe I3 (stat fr3) st3 go) fun r s4 ⟨u, hr, h4⟩ => ?_)
    subst hr
    refine wpAny_passesOwn hp (thn h4 fun _ s5 ⟨x, H5, I5, r5, y5, st5, fr5⟩ => ?_)
    have I5' := I5.pinned (stat fr5) (T.obj _ _ st5)
    refine wpAny_passesOwn hp (thn (hg _ s5 σ3 H5 x u _ I5' r5 (step x H5 y5)) fun _ s6 ⟨σ6, H6, I6, q6⟩ => ?_)
    refine wpAny_passesOwn hp (thn (hb _ s6 σ6 H6 _ I6 q6) fun f s7 q7 => ?_)
    have again : ∀ {σ7 : St} {H7 : Hp}, Inv X (pins ++ pinsAt fp s5.heap) σ7 H7 s7 → N σ7 H7 → ∃ m, m < n ∧ ∃ i σ' H', Inv X pins σ' H' s7 ∧ tn i s7.heap ∧ (∀ b ∈ fp, H' b = none) ∧ W i m σ' H' := fun {σ7 H7} I7 n7 => by
      obtain ⟨m', hm, w7⟩ := hN σ7 H7 n7
      refine ⟨m', hm, i + 1, σ7, H7, I7.unpinned, T.keep _ _ _ st5 fun b hb o e => (I7.pin (b, o) (List.mem_append_right _ (List.mem_append_right _ (mem_pinsAt hb e)))).1, fun b hb => ?_, w7⟩
      obtain ⟨o, e, d⟩ := T.obj _ _ st5 b hb
      exact (I7.pin (b, o) (List.mem_append_right _ (List.mem_append_right _ (mem_pinsAt hb e)))).2.1
    cases f with
    | next => obtain ⟨σ7, H7, I7, n7⟩ := q7; exact again I7 n7
    | cont => obtain ⟨σ7, H7, I7, n7⟩ := q7; exact again I7 n7
    | brk => obtain ⟨σ7, H7, I7, q7⟩ := q7; exact ⟨σ7, H7, I7.unpinned, q7⟩
    | ret v => obtain ⟨x7, σ7, H7, I7, r7, q7⟩ := q7; exact ⟨x7, σ7, H7, I7.unpinned, r7, q7⟩
end
/-! ### the forms one uses -/
end L2
namespace L2
open PySem PySem.Spec PyProof.Rows
abbrev R2 := V → V → Hp → VK → Prop
/-- a two-place operation on values: f is binaryOp op, inplaceOp op or compareOp op -/
def OpR (X : Cx) (f : Value → Value → Sem Value) (r : R2) : Prop :=
  ∀ (pins : List (Addr × Obj)) (s : Shared) (σ : St) (H : Hp) (x y : V) (v u : Value) (Q : VK), Inv X pins σ H s → RelV x v → RelV y u → r x y H Q →
    wpAny (model X.prog X.w) X.A (f v u) (EP X pins σ Q) X.xe s
/-- a call of a value that is known (a builtin, a type) with values -/
def CallR (X : Cx) (f : Value) (r : List V → Hp → VK → Prop) : Prop :=
  ∀ (pins : List (Addr × Obj)) (s : Shared) (σ : St) (H : Hp) (xs : List V) (us : List Value) (Q : VK), Inv X pins σ H s → Vals xs us → r xs H Q →
    wpAny (model X.prog X.w) X.A (call f us) (EP X pins σ Q) X.xe s
def tOp (r : R2) (ta tb : TE) : TE := fun σ H Q => ta σ H fun x H1 => tb σ H1 fun y H2 => r x y H2 Q
/-- ints in, under C, and a value out -/
def rI (C : Int → Int → Prop) (g : Int → Int → V) : R2 := fun x y H Q => ∃ i j, x = .int i ∧ y = .int j ∧ C i j ∧ Q (g i j) H
def rI0 (g : Int → Int → V) : R2 := fun x y H Q => ∃ i j, x = .int i ∧ y = .int j ∧ Q (g i j) H
section
variable {X : Cx} {a b c : Expr} {ta tb tc : TE} {pos : Pos}
theorem binT (ha : PE X a ta) (hb : PE X b tb) {pins : List (Addr × Obj)} {s : Shared} {σ : St} {H : Hp} {R : V → V → Hp → Prop} (I : Inv X pins σ H s)
    (h : ta σ H fun x H1 => tb σ H1 fun y H2 => R x y H2) {Q : Value → Shared → Prop} {f : Value → Value → Sem Value}
    (hf : ∀ v u s2 x y H2, Inv X pins σ H2 s2 → RelV x v → RelV y u → R x y H2 → wpAny (model X.prog X.w) X.A (f v u) Q X.xe s2) :
    wpAny (model X.prog X.w) X.A (eval a X.env) (fun v s₁ => wpAny (model X.prog X.w) X.A (eval b X.env) (fun u s₂ => wpAny (model X.prog X.w) X.A (f v u) Q X.xe s₂) X.xe s₁) X.xe s := by
  refine thn (ha pins s σ H _ I h) fun v s1 ⟨x, H1, I1, r1, q1⟩ => ?_
  refine thn (hb pins s1 σ H1 _ I1 q1) fun u s2 ⟨y, H2, I2, r2, q2⟩ => ?_
  exact hf v u s2 x y H2 I2 r1 r2 q2
theorem pe_op {op : Operator} {r : R2} (ho : OpR X (binaryOp op) r) (ha : PE X a ta) (hb : PE X b tb) : PE X (.BinOp a op b pos) (tOp r ta tb) := by
  intro pins s σ H Q I h
  exact wpAny_BinOp (binT ha hb I h fun v u s2 x y H2 I2 rx ry q => ho pins s2 σ H2 x y v u Q I2 rx ry q)
/-! ### ints -/
theorem opI {f : Value → Value → Sem Value} {C : Int → Int → Prop} {g : Int → Int → Int}
    (rule : ∀ (i j : Int) (t u : Tok) (s : Shared) (Q : Value → Shared → Prop) (E : Value → Shared → Prop), C i j → Q (.int (g i j) s.toks) { s with toks := s.toks + 1 } → wpAny (model X.prog X.w) X.A (f (.int i t) (.int j u)) Q E s) :
    OpR X f (rI C fun i j => .int (g i j)) := by
  intro pins s σ H x y v u Q I rx ry h
  obtain ⟨i, j, rfl, rfl, hc, q⟩ := h
  obtain ⟨t, rfl⟩ := rx
  obtain ⟨t', rfl⟩ := ry
  exact rule i j t t' s _ _ hc ⟨.int (g i j), H, I.tok _, ⟨_, rfl⟩, q⟩
theorem opI0 {f : Value → Value → Sem Value} {g : Int → Int → Int}
    (rule : ∀ (i j : Int) (t u : Tok) (s : Shared) (Q : Value → Shared → Prop) (E : Value → Shared → Prop), Q (.int (g i j) s.toks) { s with toks := s.toks + 1 } → wpAny (model X.prog X.w) X.A (f (.int i t) (.int j u)) Q E s) :
    OpR X f (rI0 fun i j => .int (g i j)) := by
  intro pins s σ H x y v u Q I rx ry h
  obtain ⟨i, j, rfl, rfl, q⟩ := h
  obtain ⟨t, rfl⟩ := rx
  obtain ⟨t', rfl⟩ := ry
  exact rule i j t t' s _ _ ⟨.int (g i j), H, I.tok _, ⟨_, rfl⟩, q⟩
theorem opB0 {f : Value → Value → Sem Value} {g : Int → Int → Bool}
    (rule : ∀ (i j : Int) (t u : Tok) (s : Shared) (Q : Value → Shared → Prop) (E : Value → Shared → Prop), Q (.bool (g i j)) s → wpAny (model X.prog X.w) X.A (f (.int i t) (.int j u)) Q E s) :
    OpR X f (rI0 fun i j => .bl (g i j)) := by
  intro pins s σ H x y v u Q I rx ry h
  obtain ⟨i, j, rfl, rfl, q⟩ := h
  obtain ⟨t, rfl⟩ := rx
  obtain ⟨t', rfl⟩ := ry
  exact rule i j t t' s _ _ ⟨.bl (g i j), H, I, rfl, q⟩
def CPow (i j : Int) : Prop := 0 ≤ j ∧ j ≤ 1000000 ∧ i.natAbs < 2 ^ 64
def CMul (i j : Int) : Prop := (-(2 ^ 64) < i ∧ i < 2 ^ 64) ∨ (-(2 ^ 64) < j ∧ j < 2 ^ 64)
theorem CMul.ok {i j : Int} (h : CMul i j) : IntMulOk i j := by
  rcases h with ⟨h1, h2⟩ | ⟨h1, h2⟩
  · exact .of_left (intBits_le_64 h1 h2)
  · exact .of_right (intBits_le_64 h1 h2)
theorem op_add : OpR X (binaryOp .Add) (rI0 fun i j => .int (i + j)) := opI0 fun _ _ _ _ _ _ _ q => add_int q
theorem op_sub : OpR X (binaryOp .Sub) (rI0 fun i j => .int (i - j)) := opI0 fun _ _ _ _ _ _ _ q => sub_int q
/-- % by a positive divisor of any size -/
theorem op_mod : OpR X (binaryOp .Mod) (rI (fun _ j => 0 < j) fun i j => .int (i % j)) := opI fun i j _ _ _ _ _ hc q => by
  have h1 : (0 : Int) < j := hc
  exact mod_int' (by omega) (by rw [Int.fmod_eq_emod_of_nonneg i (by omega)]; exact q)
theorem op_pow : OpR X (binaryOp .Pow) (rI CPow fun i j => .int (i ^ j.toNat)) := opI fun _ _ _ _ _ _ _ hc q => pow_int_small hc.1 hc.2.1 hc.2.2 q
/-! ### bools among ints: n += (a < b) -/
end
/-! ### comparisons -/
section
variable {X : Cx} {a b c : Expr} {ta tb tc : TE} {pos : Pos}
theorem fin_bl {pins : List (Addr × Obj)} {σ : St} {H : Hp} {s : Shared} {Q : VK} {k k' : Bool} (I : Inv X pins σ H s) (q : Q (.bl k) H) (e : k = k') : EP X pins σ Q (.bool k') s := by
  subst e
  exact ⟨.bl k, H, I, rfl, q⟩
theorem op_lt : OpR X (compareOp .Lt) (rI0 fun i j => .bl (decide (i < j))) := opB0 fun _ _ _ _ _ _ _ q => lt_int q
theorem op_le : OpR X (compareOp .LtE) (rI0 fun i j => .bl (decide (i ≤ j))) := opB0 fun _ _ _ _ _ _ _ q => le_int q
theorem op_gt : OpR X (compareOp .Gt) (rI0 fun i j => .bl (decide (j < i))) := opB0 fun _ _ _ _ _ _ _ q => gt_int q
theorem op_ge : OpR X (compareOp .GtE) (rI0 fun i j => .bl (decide (j ≤ i))) := opB0 fun _ _ _ _ _ _ _ q => ge_int q
theorem op_lt_str : OpR X (compareOp .Lt) (fun x y H Q => ∃ i j, x = .str i ∧ y = .str j ∧ Q (.bl (decide (i.cps.toList < j.cps.toList))) H) := by
  intro pins s σ H x y v u Q I rx ry h
  obtain ⟨i, j, rfl, rfl, q⟩ := h
  obtain ⟨t, rfl⟩ := rx
  obtain ⟨t', rfl⟩ := ry
  exact lt_str (fin_bl I q rfl)
theorem op_notN : OpR X (compareOp .IsNot) (fun x y H Q => y = .non ∧ Q (.bl (!decide (x = .non))) H) := by
  intro pins s σ H x y v u Q I rx ry h
  obtain ⟨rfl, q⟩ := h
  cases ry
  refine isnot_none_gen (fin_bl I q ?_)
  cases x <;> first
    | (cases rx; rfl)
    | (obtain ⟨t, rfl⟩ := rx; rfl)
/-- two rules for one operation: by cases -/
theorem OpR.or {f : Value → Value → Sem Value} {r r' : R2} (h : OpR X f r) (h' : OpR X f r') : OpR X f (fun x y H Q => r x y H Q ∨ r' x y H Q) := by
  intro pins s σ H x y v u Q I rx ry q
  rcases q with q | q
  · exact h pins s σ H x y v u Q I rx ry q
  · exact h' pins s σ H x y v u Q I rx ry q
theorem nomark (b : Expr) {op : CmpOp} (h : op ≠ .In := by decide) (h2 : op ≠ .NotIn := by decide) : behindInMarks op b = false := by
  have e1 : (op == CmpOp.In) = false := by cases op <;> first | rfl | exact absurd rfl h
  have e2 : (op == CmpOp.NotIn) = false := by cases op <;> first | rfl | exact absurd rfl h2
  cases b <;> simp [behindInMarks, e1, e2]
/-- a comparison as a value; hm: nomark b, or (for in, not in) by with_unfolding_all rfl -/
theorem pe_cmpR {op : CmpOp} {r : R2} (ho : OpR X (compareOp op) r) (ha : PE X a ta) (hb : PE X b tb) (hm : behindInMarks op b = false) : PE X (.Compare a [op] [b] pos) (tOp r ta tb) := by
  intro pins s σ H Q I h
  exact wpAny_Compare1 (binT ha hb I h fun v u s2 x y H2 I2 rx ry q => ho pins s2 σ H2 x y v u Q I2 rx ry q) hm
/-- a reading of a value as a test -/
def tTest (t : TE) : TT := fun σ H Q => t σ H fun x H' => ∃ k, x = .bl k ∧ Q k H'
theorem pt_cmpR {op : CmpOp} {r : R2} (ho : OpR X (compareOp op) r) (ha : PE X a ta) (hb : PE X b tb) (hm : behindInMarks op b = false) : PT X (.Compare a [op] [b] pos) (tTest (tOp r ta tb)) := by
  intro pins s σ H Q I h
  refine wpAny_isTrue_Compare1 (thn (ha pins s σ H _ I h) fun v s1 ⟨x, H1, I1, r1, q1⟩ => thn (hb pins s1 σ H1 _ I1 q1) fun u s2 ⟨y, H2, I2, r2, q2⟩ =>
    thn (ho pins s2 σ H2 x y v u _ I2 r1 r2 q2) fun c s3 ⟨z, H3, I3, r3, k, e, q3⟩ => ?_) hm
  subst e
  cases r3
  exact wpAny_truthy_bool ⟨H3, I3, q3⟩
/-- a op1 b op2 c -/
def tChain (r r' : R2) (ta tb tc : TE) : TE := fun σ H Q => ta σ H fun x H1 => tb σ H1 fun y H2 => r x y H2 fun z H3 => ∃ k, z = .bl k ∧
  (if k = true then tc σ H3 fun w' H4 => r' y w' H4 Q else Q (.bl false) H3)
theorem pt_chain {op op' : CmpOp} {r r' : R2} (ho : OpR X (compareOp op) r) (ho' : OpR X (compareOp op') r') (ha : PE X a ta) (hb : PE X b tb) (hc : PE X c tc)
    (hm : lastMarks [op, op'] [b, c] = false := by with_unfolding_all rfl) : PT X (.Compare a [op, op'] [b, c] pos) (tTest (tChain r r' ta tb tc)) := by
  intro pins s σ H Q I h
  refine isTrue_chain (thn (ha pins s σ H _ I h) fun v s1 ⟨x, H1, I1, r1, q1⟩ => test_link (thn (hb pins s1 σ H1 _ I1 q1) fun u s2 ⟨y, H2, I2, r2, q2⟩ =>
    thn (ho pins s2 σ H2 x y v u _ I2 r1 r2 q2) fun d s3 ⟨z, H3, I3, r3, k, e, q3⟩ => ?_)) hm
  subst e
  cases r3
  refine wpAny_truthy_bool ?_
  cases k with
  | false =>
    obtain ⟨k', e', q'⟩ := q3
    cases e'
    exact ite_ff ⟨H3, I3, q'⟩
  | true =>
    refine ite_tt (test_last (thn (hc pins s3 σ H3 _ I3 q3) fun w' s4 ⟨z', H4, I4, r4, q4⟩ => thn (ho' pins s4 σ H4 y z' u w' _ I4 r2 r4 q4) fun d' s5 ⟨z2, H5, I5, r5, k2, e2, q5⟩ => ?_))
    subst e2
    cases r5
    exact wpAny_truthy_bool ⟨H5, I5, q5⟩
/-! ### truth -/
theorem line63 : (sizeLine : Nat) < 2 ^ 63 := by rw [sizeLine_eq]; decide
/-! ### strs and bytes -/
theorem op_add_str : OpR X (binaryOp .Add) (fun x y H Q => ∃ i j, x = .str i ∧ y = .str j ∧ i.length + j.length ≤ sizeLine ∧ Q (.str (i ++ j)) H) := by
  intro pins s σ H x y v u Q I rx ry h
  obtain ⟨i, j, rfl, rfl, hz, q⟩ := h
  obtain ⟨t, rfl⟩ := rx
  obtain ⟨t', rfl⟩ := ry
  exact add_str (fun t' tk => ⟨.str (i ++ j), H, I.tok _, ⟨_, rfl⟩, q⟩) hz
theorem iop_add_str : OpR X (inplaceOp .Add) (fun x y H Q => ∃ i j, x = .str i ∧ y = .str j ∧ i.length + j.length ≤ sizeLine ∧ Q (.str (i ++ j)) H) := by
  intro pins s σ H x y v u Q I rx ry h
  obtain ⟨i, j, rfl, rfl, hz, q⟩ := h
  obtain ⟨t, rfl⟩ := rx
  obtain ⟨t', rfl⟩ := ry
  exact iadd_str (fun t' tk => ⟨.str (i ++ j), H, I.tok _, ⟨_, rfl⟩, q⟩) hz
/-! ### scalar builtins, by CallR -/
theorem vals1 {x : V} {us : List Value} (r : Vals [x] us) : ∃ u, us = [u] ∧ RelV x u := by
  cases r with
  | cons r1 r2 => cases r2; exact ⟨_, rfl, r1⟩
theorem vals2 {x y : V} {us : List Value} (r : Vals [x, y] us) : ∃ u w', us = [u, w'] ∧ RelV x u ∧ RelV y w' := by
  cases r with
  | cons r1 r2 =>
    cases r2 with
    | cons r3 r4 => cases r4; exact ⟨_, _, rfl, r1, r3⟩
theorem call_max2 (hc : X.calm = true) : CallR X (.builtin "max") (fun xs H Q => ∃ i j, xs = [.int i, .int j] ∧ Q (.int (if j > i then j else i)) H) := by
  intro pins s σ H xs us Q I r h
  obtain ⟨i, j, rfl, q⟩ := h
  obtain ⟨u, w', rfl, ⟨t, rfl⟩, ⟨t', rfl⟩⟩ := vals2 r
  refine max_two_ints (I.ok.hd hc) fun h' tk k => ⟨_, H, I.kept k, ?_, q⟩
  by_cases hj : j > i
  · rw [if_pos hj, if_pos hj]; exact ⟨_, rfl⟩
  · rw [if_neg hj, if_neg hj]; exact ⟨_, rfl⟩
theorem call_min2 (hc : X.calm = true) : CallR X (.builtin "min") (fun xs H Q => ∃ i j, xs = [.int i, .int j] ∧ Q (.int (if j < i then j else i)) H) := by
  intro pins s σ H xs us Q I r h
  obtain ⟨i, j, rfl, q⟩ := h
  obtain ⟨u, w', rfl, ⟨t, rfl⟩, ⟨t', rfl⟩⟩ := vals2 r
  refine min_two_ints (I.ok.hd hc) fun h' tk k => ⟨_, H, I.kept k, ?_, q⟩
  by_cases hj : j < i
  · rw [if_pos hj, if_pos hj]; exact ⟨_, rfl⟩
  · rw [if_neg hj, if_neg hj]; exact ⟨_, rfl⟩
end
end L2
namespace L2
open PySem PySem.Spec PyProof.Rows
/-! ### an instance, its attributes a map -/
structure ObjM (h : Heap) (x dx C : Addr) (mA : Str → Option Value) : Prop where
  obj : h.get? x = some (PySem.W.instObj C dx)
  ns : h.Ns1 dx mA
  ne : dx ≠ x
section
variable {prog : Program} {w : World} {A : Around} {E : Value → Shared → Prop} {s : Shared} {K : PySem.W.Frag} {x dx C f : Addr} {mA : Str → Option Value} {name : Str} {v : Value}
end
/-! ### the attributes as a list of pairs -/
section
variable {P : Program} {w : World} {H H' : Hp} {h h' : Heap} {a C dx : Addr} {fs fs' : List (Str × V)}
end
/-! ### what of the text a class must have -/
structure Cls (K : PySem.W.Frag) (C : Addr) : Prop where
  pg : PySem.W.plainGet K C Str.empty = true
  hd : PySem.W.hasDictIn K C = true
  po : PySem.W.plainOver K C = true
  sa : PySem.W.findIn K (.ref C) "__setattr__" = some (some (.builtin "object.__setattr__"))
theorem Cls.get {K : PySem.W.Frag} {C : Addr} (c : Cls K C) (f : Str) : PySem.W.plainGet K C f = true := c.pg
/-- a constant of the class -/
structure Con (K : PySem.W.Frag) (C : Addr) (f : Str) (v : V) (u : Value) : Prop where
  at_ : PySem.W.findIn K (.ref C) f = some (some u)
  rel : RelV v u
  get : PySem.W.specialIn K u "__get__" = some none
  cp : PySem.W.copiedNames.contains f = false
/-- a method: a plain def of the class or of one above it -/
structure Meth (K : PySem.W.Frag) (C : Addr) (m : Str) (f : Addr) : Prop where
  at_ : PySem.W.findIn K (.ref C) m = some (some (.ref f))
  fn : PySem.W.isFn K (.ref f) = true
  kp : PySem.W.keepIn K (.ref f) = true
section
variable {X : Cx} {pins : List (Addr × Obj)} {σ : St} {H : Hp} {s : Shared} {a C dx : Addr} {fs : List (Str × V)} {f : Str} {v : V} {A : Around} {E : Value → Shared → Prop}
/-- a new instance, tracked, without attributes -/
theorem Inv.made (I : Inv X pins σ H s) : Inv X pins σ (upd (upd H s.heap.objs.size (.own (s.heap.objs.size + 1))) (s.heap.objs.size + 1) (.ins C s.heap.objs.size []))
    { s with heap := (s.heap.push PySem.W.emptyDict).push (PySem.W.instObj C s.heap.objs.size) } := by
  have e1 : (s.heap.push PySem.W.emptyDict).get? s.heap.objs.size = some PySem.W.emptyDict := Heap.get?_push_size s.heap rfl
  have e2 : ((s.heap.push PySem.W.emptyDict).push (PySem.W.instObj C s.heap.objs.size)).get? (s.heap.objs.size + 1) = some (PySem.W.instObj C s.heap.objs.size) := by
    have := Heap.get?_push_size (s.heap.push PySem.W.emptyDict) (o := PySem.W.instObj C s.heap.objs.size) rfl
    rwa [Heap.size_push] at this
  have e3 : (s.heap.push PySem.W.emptyDict).Ns s.heap.objs.size (fun _ => none) := ⟨PySem.W.emptyDict, #[], _, e1, rfl, (fun e he => absurd he (by simp)), fun _ => rfl⟩
  have I1 := I.laid (a := s.heap.objs.size) (o := .own (s.heap.objs.size + 1)) (h' := s.heap.push PySem.W.emptyDict) (t' := s.toks) (fun b u q => Heap.get?_push_of_some _ q) (Nat.le_refl _) ⟨_, e1⟩
  refine I1.laid (a := s.heap.objs.size + 1) (o := .ins C s.heap.objs.size []) (t' := s.toks) (fun b u q => Heap.get?_push_of_some _ q) (Nat.le_of_eq (Heap.size_push _ _)) ?_
  have ne : s.heap.objs.size ≠ s.heap.objs.size + 1 := Nat.ne_of_lt (Nat.lt_succ_self _)
  refine ⟨by rw [upd_ne ne, upd_same], Nat.zero_le _, ne, e2, fun _ => none, (Heap.Ns1.of_empty e3).at fun o q => Heap.get?_push_of_some _ q, fun _ => True.intro, fun y hy => absurd rfl hy⟩
end
/-! ### readings and rules -/
section
variable {X : Cx} {o e value : Expr} {f : Str} {pos pos' tpos : Pos} {ta tv : TE}
end
/-! ### isinstance -/
section
variable {X : Cx} {pins : List (Addr × Obj)} {σ : St} {H : Hp} {s : Shared} {A : Around} {E : Value → Shared → Prop} {Q : Value → Shared → Prop} {c : Value} {b : Bool}
/-- the type of a value, as the fragment's deciders take it; for an instance its class -/
inductive TyOf (K : PySem.W.Frag) (H : Hp) : V → Value → Prop where
  | non : TyOf K H .non (.type "NoneType")
  | bl (x : Bool) : TyOf K H (.bl x) (.type "bool")
  | int (i : Int) : TyOf K H (.int i) (.type "int")
  | str (x : Str) : TyOf K H (.str x) (.type "str")
  | flt (x : UInt64) : TyOf K H (.flt x) (.type "float")
  | lst {a : Addr} {xs : List V} (e : H a = some (.lst xs)) : TyOf K H (.ref a) (.type "list")
  | frz {a : Addr} {o : Obj} {xs : List V} (e : H a = some (.frz o (.lst xs))) : TyOf K H (.ref a) (.type "list")
  | tup {a : Addr} {xs : List V} (e : H a = some (.tup xs)) : TyOf K H (.ref a) (.type "tuple")
  | dK {a : Addr} {kvs : List (Key × V)} (e : H a = some (.dK kvs)) : TyOf K H (.ref a) (.type "dict")
  | dT {a : Addr} {kvs : List (List Key × V)} (e : H a = some (.dT kvs)) : TyOf K H (.ref a) (.type "dict")
  | ins {a C dx : Addr} {fs : List (Str × V)} (e : H a = some (.ins C dx fs)) (cl : Cls K C) (ha : PySem.W.findIn K (.ref C) "__class__" = some (some (.builtin "object.__class__")))
      (hn : PySem.W.specialIn K (.builtin "object.__class__") "__get__" = some (some (.builtin "getset_descriptor.__get__"))) (htk : PySem.W.takesIn K (.builtin "object.__class__") = some true)
      (hm : PySem.W.mroIn K C (.type "object") = some true) : TyOf K H (.ref a) (.ref C)
end
end L2
namespace L2
open PySem PySem.Spec PyProof.Rows
/-! ### room -/
structure Room (k : Nat) (A : Around) : Prop where
  hd : A.handled = none
  dp : A.depth + 3 * k + 5 < recursionLimit
  un : A.units + 16 * k + 200 < cLine
theorem Room.mono {j k : Nat} {A : Around} (r : Room k A) (h : j ≤ k) : Room j A := ⟨r.hd, by have := r.dp; omega, by have := r.un; omega⟩
theorem Room.deeper {k : Nat} {A : Around} (r : Room (k + 1) A) (env : Env) : Room k (A.deeper env) :=
  ⟨r.hd, by have := r.dp; show A.depth + 1 + 3 * k + 5 < _; omega, by have := r.un; show A.units + 3 + 16 * k + 200 < _; omega⟩
theorem Room.in1 {k : Nat} {A : Around} (r : Room (k + 1) A) : Room k A.in1 :=
  ⟨r.hd, by have := r.dp; show A.depth + 3 * k + 5 < _; omega, by have := r.un; show A.units + 1 + 16 * k + 200 < _; omega⟩
theorem Room.depth {k : Nat} {A : Around} (r : Room k A) : A.depth < recursionLimit := by have := r.dp; omega
theorem Room.units {k : Nat} {A : Around} (r : Room k A) : A.units + 64 < cLine := by have := r.un; omega
/-! ### argument lists and displays -/
def tNil : TA := fun _ H Q => Q [] H
def tCons (ta : TE) (tr : TA) : TA := fun σ H Q => ta σ H fun x H1 => tr σ H1 fun xs H2 => Q (x :: xs) H2
section
variable {X : Cx} {e : Expr} {es : List Expr} {te : TE} {t : TA} {pos : Pos}
theorem pa_nil : PA X [] tNil := fun _ _ _ _ H Q I h => Calls.spliced_nil ⟨[], H, I, .nil, h⟩
theorem pa_cons (ha : PE X e te) (hr : PA X es t) (hs : starEach (e :: es) X.env = (false, eval e X.env) :: starEach es X.env := by rfl) : PA X (e :: es) (tCons te t) := by
  intro pos pins s σ H Q I h
  rw [hs]
  show wpAny _ _ (spliced ((false, eval e X.env) :: backTo pos (starEach es X.env))) _ _ s
  refine Calls.spliced_cons (thn (ha pins s σ H _ I h) fun u s1 ⟨x, H1, I1, r1, q1⟩ => ?_)
  exact thn (hr pos pins s1 σ H1 _ I1 q1) fun us s2 ⟨xs, H2, I2, r2, q2⟩ => ⟨x :: xs, H2, I2, .cons r1 r2, q2⟩
/-- a tuple, a list of written items -/
def tTup (t : TA) : TE := fun σ H Q => t σ H fun xs H1 => xs.length ≤ sizeLine ∧ ∀ p, H1 p = none → Q (.ref p) (upd H1 p (.tup xs))
def tLst (t : TA) : TE := fun σ H Q => t σ H fun xs H1 => xs.length ≤ sizeLine ∧ ∀ p, H1 p = none → Q (.ref p) (upd H1 p (.lst xs))
theorem pe_tup {x1} (h : PA X es t) : PE X (.Tuple es x1 pos) (tTup t) := by
  intro pins s σ H Q I hq
  refine wpAny_Tuple_spliced (thn (h pos pins s σ H _ I hq) fun us s1 ⟨xs, H1, I1, r, z, q⟩ => ⟨by rw [← r.length]; exact z, ?_⟩)
  have hf : H1 s1.heap.objs.size = none := I1.hok.fresh (Nat.le_refl _)
  refine ⟨.ref s1.heap.objs.size, upd H1 s1.heap.objs.size (.tup xs), I1.laid (t' := s1.toks) (fun b u e => Heap.get?_push_of_some _ e) (Nat.le_refl _) ?_, rfl, q _ hf⟩
  exact ⟨z, us, r, ⟨_, Heap.get?_push_size _ rfl, rfl, _, rfl⟩⟩
theorem pe_lst (h : PA X es t) : PE X (.List es pos) (tLst t) := by
  intro pins s σ H Q I hq
  refine wpAny_List_spliced (thn (h pos pins s σ H _ I hq) fun us s1 ⟨xs, H1, I1, r, z, q⟩ => ⟨by rw [← r.length]; exact z, ?_⟩)
  have hf : H1 s1.heap.objs.size = none := I1.hok.fresh (Nat.le_refl _)
  refine ⟨.ref s1.heap.objs.size, upd H1 s1.heap.objs.size (.lst xs), I1.laid (t' := s1.toks) (fun b u e => Heap.get?_push_of_some _ e) (Nat.le_refl _) ?_, rfl, q _ hf⟩
  exact ⟨z, us, 0, r, Heap.get?_push_size _ rfl⟩
end
/-! ### what a def promises -/
/-- a def's promise: the bound arguments in the parameters' order, the heap, the wanted end, the wanted exception -/
abbrev Sp := List V → Hp → VK → XK → Prop
/-- how an exception lies behind a call (file 08 gives it): the callers' frames, abstract heap and state ahead of the call, the wish, the exception, the state -/
abbrev CXT := List Env → Hp → Shared → XK → Value → Shared → Prop
/-- the state at a call -/
structure Env0 (P : Program) (w : World) (K : PySem.W.Frag) (mg : Str → Option Value) (base : Heap) (A : Around) (outer : List Env) (s : Shared) (H : Hp) : Prop where
  frames : A.frames = some outer
  mod : Mod K mg base
  bs : ∀ b o, base.get? b = some o → s.heap.get? b = some o ∧ H b = none
  bsz : base.objs.size ≤ s.heap.objs.size
  funs : s.heap.FunFrames base outer
  frf : ∀ b ∈ frs outer, H b = none
  hok : HOk P w H s.heap
  bare : AllBare s.gens
/-- a call's end -/
def CE (outer : List Env) (P : Program) (w : World) (H : Hp) (s : Shared) (Q : VK) (u : Value) (s' : Shared) : Prop :=
  ∃ v H', s'.os = s.os ∧ AllBare s'.gens ∧ Un (frs outer) [] H H' s.heap s'.heap ∧ HOk P w H' s'.heap ∧ RelV v u ∧ Q v H'
def CR (CX : CXT) (outer : List Env) (P : Program) (w : World) (H : Hp) (s : Shared) (Q : VK) (E : XK) (r : Result) (s' : Shared) : Prop :=
  match r with
  | .ok (.ret u) => CE outer P w H s Q u s'
  | .ok _ => False
  | .error e => CX outer H s E e s'
structure FnOk (P : Program) (w : World) (K : PySem.W.Frag) (mg : Str → Option Value) (base : Heap) (CX : CXT) (k : Nat) (f : Addr) (fd : FuncData) (ps : List Str) (sp : Sp) : Prop where
  len : ∀ vs H Q E, sp vs H Q E → vs.length = ps.length
  run : ∀ (A : Around) (outer : List Env) (s : Shared) (H : Hp) (args : Args) (us : List Value) (vs : List V) (Q : VK) (E : XK), Room k A → Env0 P w K mg base A outer s H → BindsTo s fd args (ps.zip us) → Vals vs us → sp vs H Q E →
    codeAny (model P w) A (.call (.ref f) args) (CR CX outer P w H s Q E) s
theorem FnOk.mono {P : Program} {w : World} {K : PySem.W.Frag} {mg : Str → Option Value} {base : Heap} {CX : CXT} {j k : Nat} {f : Addr} {fd : FuncData} {ps : List Str} {sp : Sp} (F : FnOk P w K mg base CX j f fd ps sp) (h : j ≤ k) :
    FnOk P w K mg base CX k f fd ps sp := ⟨F.len, fun A outer s H args us vs Q E hr => F.run A outer s H args us vs Q E (hr.mono h)⟩
/-- a weaker promise -/
theorem FnOk.imp {P : Program} {w : World} {K : PySem.W.Frag} {mg : Str → Option Value} {base : Heap} {CX : CXT} {k : Nat} {f : Addr} {fd : FuncData} {ps : List Str} {sp sp' : Sp} (F : FnOk P w K mg base CX k f fd ps sp)
    (h : ∀ vs H Q E, sp' vs H Q E → sp vs H Q E) : FnOk P w K mg base CX k f fd ps sp' :=
  ⟨fun vs H Q E q => F.len vs H Q E (h _ _ _ _ q), fun A outer s H args us vs Q E hr he hb hv hs => F.run A outer s H args us vs Q E hr he hb hv (h _ _ _ _ hs)⟩
theorem Env0.in1 {P : Program} {w : World} {K : PySem.W.Frag} {mg : Str → Option Value} {base : Heap} {A : Around} {outer : List Env} {s : Shared} {H : Hp} (e : Env0 P w K mg base A outer s H) :
    Env0 P w K mg base A.in1 outer s H := ⟨e.frames, e.mod, e.bs, e.bsz, e.funs, e.frf, e.hok, e.bare⟩
section
variable {X : Cx} {pins : List (Addr × Obj)} {σ : St} {H : Hp} {s s' : Shared}
/-- from a body: what a callee wants -/
theorem Inv.env0 (I : Inv X pins σ H s) : Env0 X.prog X.w X.K X.mg X.base X.A X.stack s H :=
  ⟨I.ok.frames, I.ok.mod, I.bs, Nat.le_trans I.ok.bsz I.sz, I.stack, I.stkFree, I.hok, I.bare⟩
/-- behind a call -/
theorem Inv.after {Q : VK} {u : Value} (I : Inv X pins σ H s) (h : CE X.stack X.prog X.w H s Q u s') : EP X pins σ Q u s' := by
  obtain ⟨v, H', os, bare, un, hok, r, q⟩ := h
  obtain ⟨hh, g, d, t, os'⟩ := s'
  obtain rfl : os' = s.os := os
  exact ⟨v, H', I.call (h' := hh) (g' := g) (d' := d) (t' := t) (ch := []) un hok bare (fun b z => absurd z (by simp)), r, q⟩
end
/-! ### calls -/
/-- f(..): the written arguments, then the defaults dvs; E: what is wanted of an exception -/
def tCall (sp : Sp) (dvs : List V) (E : XK) (t : TA) : TE := fun σ H Q => t σ H fun vs H1 => sp (vs ++ dvs) H1 Q E
/-- how the parameters are bound: us the positional arguments, kw the keywords' values by name, ds the defaults that fill up -/
def Binds (K : PySem.W.Frag) (fd : FuncData) (ps : List Str) (ds : List Value) : Prop :=
  ∀ (s : Shared) (us : List Value), K.In s.heap → (us ++ ds).length = ps.length → BindsTo s fd ⟨us, []⟩ (ps.zip (us ++ ds))
/-- every parameter is given -/
theorem Binds.all {K : PySem.W.Frag} {fd : FuncData} {ps : List Str} (h : ∀ us : List Value, us.length = ps.length → bindArgs fd ⟨us, []⟩ = pure (ps.zip us)) : Binds K fd ps [] := fun s us _ hl => by
  rw [List.append_nil] at hl ⊢
  exact .of_eq (h us hl)
/-- an exception of a callee reaches what this body wants of exceptions -/
def Passes (CX : CXT) (X : Cx) (E : XK) : Prop := ∀ (pins : List (Addr × Obj)) (σ : St) (H : Hp) (s : Shared) (e : Value) (s' : Shared), Inv X pins σ H s → CX X.stack H s E e s' → X.xe e s'
section
variable {X : Cx} {CX : CXT} {k : Nat} {f C : Addr} {fd : FuncData} {ps : List Str} {sp : Sp} {dvs : List V} {ds : List Value} {E : XK} {x m : Str} {p pos apos : Pos} {e o : Expr} {es : List Expr} {ta : TE} {t : TA}
/-- the callee runs -/
theorem run_fn {pins : List (Addr × Obj)} {σ : St} {H : Hp} {s : Shared} {Q : VK} {us : List Value} {vs : List V} (F : FnOk X.prog X.w X.K X.mg X.base CX k f fd ps sp) (hr : Room k X.A) (hb : Binds X.K fd ps ds) (hd : Vals dvs ds) (hx : Passes CX X E)
    (I : Inv X pins σ H s) (r : Vals vs us) (h : sp (vs ++ dvs) H Q E) : wpAny (model X.prog X.w) X.A (call (.ref f) us) (EP X pins σ Q) X.xe s := by
  have r2 : Vals (vs ++ dvs) (us ++ ds) := r.append hd
  have hl : (us ++ ds).length = ps.length := by rw [← r2.length]; exact F.len _ _ _ _ h
  refine wpAny_call (codeAny_mono (F.run X.A X.stack s H ⟨us, []⟩ (us ++ ds) (vs ++ dvs) Q E hr I.env0 (hb s us I.kIn hl) r2 h) fun r s' hq => ?_)
  cases r with
  | error e => exact hx pins σ H s e s' I hq
  | ok fl =>
    cases fl with
    | ret u => exact I.after hq
    | next => exact False.elim hq
    | brk => exact False.elim hq
    | cont => exact False.elim hq
theorem pe_call (F : FnOk X.prog X.w X.K X.mg X.base CX k f fd ps sp) (hr : Room k X.A) (hg : Gl X x) (hm : X.mg x = some (.ref f)) (hk : PySem.W.keepIn X.K (.ref f) = true) (hb : Binds X.K fd ps ds) (hd : Vals dvs ds) (hx : Passes CX X E)
    (ha : PA X (e :: es) t) (hdb : (x == ("__debug__" : Str)) = false := by decide) (he : starEach (e :: es) X.env = (false, eval e X.env) :: starEach es X.env := by rfl) (hpl : (backTo pos (starEach es X.env)).any (·.1) = false := by rfl) :
    PE X (.Call (.Name x p) (e :: es) [] pos) (tCall sp dvs E t) := by
  intro pins s σ H Q I h
  refine wpAny_Call_Name_kw (ld_glob I hg hm ?_ hdb)
  refine PySem.W.callWith_K (h₀ := X.base) I.ok.mod.kin hk (thn (ha pos pins s σ H _ I h) fun us s1 ⟨vs, H1, I1, r, q⟩ => ⟨I1.kIn, ?_⟩) he hpl
  exact run_fn F hr hb hd hx I1 r q
end
/-! ### keywords -/
section
variable {X : Cx} {CX : CXT} {k : Nat} {f C : Addr} {fd : FuncData} {ps ks : List Str} {sp : Sp} {E : XK} {x m : Str} {p pos apos kpos : Pos} {e o : Expr} {es : List Expr} {kws : List Keyword} {te ta : TE} {t tk : TA} {nm : Option Str}
/-- how a call with keywords binds: g puts the positional values us and the keywords' values ws (names ks) in the parameters' order, defaults among them -/
structure KBinds (K : PySem.W.Frag) (fd : FuncData) (ps ks : List Str) (g : List Value → List Value → List Value) (gV : List V → List V → List V) : Prop where
  to : ∀ (s : Shared) (us ws : List Value), K.In s.heap → (g us ws).length = ps.length → BindsTo s fd ⟨us, ks.zip ws⟩ (ps.zip (g us ws))
  rel : ∀ {vs : List V} {us : List Value} {zs : List V} {ws : List Value}, Vals vs us → Vals zs ws → Vals (gV vs zs) (g us ws)
variable {g : List Value → List Value → List Value} {gV : List V → List V → List V}
end
/-! ### a def's body keeps its promise -/
/-- names: the parameters first -/
structure FnScope (N P : List Str) (sc : Scope) : Prop where
  kind : sc.kind = .function
  co : sc.isCoroutine = false
  gen : sc.isGenerator = false
  nd : N.Nodup
  pre : N.take P.length = P
  par : ∀ x ∈ P, sc.names.lookup x = some .local ∨ sc.names.lookup x = some .cell
  nofree : ∀ y ∈ sc.names, y.2 ≠ .free
theorem bindL_out {kindOf : Str → Option NameKind} {x : Str} : ∀ {binds : List (Str × Value)} {m : Str → Option Value}, (∀ v, (x, v) ∉ binds) → bindL kindOf binds m x = m x
  | [], _, _ => rfl
  | (n, v) :: r, m, h => by
    unfold bindL
    rw [bindL_out fun w hw => h w (List.mem_cons_of_mem _ hw)]
    split
    · have : x ≠ n := by rintro rfl; exact h v List.mem_cons_self
      simp [this]
    · rfl
theorem bindC_out {kindOf : Str → Option NameKind} {x : Str} : ∀ {binds : List (Str × Value)} {m : Str → Option Value}, (∀ v, (x, v) ∉ binds) → bindC kindOf binds m x = m x
  | [], _, _ => rfl
  | (n, v) :: r, m, h => by
    unfold bindC
    rw [bindC_out fun w hw => h w (List.mem_cons_of_mem _ hw)]
    split
    · rfl
    · have : x ≠ n := by rintro rfl; exact h v List.mem_cons_self
      simp [this]
theorem bindL_get {kindOf : Str → Option NameKind} {x : Str} {v : Value} : ∀ {P : List Str} {vs : List Value} {i : Nat} {m : Str → Option Value}, P.Nodup → P[i]? = some x → vs[i]? = some v → kindOf x = some .local →
    bindL kindOf (P.zip vs) m x = some v
  | [], _, _, _, _, h, _, _ => by simp at h
  | _ :: _, [], _, _, _, _, h, _ => by simp at h
  | p :: P, w :: vs, 0, m, nd, h1, h2, hk => by
    simp at h1 h2; subst h1; subst h2
    show bindL kindOf ((p, w) :: P.zip vs) m p = _
    unfold bindL
    rw [bindL_out fun v hv => (List.nodup_cons.mp nd).1 (List.of_mem_zip hv).1, if_pos hk]
    simp
  | p :: P, w :: vs, i + 1, m, nd, h1, h2, hk => by
    show bindL kindOf ((p, w) :: P.zip vs) m x = _
    unfold bindL
    exact bindL_get (i := i) (List.nodup_cons.mp nd).2 (by simpa using h1) (by simpa using h2) hk
theorem bindC_get {kindOf : Str → Option NameKind} {x : Str} {v : Value} : ∀ {P : List Str} {vs : List Value} {i : Nat} {m : Str → Option Value}, P.Nodup → P[i]? = some x → vs[i]? = some v → kindOf x ≠ some .local →
    bindC kindOf (P.zip vs) m x = some v
  | [], _, _, _, _, h, _, _ => by simp at h
  | _ :: _, [], _, _, _, _, h, _ => by simp at h
  | p :: P, w :: vs, 0, m, nd, h1, h2, hk => by
    simp at h1 h2; subst h1; subst h2
    show bindC kindOf ((p, w) :: P.zip vs) m p = _
    unfold bindC
    rw [bindC_out fun v hv => (List.nodup_cons.mp nd).1 (List.of_mem_zip hv).1, if_neg hk]
    simp
  | p :: P, w :: vs, i + 1, m, nd, h1, h2, hk => by
    show bindC kindOf ((p, w) :: P.zip vs) m x = _
    unfold bindC
    exact bindC_get (i := i) (List.nodup_cons.mp nd).2 (by simpa using h1) (by simpa using h2) hk
/-- the names' values at the entry -/
def start (N : List Str) (vs : List V) : St := vs.map some ++ List.replicate (N.length - vs.length) none
/-- the context of a def's body, at its entry; an exception leaves the frame, then lies as CX says -/
def cxOf (CX : CXT) (P : Program) (w : World) (K : PySem.W.Frag) (mg : Str → Option Value) (base : Heap) (N : List Str) (qual : Str) (scope : Scope) (f : Addr) (cd : Value) (A : Around) (outer : List Env) (s : Shared) (H : Hp) (E : XK) : Cx where
  prog := P
  w := w
  K := K
  mg := mg
  base := base
  A := A.deeper (envOfC qual scope s.heap.objs.size f cd)
  N := N
  s₀ := s
  H₀ := H
  env := envOfC qual scope s.heap.objs.size f cd
  outer := outer
  stack := envOfC qual scope s.heap.objs.size f cd :: outer
  ex := []
  calm := true
  fn := fun _ => true
  pn := []
  xe := fun e s' => wpAny (model P w) (A.deeper (envOfC qual scope s.heap.objs.size f cd)) (leaving (envOfC qual scope s.heap.objs.size f cd) e) (fun _ s'' => CX outer H s E e s'') (fun e' s'' => CX outer H s E e' s'') s'
theorem cell_has {sc : Scope} {n : Nat} {x : Str} (h : sc.names.lookup x = some .cell) : ∃ c, (cellsFrom n sc.names []).lookup x = some c := by
  have q := PySem.W.cellsFrom_some sc.names n [] (.inl h)
  exact Option.isSome_iff_exists.mp q
theorem inv_start {CX : CXT} {P : Program} {w : World} {K : PySem.W.Frag} {mg : Str → Option Value} {base : Heap} {N ps : List Str} {qual : Str} {scope : Scope} {f : Addr} {cd : Value} {A : Around} {outer : List Env} {s s1 : Shared} {H : Hp} {E : XK} {us : List Value} {vs : List V}
    (S : FnScope N ps scope) (hd : A.handled = none) (e0 : Env0 P w K mg base A outer s H) (hl : vs.length = ps.length) (r : Vals vs us)
    (x : InCallC s s.heap.objs.size (bindL (envOfC qual scope s.heap.objs.size f cd).kindOf (ps.zip us) fun _ => none) (cellsFrom (s.heap.objs.size + 1) scope.names []) (bindC (envOfC qual scope s.heap.objs.size f cd).kindOf (ps.zip us) fun _ => none) s1) :
    Inv (cxOf CX P w K mg base N qual scope f cd A outer s H E) [] (start N vs) H s1 := by
  have hpl : ps.length ≤ N.length := by have := congrArg List.length S.pre; rw [List.length_take] at this; omega
  obtain ⟨h1, tk, rfl, hk⟩ := x.done
  have noA : ∀ b : Addr, b ∉ (cxOf CX P w K mg base N qual scope f cd A outer s H E).ex := fun b z => absurd (show b ∈ ([] : List Addr) from z) (by simp)
  refine ⟨⟨e0.mod, S.kind, rfl, rfl, Nat.le_refl _, fun y z c h1 h2 => ?_, fun y hy => ?_, fun y c _ h => ?_, fun _ => hd, Around.frames_deeper e0.frames, .inr ⟨rfl, rfl⟩, fun b z => absurd z (noA b), e0.bs, e0.bsz, fun b _ _ => noA b, fun b z => absurd z (noA b), e0.funs, e0.frf⟩,
    rfl, e0.bare, Un.kept hk, ⟨_, x.toInCall.ns, fun i y v h1 h2 h3 => ?_⟩, fun y c h => ⟨_, x.cell y c h⟩, e0.hok.fresh (Nat.le_refl _), fun y c h => ?_, fun p hp => absurd (show p ∈ ([] : List (Addr × Obj)) from hp) (by simp), e0.hok.kept hk, ?_⟩
  · exact name_of_addr x.apart (PySem.mem_of_lookup h1) (PySem.mem_of_lookup h2)
  · have hy : scope.names.lookup y = some .cell ∨ scope.names.lookup y = some .free := hy
    rcases hy with hy | hy
    · exact cell_has hy
    · exact absurd rfl (S.nofree _ (PySem.mem_of_lookup hy))
  · exact Nat.le_of_lt (x.above y c (PySem.mem_of_lookup h))
  · have hi : i < vs.length := by
      unfold start at h2
      by_cases hi : i < vs.length
      · exact hi
      · rw [List.getElem?_append_right (by simpa using hi)] at h2
        rw [List.getElem?_replicate] at h2
        split at h2 <;> cases h2
    have ha : vs[i]? = some v := by
      unfold start at h2
      rw [List.getElem?_append_left (by simpa using hi), List.getElem?_map] at h2
      cases e : vs[i]? with
      | none => rw [e] at h2; cases h2
      | some a => rw [e] at h2; cases h2; rfl
    obtain ⟨u, hu, rv⟩ := r.get ha
    have hp : ps[i]? = some y := by
      rw [← S.pre, List.getElem?_take_of_lt (by omega)]; exact h1
    have ndP : ps.Nodup := by rw [← S.pre]; exact S.nd.sublist (List.take_sublist _ _)
    refine ⟨u, rv, ?_⟩
    rcases S.par y (List.mem_of_getElem? hp) with k | k
    · exact .inl ⟨k, bindL_get ndP hp hu k⟩
    · obtain ⟨c, e⟩ := cell_has (n := s.heap.objs.size + 1) k
      refine .inr ⟨.inl k, c, e, ?_⟩
      have q := x.cell y c e
      rw [bindC_get ndP hp hu (by show scope.names.lookup y ≠ _; rw [k]; decide)] at q
      exact q
  · exact e0.hok.fresh (Nat.le_of_lt (x.above y c (PySem.mem_of_lookup h)))
  · unfold start
    show _ = N.length
    rw [List.length_append, List.length_map, List.length_replicate]
    omega
/-- THE RULE: a def (or a method) of the text, by its body. The body's reading t is chosen for each entry; it is run at the parameters' values -/
theorem fn_of {CX : CXT} {P : Program} {w : World} {K : PySem.W.Frag} {mg : Str → Option Value} {base : Heap} {k : Nat} {f : Addr} {name qual : Str} {params : Arguments} {body : List Stmt} {scope : Scope} {dV kV doc pm cdv ct oc : Value} {an od : Option Addr}
    {osl : Array (Option Value)} {N ps : List Str} {sp : Sp} (lk : K.lookup f = some ⟨oc, od, .func (PySem.W.fnOf name qual params body scope dV kV doc pm an cdv ct), osl⟩) (hcd : PySem.W.codeIn K cdv qual = true) (S : FnScope N ps scope)
    (len : ∀ vs H Q E, sp vs H Q E → vs.length = ps.length)
    (hbody : ∀ (A : Around) (outer : List Env) (s : Shared) (H : Hp) (vs : List V) (Q : VK) (E : XK), Room k (A.deeper (envOfC qual scope s.heap.objs.size f cdv)) → sp vs H Q E →
      ∃ t, PSs (cxOf CX P w K mg base N qual scope f cdv A outer s H E) body t ∧ t { nx := fun _ H' => Q .non H', rt := Q } (start N vs) H) :
    FnOk P w K mg base CX (k + 1) f (PySem.W.fnOf name qual params body scope dV kV doc pm an cdv ct) ps sp := by
  refine ⟨len, fun A outer s H args us vs Q E hr e0 hb r hsp => ?_⟩
  have hl := len _ _ _ _ hsp
  have KX : K.In s.heap := e0.mod.kin.keeps fun b o e => (e0.bs b o e).1
  have lim : s.heap.NoLimit := e0.mod.nolimit.keeps fun b o e => (e0.bs b o e).1
  have hkind : ∀ y ∈ ps.zip us, scope.names.lookup y.1 = some .local ∨ (scope.names.lookup y.1 = some .cell ∧ ((cellsFrom (s.heap.objs.size + 1) scope.names []).lookup y.1).isSome = true) := fun ⟨n, v⟩ hy => by
    rcases S.par n (List.of_mem_zip hy).1 with q | q
    · exact .inl q
    · exact .inr ⟨q, PySem.W.cellsFrom_some _ _ _ (.inl q)⟩
  refine codeAny_call_function hr.depth (KX _ _ lk) rfl S.co S.gen rfl (PySem.W.codeRec_of KX hcd) (hb _ _ _ _ ?_)
  refine wpAny_newFunctionEnv_cells S.kind hkind fun env he s1 x => ?_
  subst he
  refine ⟨lim.keeps x.toInCall.keep, codeAny_func ?_⟩
  obtain ⟨t, ht, hq⟩ := hbody A outer s H vs Q E (hr.deeper _) hsp
  have I : Inv (cxOf CX P w K mg base N qual scope f cdv A outer s H E) [] (start N vs) H s1 := inv_start S hr.hd e0 hl r x
  refine wpAny_mono (ht [] s1 (start N vs) H _ I hq) (fun fl s' hs => ?_) fun e s' hs => hs
  have fin : ∀ {σ' : St} {H' : Hp} {v : V} {u : Value}, Inv (cxOf CX P w K mg base N qual scope f cdv A outer s H E) [] σ' H' s' → RelV v u → Q v H' → CE outer P w H s Q u s' :=
    fun {σ' H' v u} J rv q => ⟨v, H', J.os, J.bare, J.base, J.hok, rv, q⟩
  cases fl with
  | ret u =>
    obtain ⟨v, σ', H', J, rv, q⟩ := hs
    exact fin J rv q
  | next =>
    obtain ⟨σ', H', J, q⟩ := hs
    exact fin (v := V.non) (u := Value.none) J rfl q
  | brk =>
    obtain ⟨_, _, _, q⟩ := hs
    exact False.elim q
  | cont =>
    obtain ⟨_, _, _, q⟩ := hs
    exact False.elim q
end L2
namespace L2
open PySem PySem.Spec PyProof.Rows
section
variable {X : Cx} {x : Str} {p pos : Pos} {e : Expr} {es : List Expr} {t : TA} {id T : String} {r : List V → Hp → VK → Prop}
def tCB (r : List V → Hp → VK → Prop) (t : TA) : TE := fun σ H Q => t σ H fun vs H1 => r vs H1 Q
/-- f(e, ..), f a built-in function -/
theorem pe_callB (hc : CallR X (.builtin id) r) (hg : Gl X x) (hm : X.mg x = none) (hv : bootBuiltins x = some (.builtin id)) (ha : PA X (e :: es) t) (hn : x ≠ "__name__" := by decide) (hdb : (x == ("__debug__" : Str)) = false := by decide)
    (he : starEach (e :: es) X.env = (false, eval e X.env) :: starEach es X.env := by rfl) (hpl : (backTo pos (starEach es X.env)).any (·.1) = false := by rfl) : PE X (.Call (.Name x p) (e :: es) [] pos) (tCB r t) := by
  intro pins s σ H Q I h
  refine wpAny_Call_Name_kw (ld_blt I hg hm hv ?_ hn hdb)
  exact PyProof.Rows.callWith_builtin1 (thn (ha pos pins s σ H _ I h) fun us s1 ⟨vs, H1, I1, r1, q1⟩ => hc pins s1 σ H1 vs us Q I1 r1 q1) he hpl
/-- T(e, ..), T a built-in type -/
theorem pe_callTy (hc : CallR X (.type T) r) (hg : Gl X x) (hm : X.mg x = none) (hv : bootBuiltins x = some (.type T)) (ha : PA X (e :: es) t) (hn : x ≠ "__name__" := by decide) (hdb : (x == ("__debug__" : Str)) = false := by decide)
    (he : starEach (e :: es) X.env = (false, eval e X.env) :: starEach es X.env := by rfl) (hpl : (backTo pos (starEach es X.env)).any (·.1) = false := by rfl) : PE X (.Call (.Name x p) (e :: es) [] pos) (tCB r t) := by
  intro pins s σ H Q I h
  refine wpAny_Call_Name_kw (ld_blt I hg hm hv ?_ hn hdb)
  exact PyProof.Rows.callWith_type1 (thn (ha pos pins s σ H _ I h) fun us s1 ⟨vs, H1, I1, r1, q1⟩ => hc pins s1 σ H1 vs us Q I1 r1 q1) he hpl
end
end L2
namespace HT
open PySem PyProof.Rows
section
open PySem.SeqAt
open PySem.AutoSeq1 (wpAny_loadPart')
open PySem.MeetsSeq PySem.MeetsSeq2 PySem.MeetsSeq3
end
section
variable {prog : Program} {w : World} {A : Around} {E : Value → Shared → Prop} {s : Shared}
/-- t + u, t not empty -/
theorem cat_tup {t b : Addr} {vs ws : List Value} {Q : Value → Shared → Prop} (ht : IsTup s.heap t vs.toArray) (hb : IsTup s.heap b ws.toArray) (hv : vs ≠ [])
    (h1 : ws = [] → Q (.ref t) s) (h2 : ws ≠ [] → Q (.ref s.heap.objs.size) { s with heap := s.heap.push { cls := .type "tuple", data := .seq (vs ++ ws).toArray } })
    (hsz : vs.length + ws.length ≤ sizeLine) : wpAny (model prog w) A (binaryOp .Add (.ref t) (.ref b)) Q E s := by
  obtain ⟨⟨cls, dd, data, sl⟩, ho, hc, n, hd⟩ := id ht
  obtain ⟨⟨cls2, dd2, data2, sl2⟩, ho2, hc2, n2, hd2⟩ := id hb
  simp only at hc hd hc2 hd2
  subst hc hd hc2 hd2
  have e : vs.toArray ++ ws.toArray = (vs ++ ws).toArray := by simp
  by_cases hw : ws = []
  · exact concat_meets ⟨_, ho, rfl⟩ ⟨_, ho2, rfl⟩ noFill_tuple_add seq_tuple_add PySem.F.slot_tuple_add PySem.F.entry_tuple_add (PySem.F.args_tuple_add_2 _ _)
      (tuple_addW1 t b vs.toArray ws.toArray n n2 dd dd2 sl sl2 (by simpa using hv) (by simp [hw])) ⟨ho, ho2, h1 hw⟩
  · refine concat_meets ⟨_, ho, rfl⟩ ⟨_, ho2, rfl⟩ noFill_tuple_add seq_tuple_add PySem.F.slot_tuple_add PySem.F.entry_tuple_add (PySem.F.args_tuple_add_2 _ _)
      (tuple_addW2 t b vs.toArray ws.toArray n n2 dd dd2 sl sl2 (by simpa using hv) (by simpa using hw) (by rw [List.size_toArray, List.size_toArray]; exact hsz)) ⟨ho, ho2, ?_⟩
    rw [e]
    exact h2 hw
/-! ### t[a:b], not the whole -/
/-- a slice's bound as a place among n (d where it is left out) -/
def sIx (n d : Nat) : Option Int → Nat
  | none => d
  | some v => if v < 0 then (v + (n : Int)).toNat else min v.toNat n
end
end HT
namespace L2
open PySem PySem.Spec PyProof.Rows
/-! ### the parts of a slice -/
abbrev TO := St → Hp → (Option Int → Hp → Prop) → Prop
/-- a slice's part (left out, or an int) -/
def PO (X : Cx) (e : Option Expr) (t : TO) : Prop :=
  ∀ (pins : List (Addr × Obj)) (s : Shared) (σ : St) (H : Hp) (Q : Option Int → Hp → Prop), Inv X pins σ H s → t σ H Q →
    wpAny (model X.prog X.w) X.A (evalPart e X.env) (fun u s' => ∃ o H', Inv X pins σ H' s' ∧ IsPart u o ∧ Q o H') X.xe s
section
variable {X : Cx} {e : Expr} {te : TE} {lo hi : Option Expr} {tl th : TO} {pos p2 : Pos}
/-- what a slice of a value is, by values: the slice object stands at sl -/
def SlR (X : Cx) (r : V → Option Int → Option Int → Hp → VK → Prop) : Prop :=
  ∀ (pins : List (Addr × Obj)) (s : Shared) (σ : St) (H : Hp) (x : V) (v vl vu : Value) (lo hi : Option Int) (sl : Addr) (Q : VK), Inv X pins σ H s → RelV x v → s.heap.IsSliceOf sl vl vu .none → IsPart vl lo → IsPart vu hi → r x lo hi H Q →
    ∃ T id, typeLookup (.type T) "__getitem__" = pure (some (.builtin id)) ∧ s.TypeIs v T ∧ wpAny (model X.prog X.w) X.A (getItem v (.ref sl)) (EP X pins σ Q) X.xe s
/-- the items of xs[lo:hi] -/
def cutV (xs : List V) (lo hi : Option Int) : List V := (xs.drop (HT.sIx xs.length 0 lo)).take (HT.sIx xs.length xs.length hi - HT.sIx xs.length 0 lo)
theorem cutV_length (xs : List V) (lo hi : Option Int) : (cutV xs lo hi).length ≤ xs.length := by
  unfold cutV
  rw [List.length_take, List.length_drop]
  omega
/-! ### t < u, t + u -/
/-- t + u, t not empty: u empty gives t itself -/
def rCatT (K : PySem.W.Frag) : R2 := fun x y H Q => ∃ a b xs ys, x = .ref a ∧ y = .ref b ∧ SqT K H a xs ∧ SqT K H b ys ∧ xs ≠ [] ∧ xs.length + ys.length ≤ sizeLine ∧
  (ys = [] → Q (.ref a) H) ∧ (ys ≠ [] → ∀ p, H p = none → Q (.ref p) (upd H p (.tup (xs ++ ys))))
theorem Vals.nil_iff {xs : List V} {us : List Value} (r : Vals xs us) : us = [] ↔ xs = [] := by
  cases r with
  | nil => simp
  | cons _ _ => simp
theorem op_catT : OpR X (binaryOp .Add) (rCatT X.K) := by
  intro pins s σ H x y v u Q I rx ry h
  obtain ⟨a, b, xs, ys, rfl, rfl, ha, hb, hx, hz, q1, q2⟩ := h
  cases rx
  cases ry
  obtain ⟨its, r1, p1, _⟩ := I.tuple ha
  obtain ⟨its2, r2, p2, _⟩ := I.tuple hb
  refine HT.cat_tup p1 p2 (fun z => hx (r1.nil_iff.mp z)) (fun z => ⟨.ref a, H, I, rfl, q1 (r2.nil_iff.mp z)⟩) (fun z => ?_) (by rw [← r1.length, ← r2.length]; exact hz)
  refine ⟨.ref s.heap.objs.size, _, I.laid (t' := s.toks) (o := .tup (xs ++ ys)) (fun b ob q => Heap.get?_push_of_some _ q) (Nat.le_refl _) ?_, rfl, q2 (fun w => z (r2.nil_iff.mpr w)) _ (I.hok.fresh (Nat.le_refl _))⟩
  exact ⟨by rw [List.length_append]; exact hz, _, r1.append r2, IsTup.new _ _⟩
end
end L2
namespace L2
open PySem PySem.Spec PyProof.Rows
/-! ### places -/
/-- the place that an index of any sign means -/
def ixN (n : Nat) (i : Int) : Option Nat := if 0 ≤ i then (if i < n then some i.toNat else none) else if -(n : Int) ≤ i then some (i + n).toNat else none
def atI {α : Type} (xs : List α) (i : Int) : Option α := (ixN xs.length i).bind fun j => xs[j]?
theorem ixN_seq {n : Nat} {i : Int} {j : Nat} (h : ixN n i = some j) : seqIndex? i n = some j ∧ j < n ∧ -(n : Int) ≤ i ∧ i < n := by
  unfold ixN at h
  by_cases h0 : 0 ≤ i
  · rw [if_pos h0] at h
    by_cases h1 : i < n
    · rw [if_pos h1] at h
      have e : i.toNat = j := Option.some.inj h
      exact ⟨by rw [seqIndex_of h0 h1, e], by omega, by omega, h1⟩
    · rw [if_neg h1] at h; cases h
  · rw [if_neg h0] at h
    by_cases h1 : -(n : Int) ≤ i
    · rw [if_pos h1] at h
      have e : (i + n).toNat = j := Option.some.inj h
      exact ⟨by rw [seqIndex_neg (by omega) h1, e], by omega, h1, by omega⟩
    · rw [if_neg h1] at h; cases h
theorem atI_get {α : Type} {xs : List α} {i : Int} {v : α} (h : atI xs i = some v) : ∃ j, seqIndex? i xs.length = some j ∧ xs[j]? = some v ∧ j < xs.length ∧ -(xs.length : Int) ≤ i ∧ i < xs.length := by
  unfold atI at h
  cases e : ixN xs.length i with
  | none => rw [e] at h; cases h
  | some j =>
    rw [e] at h
    obtain ⟨h1, h2, h3, h4⟩ := ixN_seq e
    exact ⟨j, h1, h, h2, h3, h4⟩
/-! ### what may be subscripted -/
/-- what stands as an index of a plain subscript -/
def PlainIx (b : Expr) : Prop := ∀ o i, subscripted b false o i = operate [o, i] (getItem o i)
/-- a subscript by values -/
def IxR (X : Cx) (r : R2) : Prop :=
  ∀ (value slice : Expr) (pins : List (Addr × Obj)) (s : Shared) (σ : St) (H : Hp) (x y : V) (v u : Value) (Q : VK), Inv X pins σ H s → RelV x v → RelV y u → r x y H Q →
    subscripted slice false v u = operate [v, u] (getItem v u) → wpAny (model X.prog X.w) X.A (subscriptTail value slice v u) (EP X pins σ Q) X.xe s
/-- a call of a builtin's method by values: the receiver, the arguments -/
def MtR (X : Cx) (id : String) (r : V → List V → Hp → VK → Prop) : Prop :=
  ∀ (pins : List (Addr × Obj)) (s : Shared) (σ : St) (H : Hp) (x : V) (xs : List V) (v : Value) (us : List Value) (Q : VK), Inv X pins σ H s → RelV x v → Vals xs us → r x xs H Q →
    wpAny (model X.prog X.w) X.A (call (.builtin id) (v :: us)) (EP X pins σ Q) X.xe s
section
variable {X : Cx} {a b : Expr} {ta tb : TE} {pos : Pos}
theorem IxR.or {r r' : R2} (h : IxR X r) (h' : IxR X r') : IxR X (fun x y H Q => r x y H Q ∨ r' x y H Q) := by
  intro value slice pins s σ H x y v u Q I rx ry q hs
  rcases q with q | q
  · exact h value slice pins s σ H x y v u Q I rx ry q hs
  · exact h' value slice pins s σ H x y v u Q I rx ry q hs
/-- a[b] -/
theorem pe_ix {r : R2} (hr : IxR X r) (ha : PE X a ta) (hb : PE X b tb) (hs : PlainIx b) : PE X (.Subscript a b pos) (tOp r ta tb) := by
  intro pins s σ H Q I h
  exact Subscript_ (binT ha hb I h fun v u s2 x y H2 I2 rx ry q => hr a b pins s2 σ H2 x y v u Q I2 rx ry q (hs _ _))
def rIxL (K : PySem.W.Frag) : R2 := fun x y H Q => ∃ p xs i v, x = .ref p ∧ y = .int i ∧ SqL K H p xs ∧ atI xs i = some v ∧ Q v H
def rIxT (K : PySem.W.Frag) : R2 := fun x y H Q => ∃ p xs i v, x = .ref p ∧ y = .int i ∧ SqT K H p xs ∧ atI xs i = some v ∧ Q v H
def rIxS : R2 := fun x y H Q => ∃ z i c, x = .str z ∧ y = .int i ∧ z.length ≤ sizeLine ∧ atI z.cps.toList i = some c ∧ Q (.str ⟨#[c]⟩) H
theorem ix_list : IxR X (rIxL X.K) := by
  intro value slice pins s σ H x y v u Q I rx ry h hs
  obtain ⟨p, xs, i, z, rfl, rfl, hq, he, q⟩ := h
  cases rx
  obtain ⟨t, rfl⟩ := ry
  obtain ⟨its, r, pl, hz⟩ := I.list hq
  obtain ⟨j, h1, h2, h3, h4, h5⟩ := atI_get he
  obtain ⟨w, ew, rw'⟩ := r.get h2
  have hl := r.length
  have hn := line63
  have fin : EP X pins σ Q w s := ⟨z, H, I, rw', q⟩
  by_cases h0 : 0 ≤ i
  · have hj : i.toNat = j := by
      rw [seqIndex_of h0 h5] at h1
      exact Option.some.inj h1
    exact item_listR pl.isList h0 (by omega) (by rw [hj]; simpa using ew) fin hs
  · have hj : (i + (its.toArray.size : Int)).toNat = j := by
      rw [seqIndex_neg (by omega) h4] at h1
      rw [List.size_toArray, ← hl]
      exact Option.some.inj h1
    exact subscriptTail_builtinR (x := w) pl.isList.typeIs slot_list_getitem.lookup
      (wpAny_getItem_list_neg (Q := fun r s' => r = w ∧ EP X pins σ Q r s') pl.isList (by omega) (by rw [List.size_toArray] <;> omega) (by omega) (by rw [hj]; simpa using ew) ⟨rfl, fin⟩) hs
theorem ix_tup : IxR X (rIxT X.K) := by
  intro value slice pins s σ H x y v u Q I rx ry h hs
  obtain ⟨p, xs, i, z, rfl, rfl, hq, he, q⟩ := h
  cases rx
  obtain ⟨t, rfl⟩ := ry
  obtain ⟨its, r, pl, hz⟩ := I.tuple hq
  obtain ⟨j, h1, h2, h3, h4, h5⟩ := atI_get he
  obtain ⟨w, ew, rw'⟩ := r.get h2
  have hl := r.length
  have hn := line63
  have fin : EP X pins σ Q w s := ⟨z, H, I, rw', q⟩
  exact subscriptTail_builtinR (x := w) pl.typeIs slot_tuple_getitem.lookup
    (getItem_tuple (j := j) (Q := fun r s' => r = w ∧ EP X pins σ Q r s') pl (by omega) (by omega) (by rw [List.size_toArray, ← hl]; exact h1) (by simpa using ew) ⟨rfl, fin⟩) hs
theorem ix_str : IxR X rIxS := by
  intro value slice pins s σ H x y v u Q I rx ry h hs
  obtain ⟨z, i, c, rfl, rfl, hz, he, q⟩ := h
  obtain ⟨t, rfl⟩ := rx
  obtain ⟨t', rfl⟩ := ry
  obtain ⟨j, h1, h2, h3, h4, h5⟩ := atI_get he
  have hl : z.cps.toList.length = z.length := by simp [Str.length]
  rw [hl] at h1 h4 h5
  have hn := line63
  exact tail_any (typeIs_str s z t) slot_str_getitem.lookup (getItem_str (c := c) (by
    have e1 : decide (i < -(2 ^ 63 : Int)) = false := decide_eq_false (by omega)
    have e2 : decide (i ≥ 2 ^ 63) = false := decide_eq_false (by omega)
    rw [e1, e2, Bool.or_false]) (by rw [h1]; simpa using h2) ⟨.str ⟨#[c]⟩, H, I.tok _, ⟨_, rfl⟩, q⟩) hs
/-- list, tuple or str -/
def rIx (K : PySem.W.Frag) : R2 := fun x y H Q => rIxL K x y H Q ∨ rIxT K x y H Q ∨ rIxS x y H Q
theorem ix_seq : IxR X (rIx X.K) := ix_list.or (ix_tup.or ix_str)
/-! ### xs[i] = v, any sign -/
/-- the list's object behind a store -/
theorem mapSeq_set (its : List Value) (n j : Nat) (u : Value) : Obj.mapSeq (·.setIfInBounds j u) { cls := .type "list", data := .seq its.toArray n } = { cls := .type "list", data := .seq (its.set j u).toArray n } := by
  simp [Obj.mapSeq]
theorem Inv.lst {pins : List (Addr × Obj)} {σ : St} {H : Hp} {s : Shared} {p : Addr} {xs : List V} (I : Inv X pins σ H s) (h : H p = some (.lst xs)) :
    ∃ (its : List Value) (n : Nat), Vals xs its ∧ s.heap.get? p = some { cls := .type "list", data := .seq its.toArray n } ∧ xs.length ≤ sizeLine := by
  obtain ⟨z, its, n, r, e⟩ := I.hok p _ h
  exact ⟨its, n, r, e, z⟩
/-- the list at p is written by an update of its object -/
theorem Inv.lstUpd {pins : List (Addr × Obj)} {σ : St} {H : Hp} {s : Shared} {p : Addr} {xs ys : List V} {its its' : List Value} {n n' : Nat} {f : Obj → Obj} (I : Inv X pins σ H s) (h : H p = some (.lst xs))
    (ho : s.heap.get? p = some { cls := .type "list", data := .seq its.toArray n }) (hf : f { cls := .type "list", data := .seq its.toArray n } = { cls := .type "list", data := .seq its'.toArray n' }) (r : Vals ys its') (hz : ys.length ≤ sizeLine) (t : Nat) :
    Inv X pins σ (upd H p (.lst ys)) { s with heap := s.heap.update p f, toks := t } := by
  have e : (s.heap.update p f).get? p = some { cls := .type "list", data := .seq its'.toArray n' } := by
    rw [Heap.get?_update_self f ho (by rw [hf] <;> rfl), hf]
  refine I.write (x := p) (e := p) (by rw [h]; trivial) (.inl rfl) (fun b u hb q => (Heap.get?_update_other _ _ (Ne.symm hb)).trans q) ⟨_, e⟩ ?_
  exact ⟨hz, its', n', r, e⟩
def rSetL : V → V → V → Hp → (Hp → Prop) → Prop := fun o i v H Q => ∃ p xs k j, o = .ref p ∧ i = .int k ∧ H p = some (.lst xs) ∧ ixN xs.length k = some j ∧ Q (upd H p (.lst (xs.set j v)))
theorem set_list : PSet X rSetL := by
  intro pins s σ H o i v ov iv u Q I ro ri rv h
  obtain ⟨p, xs, k, j, rfl, rfl, hp, hj, q⟩ := h
  cases ro
  obtain ⟨t, rfl⟩ := ri
  obtain ⟨its, n, r, ho, hz⟩ := I.lst hp
  obtain ⟨h1, h2, h3, h4⟩ := ixN_seq hj
  have hl := r.length
  have hn := line63
  have I' : Inv X pins σ (upd H p (.lst (xs.set j v))) { s with heap := s.heap.update p (Obj.mapSeq (·.setIfInBounds j u)) } :=
    I.lstUpd hp ho (mapSeq_set its n j u) (r.set rv j) (by rw [List.length_set]; exact hz) s.toks
  by_cases h0 : 0 ≤ k
  · have hk : k.toNat = j := by
      rw [seqIndex_of h0 h4] at h1
      exact Option.some.inj h1
    exact PySem.W.ki_setAt ho h0 (by omega) (by rw [List.size_toArray, ← hl]; exact h4) (by rw [hk]; exact ⟨_, I', q⟩)
  · have hk : (k + (its.toArray.size : Int)).toNat = j := by
      rw [seqIndex_neg (by omega) h3] at h1
      rw [List.size_toArray, ← hl]
      exact Option.some.inj h1
    exact PySem.W.ki_setBack ho (by omega) (by rw [List.size_toArray, ← hl]; exact h3) (by omega) (by rw [hk]; exact ⟨_, I', q⟩)
/-! ### slices -/
theorem slice_bounds (lo hi : Option Int) (n : Nat) : (sliceBounds lo hi none n).1 = ((HT.sIx n 0 lo : Nat) : Int) ∧ (sliceBounds lo hi none n).2.1 = ((HT.sIx n n hi : Nat) : Int) ∧ (sliceBounds lo hi none n).2.2 = 1 := by
  refine ⟨?_, ?_, rfl⟩
  · cases lo with
    | none => simp [sliceBounds, HT.sIx]
    | some i =>
      simp only [sliceBounds, HT.sIx, Option.getD_none, show (1 : Int) > 0 by decide, if_true]
      by_cases h : i < 0
      · simp only [h, if_true] <;> omega
      · simp only [h, if_false] <;> omega
  · cases hi with
    | none => simp [sliceBounds, HT.sIx]
    | some i =>
      simp only [sliceBounds, HT.sIx, Option.getD_none, show (1 : Int) > 0 by decide, if_true]
      by_cases h : i < 0
      · simp only [h, if_true] <;> omega
      · simp only [h, if_false] <;> omega
theorem slicePick_cut (its : List Value) (lo hi : Option Int) : slicePick its.toArray lo hi none = ((its.drop (HT.sIx its.length 0 lo)).take (HT.sIx its.length its.length hi - HT.sIx its.length 0 lo)).toArray := by
  obtain ⟨h1, h2, h3⟩ := slice_bounds lo hi its.toArray.size
  unfold slicePick
  rw [h1, h2, h3]
  simp only [sliceRange_one, pick_run, List.size_toArray] <;> rfl
/-- xs[lo:hi] of a list: a new list -/
def rSlL (K : PySem.W.Frag) : V → Option Int → Option Int → Hp → VK → Prop := fun x lo hi H Q => ∃ a xs, x = .ref a ∧ SqL K H a xs ∧ ∀ p, H p = none → Q (.ref p) (upd H p (.lst (cutV xs lo hi)))
theorem sl_list : SlR X (rSlL X.K) := by
  intro pins s σ H x v vl vu lo hi sl Q I rx hs pl pu h
  obtain ⟨a, xs, rfl, hx, q⟩ := h
  cases rx
  obtain ⟨its, r, ht, hz⟩ := I.list hx
  have hlen := r.length
  refine ⟨"list", _, slot_list_getitem.lookup, ht.isList.typeIs, ?_⟩
  refine wpAny_getItem_list_slice ht.isList hs pl pu .none (by simp) ?_ (by rw [List.size_toArray] <;> omega)
  rw [slicePick_cut, ← hlen]
  refine ⟨.ref s.heap.objs.size, _, I.laid (t' := s.toks) (o := .lst (cutV xs lo hi)) (fun b ob q => Heap.get?_push_of_some _ q) (Nat.le_refl _) ?_, rfl, q _ (I.hok.fresh (Nat.le_refl _))⟩
  exact ⟨Nat.le_trans (cutV_length xs lo hi) hz, _, 0, (r.drop (HT.sIx xs.length 0 lo)).take (HT.sIx xs.length xs.length hi - HT.sIx xs.length 0 lo), Heap.get?_push_size _ rfl⟩
/-! ### in, not in: flat items -/
def flatV : V → Bool
  | .non => true
  | .bl _ => true
  | .int _ => true
  | .str _ => true
  | _ => false
/-- == of flat values -/
def eqV : V → V → Bool
  | .non, .non => true
  | .bl a, .bl b => a == b
  | .bl a, .int b => (if a then 1 else 0) == b
  | .int a, .bl b => a == (if b then 1 else 0)
  | .int a, .int b => a == b
  | .str a, .str b => a == b
  | _, _ => false
theorem eqAt_V {A : Around} {s : Shared} {y x : V} {u v : Value} (ry : RelV y u) (rx : RelV x v) (fy : flatV y = true) (fx : flatV x = true) : SeqAt.EqAt A s u v (eqV y x) := by
  cases y with
  | non =>
    cases ry
    cases x with
    | non => cases rx; exact SeqAt.EqAt.same _
    | bl b => cases rx; exact SeqAt.EqAt.none_bool b
    | int b => obtain ⟨t, rfl⟩ := rx; exact SeqAt.EqAt.none_int b t
    | str b => obtain ⟨t, rfl⟩ := rx; exact SeqAt.EqAt.none_str b t
    | _ => exact absurd (show false = true from fx) Bool.false_ne_true
  | bl a =>
    cases ry
    cases x with
    | non => cases rx; exact SeqAt.EqAt.bool_none a
    | bl b => cases rx; exact SeqAt.EqAt.bool_bool a b
    | int b => obtain ⟨t, rfl⟩ := rx; exact SeqAt.EqAt.bool_int a b t
    | str b => obtain ⟨t, rfl⟩ := rx; exact SeqAt.EqAt.bool_str a b t
    | _ => exact absurd (show false = true from fx) Bool.false_ne_true
  | int a =>
    obtain ⟨t', rfl⟩ := ry
    cases x with
    | non => cases rx; exact SeqAt.EqAt.int_none a t'
    | bl b => cases rx; exact SeqAt.EqAt.int_bool a t' b
    | int b => obtain ⟨t, rfl⟩ := rx; exact SeqAt.EqAt.int_int a t' b t
    | str b => obtain ⟨t, rfl⟩ := rx; exact SeqAt.EqAt.int_str a t' b t
    | _ => exact absurd (show false = true from fx) Bool.false_ne_true
  | str a =>
    obtain ⟨t', rfl⟩ := ry
    cases x with
    | non => cases rx; exact SeqAt.EqAt.str_none a t'
    | bl b => cases rx; exact SeqAt.EqAt.str_bool a t' b
    | int b => obtain ⟨t, rfl⟩ := rx; exact SeqAt.EqAt.str_int a t' b t
    | str b => obtain ⟨t, rfl⟩ := rx; exact SeqAt.EqAt.str_str a t' b t
    | _ => exact absurd (show false = true from fx) Bool.false_ne_true
  | _ => exact absurd (show false = true from fy) Bool.false_ne_true
/-! ### len, list(x), tuple(x) of any list or tuple that is read -/
theorem call_len_seq : CallR X (.builtin "len") (fun xs H Q => ∃ p ys, xs = [.ref p] ∧ (SqL X.K H p ys ∨ SqT X.K H p ys) ∧ Q (.int ys.length) H) := by
  intro pins s σ H xs us Q I r h
  obtain ⟨p, ys, rfl, hq, q⟩ := h
  obtain ⟨u, rfl, rx⟩ := vals1 r
  cases rx
  have hn := line63
  rcases hq with hq | hq
  · obtain ⟨its, r', pl, hz⟩ := I.list hq
    have hlen := r'.length
    exact Calls.call_len_list pl.isList (by simp only [List.size_toArray] <;> omega) ⟨.int ys.length, H, I.tok _, ⟨s.toks + 1, by rw [List.size_toArray, hlen]⟩, q⟩
  · obtain ⟨its, r', pl, hz⟩ := I.tuple hq
    have hlen := r'.length
    exact len_tuple pl (by simp only [List.size_toArray] <;> omega) ⟨.int ys.length, H, I.tok _, ⟨s.toks + 1, by rw [List.size_toArray, hlen]⟩, q⟩
theorem call_len_str : CallR X (.builtin "len") (fun xs H Q => ∃ z, xs = [.str z] ∧ z.length ≤ sizeLine ∧ Q (.int z.length) H) := by
  intro pins s σ H xs us Q I r h
  obtain ⟨z, rfl, hz, q⟩ := h
  obtain ⟨u, rfl, t, rfl⟩ := vals1 r
  have hn := line63
  exact len_str (by omega) ⟨.int z.length, H, I.tok _, ⟨_, rfl⟩, q⟩
theorem CallR.or {f : Value} {r r' : List V → Hp → VK → Prop} (h : CallR X f r) (h' : CallR X f r') : CallR X f (fun xs H Q => r xs H Q ∨ r' xs H Q) := by
  intro pins s σ H xs us Q I rs q
  rcases q with q | q
  · exact h pins s σ H xs us Q I rs q
  · exact h' pins s σ H xs us Q I rs q
theorem call_list_of : CallR X (.type "list") (fun xs H Q => ∃ p ys, xs = [.ref p] ∧ (SqL X.K H p ys ∨ SqT X.K H p ys) ∧ ∀ l, H l = none → Q (.ref l) (upd H l (.lst ys))) := by
  intro pins s σ H xs us Q I r h
  obtain ⟨p, ys, rfl, hq, q⟩ := h
  obtain ⟨u, rfl, rx⟩ := vals1 r
  cases rx
  have fin : ∀ (its : List Value), Vals ys its → ys.length ≤ sizeLine → ∀ (h' : Heap) (c' : Nat), (∀ b o', s.heap.get? b = some o' → h'.get? b = some o') →
      h'.get? s.heap.objs.size = some { cls := .type "list", dict := none, data := .seq its.toArray c', slots := #[] } → EP X pins σ Q (.ref s.heap.objs.size) { s with heap := h' } := fun its r' hz h' c' kp e =>
    ⟨.ref s.heap.objs.size, _, I.laid (t' := s.toks) kp (Nat.le_refl _) (show ObjOk X.prog X.w _ h' _ (.lst ys) from ⟨hz, its, c', r', e⟩), rfl, q _ (I.hok.fresh (Nat.le_refl _))⟩
  rcases hq with hq | hq
  · obtain ⟨its, r', pl, hz⟩ := I.list hq
    have hlen := r'.length
    obtain ⟨o, ho, hc, n, hd⟩ := pl.isList
    exact call_list_seq p (.inl rfl) ho hc hd (fun h' c' kp e => fin its r' hz h' c' kp e) (by simp only [List.size_toArray] <;> omega)
  · obtain ⟨its, r', pl, hz⟩ := I.tuple hq
    have hlen := r'.length
    obtain ⟨o, ho, hc, n, hd⟩ := pl
    exact call_list_seq p (.inr rfl) ho hc hd (fun h' c' kp e => fin its r' hz h' c' kp e) (by simp only [List.size_toArray] <;> omega)
/-! ### the call of a builtin's method: o.m(..) -/
/-- the value is of that builtin type -/
def tyV (K : PySem.W.Frag) (T : String) (x : V) (H : Hp) : Prop := match x with
  | .str _ => T = "str"
  | .int _ => T = "int"
  | .ref p => (T = "list" ∧ ∃ xs, SqL K H p xs) ∨ (T = "tuple" ∧ ∃ o, K.lookup p = some o ∧ o.cls = .type "tuple" ∧ o.dict = none) ∨
      (T = "dict" ∧ ((∃ kvs, H p = some (.dK kvs)) ∨ ∃ kvs, H p = some (.dT kvs))) ∨ (T = "set" ∧ ∃ S n, H p = some (.set S n))
  | _ => False
theorem tyV_is {pins : List (Addr × Obj)} {σ : St} {H : Hp} {s : Shared} {T : String} {x : V} {v : Value} (I : Inv X pins σ H s) (r : RelV x v) (ty : tyV X.K T x H) :
    s.TypeIs v T ∧ ∀ a, v = .ref a → ∃ ob, s.heap.get? a = some ob ∧ ob.dict = none := by
  cases x with
  | str z =>
    obtain ⟨t, rfl⟩ := r
    cases (show T = "str" from ty)
    exact ⟨typeIs_str s z t, fun _ e => nomatch e⟩
  | int i =>
    obtain ⟨t, rfl⟩ := r
    cases (show T = "int" from ty)
    exact ⟨typeIs_int s i t, fun _ e => nomatch e⟩
  | ref p =>
    cases r
    rcases ty with ⟨rfl, xs, hq⟩ | ⟨rfl, o, hk, hc, hd⟩ | ⟨rfl, hk⟩ | ⟨rfl, S, n, hk⟩
    · obtain ⟨its, _, pl, _⟩ := I.list hq
      refine ⟨pl.isList.typeIs, fun a e => ?_⟩
      cases e
      obtain ⟨o, n, e, c, hd, _⟩ := pl
      exact ⟨o, e, hd⟩
    · refine ⟨⟨o, I.kIn p o hk, hc⟩, fun a e => ?_⟩
      cases e
      exact ⟨o, I.kIn _ o hk, hd⟩
    · have z : ∃ o, s.heap.get? p = some o ∧ o.ExactDict := by
        rcases hk with ⟨kvs, hk⟩ | ⟨kvs, hk⟩
        · obtain ⟨_, _, _, _, o, _, _, e, ex, _⟩ := I.hok p _ hk
          exact ⟨o, e, ex⟩
        · obtain ⟨_, _, _, _, o, _, _, e, ex, _⟩ := I.hok p _ hk
          exact ⟨o, e, ex⟩
      obtain ⟨o, e, ex⟩ := z
      refine ⟨⟨o, e, ex.1⟩, fun a e2 => ?_⟩
      cases e2
      exact ⟨o, e, ex.2.1⟩
    · obtain ⟨o, _, _, _, e, ex, _⟩ := I.hok p _ hk
      refine ⟨⟨o, e, ex.1⟩, fun a e2 => ?_⟩
      cases e2
      exact ⟨o, e, ex.2.1⟩
  | _ => exact False.elim ty
def tBM (K : PySem.W.Frag) (T : String) (r : V → List V → Hp → VK → Prop) (to : TE) (t : TA) : TE := fun σ H Q => to σ H fun x H1 => tyV K T x H1 ∧ t σ H1 fun xs H2 => r x xs H2 Q
variable {o e : Expr} {es : List Expr} {to : TE} {t : TA} {name : Str} {apos cpos : Pos} {T id : String} {r : V → List V → Hp → VK → Prop}
theorem pe_bm (pa : PlainAttrs T) (slot : Slot T name id) (hty : typeOf (.builtin id) = pure (.type "method_descriptor")) (hm : MtR X id r) (ho : PE X o to) (ha : PA X (e :: es) t)
    (hbase : attributeBase o name X.env (eval o X.env) = eval o X.env := by rfl)
    (hfew : ((backTo cpos (starEach (e :: es) X.env)).all (fun x => !x.1) && (backToKw cpos (keywordEach [] X.env)).all (fun x => x.1.isSome)
      && decide ((e :: es).length + ([] : List Keyword).length + (if ([] : List Keyword).isEmpty then 0 else 1) < 30)) = true := by rfl)
    (hline : (apos.endLine == cpos.line) = true := by rfl) (hs : starEach (e :: es) X.env = (false, eval e X.env) :: starEach es X.env := by rfl) (hplain : (backTo cpos (starEach es X.env)).any (·.1) = false := by rfl) :
    PE X (.Call (.Attribute o name apos) (e :: es) [] cpos) (tBM X.K T r to t) := by
  intro pins s σ H Q I h
  refine wpAny_Call_method_late hbase hfew hline rfl (thn (ho pins s σ H _ I h) fun v s1 ⟨x, H1, I1, r1, ty, q1⟩ => ?_)
  obtain ⟨h1, h2⟩ := tyV_is I1 r1 ty
  refine ⟨T, id, pa, slot, hty, h1, h2, ?_⟩
  have hA := ha cpos pins s1 σ H1 _ I1 q1
  rw [hs] at hA ⊢
  refine Calls.callWith_builtin (by show (false || (backTo cpos (starEach es X.env)).any (·.1)) = false; rw [hplain] <;> rfl) (Calls.evalArgs_plain ?_)
  exact thn hA fun us s2 ⟨vs, H2, I2, r2, q2⟩ => hm pins s2 σ H2 x vs v us Q I2 r1 r2 q2
/- xs.append(e), list.index on a module's tuple .. are MtR facts of 06m -/
end
end L2
namespace L2
open PySem PySem.Spec PyProof.Rows
def MtM (X : Cx) (id : String) (r : V → List V → Hp → VK → Prop) : Prop :=
  ∀ (pins : List (Addr × Obj)) (s : Shared) (σ : St) (H : Hp) (x : V) (xs : List V) (v : Value) (us : List Value) (Q : VK), Inv X pins σ H s → RelV x v → Vals xs us → r x xs H Q →
    wpAny (model X.prog X.w) X.A (call (.builtin id) (v :: us)) (EP X pins σ Q) X.xe s
/-! ### lists of values -/
theorem Vals.one : ∀ {x : V} {us : List Value}, Vals [x] us → ∃ u, us = [u] ∧ RelV x u
  | _, _, .cons r .nil => ⟨_, rfl, r⟩
theorem Vals.two : ∀ {x y : V} {us : List Value}, Vals [x, y] us → ∃ u v, us = [u, v] ∧ RelV x u ∧ RelV y v
  | _, _, _, .cons r (.cons q .nil) => ⟨_, _, rfl, r, q⟩
theorem Vals.zero : ∀ {us : List Value}, Vals [] us → us = []
  | _, .nil => rfl
theorem Vals.rep {xs : List V} {us : List Value} (h : Vals xs us) : ∀ k : Nat, Vals (List.replicate k xs).flatten (List.replicate k us).flatten
  | 0 => .nil
  | k + 1 => by
    rw [List.replicate_succ, List.replicate_succ, List.flatten_cons, List.flatten_cons]
    exact Vals.append h (Vals.rep h k)
theorem foldl_rep (its : List Value) : ∀ (k : Nat) (acc : List Value),
    List.foldl (fun x1 x2 => x1 ++ x2) acc.toArray (List.replicate k its.toArray) = (acc ++ (List.replicate k its).flatten).toArray
  | 0, acc => by simp
  | k + 1, acc => by
    have e : acc.toArray ++ its.toArray = (acc ++ its).toArray := by simp
    have e2 : (acc ++ its) ++ (List.replicate k its).flatten = acc ++ (List.replicate (k + 1) its).flatten := by
      rw [List.replicate_succ, List.flatten_cons, List.append_assoc]
    rw [← e2, ← foldl_rep its k (acc ++ its), ← e, List.replicate_succ, List.foldl_cons]
section
variable {X : Cx} {pins : List (Addr × Obj)} {σ : St} {H : Hp} {s : Shared} {l b : Addr} {xs ys zs : List V}
/-! ### the two steps: a tracked list is rewritten, a new list is laid -/
theorem Inv.lset {its its' : List Value} {n : Nat} {f : Array Value → Array Value} {t' : Nat} (I : Inv X pins σ H s) (hH : H l = some (.lst xs))
    (e : s.heap.get? l = some { cls := .type "list", data := .seq its.toArray n }) (hf : f its.toArray = its'.toArray) (hv : Vals ys its') (hz : ys.length ≤ sizeLine) :
    Inv X pins σ (upd H l (.lst ys)) { s with heap := s.heap.update l (Obj.mapSeq f), toks := t' } := by
  have q := PySem.IsL.update e f
  rw [hf] at q
  refine I.write (x := l) (e := l) (by rw [hH]; exact trivial) (.inl rfl) (fun b' u hb hu => (Heap.get?_update_other s.heap (Obj.mapSeq f) (Ne.symm hb)).trans hu) ⟨_, q⟩ ?_
  exact ⟨hz, its', _, hv, q⟩
theorem Inv.lnew {its : List Value} {t' : Nat} (I : Inv X pins σ H s) (hv : Vals ys its) (hz : ys.length ≤ sizeLine) :
    Inv X pins σ (upd H s.heap.objs.size (.lst ys)) { s with heap := s.heap.push { cls := .type "list", data := .seq its.toArray }, toks := t' } :=
  I.laid (fun _ _ q => Heap.get?_push_of_some _ q) (Nat.le_refl _) ⟨hz, its, 0, hv, Heap.get?_push_size _ rfl⟩
theorem Inv.fresh (I : Inv X pins σ H s) : H s.heap.objs.size = none := I.hok.fresh (Nat.le_refl _)
theorem Inv.lstM (I : Inv X pins σ H s) (hH : H l = some (.lst xs)) : xs.length ≤ sizeLine ∧ ∃ (its : List Value) (n : Nat), Vals xs its ∧ xs.length = its.length ∧ s.heap.get? l = some { cls := .type "list", data := .seq its.toArray n } := by
  obtain ⟨z, its, n, r, e⟩ := I.hok l _ hH
  exact ⟨z, its, n, r, r.length, e⟩
theorem notLongL {n : Nat} (h : n ≤ sizeLine) : Builtin.List.listTooLong n = false := by
  unfold Builtin.List.listTooLong
  exact decide_eq_false (by omega)
end
section
variable {X : Cx}
/-! ### methods -/
def rAppend : V → List V → Hp → VK → Prop := fun x vs H Q => ∃ l xs y, x = .ref l ∧ vs = [y] ∧ H l = some (.lst xs) ∧ xs.length < sizeLine ∧ Q .non (upd H l (.lst (xs ++ [y])))
theorem mt_append : MtM X "list.append" rAppend := by
  intro pins s σ H x vs v us Q I rx rv h
  obtain ⟨l, xs, y, rfl, rfl, hH, hz, q⟩ := h
  cases rx
  obtain ⟨u, rfl, ru⟩ := rv.one
  obtain ⟨z, its, n, r, hl, e⟩ := I.lstM hH
  refine call_meets F.slot_list_append ⟨_, e, rfl⟩ F.entry_list_append (F.args_list_append_2 _ _) (PySem.list_append l its.toArray n u (by rw [List.size_toArray]; omega)) ⟨e, ?_⟩
  refine ⟨.non, _, I.lset (its' := its ++ [u]) hH e (by simp) (r.append (.cons ru .nil)) ?_, rfl, q⟩
  rw [List.length_append, List.length_singleton]
  omega
/-! ### list + list, list += list, list * int -/
/-- a list times an int (a negative one is nothing) -/
def rRep : R2 := fun x y H Q => ∃ l k xs, x = .ref l ∧ y = .int k ∧ H l = some (.lst xs) ∧ -(2 ^ 63) ≤ k ∧ k < 2 ^ 63 ∧ xs.length * k.toNat ≤ sizeLine ∧
  ∀ p, H p = none → Q (.ref p) (upd H p (.lst (List.replicate k.toNat xs).flatten))
theorem len_rep {α : Type} (xs : List α) (k : Nat) : (List.replicate k xs).flatten.length = k * xs.length := by
  induction k with
  | zero => simp
  | succ k ih => rw [List.replicate_succ, List.flatten_cons, List.length_append, ih, Nat.succ_mul, Nat.add_comm]
theorem op_rep : OpR X (binaryOp .Mult) rRep := by
  intro pins s σ H x y v u Q I rx ry h
  obtain ⟨l, k, xs, rfl, rfl, hH, h1, h2, hz, q⟩ := h
  cases rx
  obtain ⟨t, rfl⟩ := ry
  obtain ⟨z, its, n, r, hl, e⟩ := I.lstM hH
  have hlen : its.toArray.size * k.toNat ≤ sizeLine := by rw [List.size_toArray, ← hl]; exact hz
  have hcap : ¬ its.toArray.size * k.toNat > (2 ^ 63 - 1) / 8 := by
    have : (sizeLine : Nat) ≤ (2 ^ 63 - 1) / 8 := by decide
    omega
  have hfit : ¬ (!Builtin.List.listFitsIndex k) = true := by
    rw [fitsIndex_both h1 h2]
    exact Bool.false_ne_true
  have hlong : ¬ Builtin.List.listTooLong (its.toArray.size * k.toNat) = true := by
    rw [notLongL hlen]
    exact Bool.false_ne_true
  have hnew : List.foldl (fun x1 x2 => x1 ++ x2) #[] (List.replicate (if its.toArray.isEmpty = true then 0 else k.toNat) its.toArray) = (List.replicate k.toNat its).flatten.toArray := by
    have f0 : ∀ m : Nat, List.foldl (fun x1 x2 => x1 ++ x2) #[] (List.replicate m its.toArray) = (List.replicate m its).flatten.toArray := fun m => by
      have := foldl_rep its m []
      rw [List.nil_append] at this
      exact this
    rw [f0]
    cases its with
    | nil => simp
    | cons a r' => rw [if_neg (by simp)]
  refine wpAny_binaryOp_repeat_ref (T := "list") (U := "int") (by decide) ⟨_, e, rfl⟩ (fun s' => typeIs_int s' k t) noFill_list_mul F.fills_int_mul F.slot_int_rmul repeat_list F.slot_int_index.lookup
    (call_meets F.slot_int_rmul (typeIs_int s k t) F.entry_int_rmul (F.args_int_rmul_2 _ _) (int___rmul___int_list k t l its.toArray n)
      ⟨e, rfl, ⟨_, e, rfl⟩, call_meets F.slot_list_mul ⟨_, e, rfl⟩ F.entry_list_mul (F.args_list_mul_2 _ _) (AutoListH.list___mul___list_int_3 l its.toArray n k t hfit hcap hlong) ⟨e, ?_⟩⟩)
  rw [hnew]
  exact ⟨.ref _, _, I.lnew (t' := s.toks) (r.rep k.toNat) (by rw [len_rep, Nat.mul_comm]; exact hz), rfl, q _ I.fresh⟩
/-! ### del xs[i] -/
end
/-! ### xs[a:b] = ys -/
section
variable {prog : Program} {w : World} {A : Around} {E : Value → Shared → Prop} {s : Shared}
end
section
variable {X : Cx}
end
end L2
namespace Att
open PySem PySem.W PySem.Calls PyProof.Rows
/-! ### the script -/
theorem ints_of_wellAll {P : Params} {h : Heap} : ∀ (ns : List Int) (vs : List Value), WellAll P h vs (ns.map WData.int) → IntsAre vs ns := by
  intro ns
  induction ns with
  | nil =>
    intro vs w
    rw [List.map_nil] at w
    cases w
    exact .nil
  | cons n ns ih =>
    intro vs w
    rw [List.map_cons] at w
    cases w with
    | cons a b =>
      cases a
      exact .cons _ _ (ih _ b)
theorem script_of {l : OpenLaw} {n : Nat} (hn : l.most = some n) {P : Params} {h : Heap} {args : List WData} {vals : List Value}
    (hpre : l.row.toRowW.claim.pre args = true) (hwl : WellAll P h vals args) :
    ∃ a vs ns, vals = [Value.ref a] ∧ args = [WData.list (ns.map WData.int)] ∧ h.get? a = some { cls := .type "list", data := .seq vs.toArray } ∧ IntsAre vs ns ∧ ns.length ≤ n := by
  have hsh : WShape.hasAll [] args [.list .int] = true := (pre_splitW hpre).1
  have hc : l.pre.holds [] { args := args } = true := (pre_splitW hpre).2
  obtain ⟨d, r, rfl, h1, h2⟩ := hasAllW_cons hsh
  obtain rfl := hasAllW_nil h2
  obtain ⟨xs, rfl, h3⟩ := hasW_list h1
  obtain ⟨ns, rfl⟩ := items_int h3
  have hlen : ns.length ≤ n := by
    unfold OpenLaw.pre at hc
    have h4 : (WTm.not (.lt (.lit (.int (n : Int))) (.len (.arg 0)))).holds [] { args := [.list (ns.map .int)] } = true := by
      have h4 := (holds_andW hc).1
      rw [hn] at h4
      exact h4
    have h5 := condW_of h4 (w_not (w_lt w_lit (w_len_list (w_arg rfl))))
    rw [List.length_map] at h5
    refine Nat.le_of_not_lt fun q => ?_
    have q' : (n : Int) < ((ns.length : Nat) : Int) := by omega
    first
      | (rw [decide_eq_true q'] at h5; exact absurd h5 (by decide))
      | (simp at h5; omega)
  cases hwl with
  | cons w1 w2 =>
    cases w2
    cases w1 with
    | list ho hall => exact ⟨_, _, ns, rfl, rfl, ho, ints_of_wellAll ns _ hall, hlen⟩
theorem post_true (l : OpenLaw) (args : List WData) : l.row.toRowW.claim.post args (.bool true) args = true :=
  postW_of (r := l.row.toRowW) (X := (true == true))
    (show WShape.has [] (.bool true) .bool = true by first | rfl | decide | simp [WShape.has, WShape.arms, WShape.armsAll])
    (show (WTm.eq .res (.lit (.bool true))).value [] { args := args, res := some (.bool true), after := args } = some (.bool (true == true)) from w_eq_bool (w_res rfl) w_lit) rfl
/-! ### the attachment: holds_open's last premise (the goal 'hc' behind k_head) from a wpAny of the law's body -/
/-! ### rules over ANY heap (no ledger) from facts about the written part K: the library's own take a ledger (News) for what they write -/
section
variable {prog : Program} {w : World} {A : Around} {E : Value → Shared → Prop} {s : Shared} {K : Frag}
/-! the whole heap as the ledger: makes every rule that writes through a ledger a rule over any heap -/
def noObjs (h : Heap) : Heap := { h with objs := #[] }
theorem noObjs_get (h : Heap) (b : Addr) : (noObjs h).get? b = none := by
  cases e : (noObjs h).get? b with
  | none => rfl
  | some o => exact absurd (Heap.lt_size e) (Nat.not_lt_zero _)
def ledger (h : Heap) (L d : Addr) : List (Addr × Obj) := (List.range h.objs.size).filterMap fun a => if a = L ∨ a = d then none else (h.get? a).map fun o => (a, o)
theorem mem_ledger {h : Heap} {L d a : Addr} {o : Obj} : (a, o) ∈ ledger h L d ↔ a ≠ L ∧ a ≠ d ∧ h.get? a = some o := by
  unfold ledger
  rw [List.mem_filterMap]
  constructor
  · rintro ⟨b, _, e⟩
    split at e
    · cases e
    · rename_i hb
      obtain ⟨o', ho, e'⟩ := Option.map_eq_some_iff.mp e
      cases e'
      exact ⟨fun q => hb (.inl q), fun q => hb (.inr q), ho⟩
  · rintro ⟨n1, n2, ho⟩
    refine ⟨a, List.mem_range.mpr (Heap.lt_size ho), ?_⟩
    rw [if_neg (show ¬ (a = L ∨ a = d) from fun q => q.elim n1 n2), ho] <;> rfl
theorem fr_all {h : Heap} {L : Addr} {m : Str → Option Value} (n : h.Ns L m) : Fr (noObjs h) L h m :=
  ⟨n, fun b o e => (by rw [noObjs_get] at e; cases e), Nat.zero_le _⟩
end
end Att
namespace L2
open PySem PySem.Spec PyProof.Rows
theorem vals_ints : ∀ {vs : List Value} {ns : List Int}, IntsAre vs ns → Vals (ns.map V.int) vs
  | _, _, .nil => .nil
  | _, _, .cons n t h => .cons ⟨t, rfl⟩ (vals_ints h)
/-- nothing is tracked but the script, known to the object (or it is an object of the module) -/
def Only (H : Hp) : Prop := ∀ b, H b = none ∨ ∃ o xs, H b = some (.frz o (.lst xs))
/-- THE HEAD: the law's promise, at the heap behind the top. F, the promise of the law's def, may use that base is part of the heap (so K.In base, base.Ns mainGlobals mg stand in Mod) -/
theorem law_call {P : Program} {w : World} {K : PySem.W.Frag} {mg mb : Str → Option Value} {CX : CXT} {k : Nat} {fa a : Addr} {fd : FuncData} {x : Str} {sp : Sp} {s₁ : Shared} {vs : List Value} {ns : List Int}
    (KX : K.In s₁.heap) (hns : s₁.heap.Ns mainGlobals mg) (hb : s₁.heap.Ns builtinsNs mb) (hbb : ∀ x : Str, x ≠ "__name__" → mb x = bootBuiltins x) (hlim : s₁.heap.NoLimit) (hg : s₁.gens = #[])
    (ha : s₁.heap.get? a = some { cls := .type "list", data := .seq vs.toArray }) (hi : IntsAre vs ns) (hl : ns.length ≤ sizeLine) (hr : Room k callerA)
    (F : ∀ base : Heap, K.In base → base.Ns mainGlobals mg → FnOk P w K mg base CX k fa fd [x] sp) (hbind : ∀ (s : Shared) (u : Value), BindsTo s fd ⟨[u], []⟩ [(x, u)])
    (hsp : ∀ H : Hp, Only H → SqL K H a (ns.map V.int) → sp [.ref a] H (fun v _ => v = .bl true) fun _ _ _ => False)
    (hCX : ∀ H e s', CX [] H s₁ (fun _ _ _ => False) e s' → False) :
    codeAny (model P w) callerA (.call (.ref fa) ⟨[.ref a], []⟩) (fun r s' => r = .ok (.ret (.bool true)) ∧ OldK s₁.heap s'.heap ∧ s'.os = s₁.os ∧ AllBare s'.gens) s₁ := by
  have rv := vals_ints hi
  have lenV := hi.length
  -- from an abstract heap in which nothing but the script may be tracked
  have core : ∀ H : Hp, Only H → SqL K H a (ns.map V.int) → HOk P w H s₁.heap → (∀ b, H b ≠ none → b = a) → (H a ≠ none → K.lookup a = none) →
      codeAny (model P w) callerA (.call (.ref fa) ⟨[.ref a], []⟩) (fun r s' => r = .ok (.ret (.bool true)) ∧ OldK s₁.heap s'.heap ∧ s'.os = s₁.os ∧ AllBare s'.gens) s₁ := by
    intro H hO hS hok hA hK
    have base_of : ∀ {b : Addr} {o : Obj}, s₁.heap.get? b = some o → H b = none → (hidT s₁.heap H).get? b = some o := fun e n => hidT_get e n
    have noA : ∀ {b : Addr} {o : Obj} {es : Array DictEntry} {ep : Nat}, s₁.heap.get? b = some o → o.data = .dict es ep → H b = none := fun {b o es ep} e d => by
      cases q : H b with
      | none => rfl
      | some u =>
        have e' : b = a := hA b (by rw [q]; simp)
        subst e'
        rw [ha] at e; cases e
        have d' : Data.seq vs.toArray _ = Data.dict es ep := d
        cases d'
    have nsK : ∀ {b : Addr} {m : Str → Option Value}, s₁.heap.Ns b m → (hidT s₁.heap H).Ns b m := fun {b m} ⟨o, es, ep, e, d, r⟩ => ⟨o, es, ep, base_of e (noA e d), d, r⟩
    have hKb : K.In (hidT s₁.heap H) := fun b o e => base_of (KX b o e) (by
      cases q : H b with
      | none => rfl
      | some u =>
        have e' : b = a := hA b (by rw [q]; simp)
        subst e'
        rw [hK (by rw [q]; simp)] at e; cases e)
    have hM : Mod K mg (hidT s₁.heap H) := ⟨hKb, nsK hns, ⟨mb, nsK hb, hbb⟩, let ⟨mc, h1, h2⟩ := hlim; ⟨mc, nsK h1, h2⟩⟩
    have e0 : Env0 P w K mg (hidT s₁.heap H) callerA [] s₁ H := ⟨rfl, hM, fun b o e => of_hidT e, Nat.le_of_eq (hidT_size _ _), trivial, fun b hb => absurd (show b ∈ ([] : List Addr) from hb) (by simp), hok, .of_eq hg⟩
    refine codeAny_mono ((F _ hKb (nsK hns)).run callerA [] s₁ H ⟨[.ref a], []⟩ [.ref a] [.ref a] _ _ hr e0 (hbind s₁ (.ref a)) (.cons rfl .nil) (hsp H hO hS)) fun r s' h => ?_
    cases r with
    | error e => exact (hCX H e s' h).elim
    | ok fl =>
      cases fl with
      | next => exact False.elim h
      | brk => exact False.elim h
      | cont => exact False.elim h
      | ret u =>
        obtain ⟨v, H', os, bare, un, hok', r', q⟩ := h
        have q' : v = .bl true := q
        subst q'
        obtain rfl : u = Value.bool true := r'
        refine ⟨rfl, OldK.of_keep fun b o e => ?_, os, bare⟩
        cases q : H b with
        | none => exact un.keep b o e q (by intro z; exact absurd (show b ∈ ([] : List Addr) from z) (by simp)) (by simp)
        | some u =>
          rcases hO b with z | ⟨ob, xs, z⟩
          · rw [q] at z; cases z
          · have z2 := un.frzs b ob _ z
            obtain ⟨e1, _⟩ := hok b _ z
            obtain ⟨e2, _⟩ := hok' b _ z2
            rw [e] at e1; cases e1
            exact e2
  cases hk : K.lookup a with
  | some o =>
    -- the script is one of the module's own objects
    have e := KX a o hk
    rw [ha] at e
    cases e
    refine core (fun _ => none) (fun _ => .inl rfl) (.inr ⟨_, vs.toArray, _, hk, rfl, rfl, rfl, by rw [List.size_toArray, lenV]; exact hl, by simpa using rv⟩) (fun b u z => by have z' : (none : Option HO) = some u := z; cases z') (fun b z => absurd rfl z) fun z => absurd rfl z
  | none =>
    refine core (fun b => if b = a then some (.frz { cls := .type "list", data := .seq vs.toArray } (.lst (ns.map V.int))) else none) (fun b => ?_) (.inl (.inr ⟨{ cls := .type "list", data := .seq vs.toArray }, if_pos rfl⟩)) (fun b u z => ?_) (fun b z => ?_) fun _ => hk
    · by_cases hb : b = a
      · exact .inr ⟨_, _, if_pos hb⟩
      · exact .inl (if_neg hb)
    · by_cases hb : b = a
      · have z' := (if_pos hb).symm.trans z
        cases z'
        subst hb
        exact ⟨ha, by rw [List.length_map]; exact hl, vs, _, rv, ha⟩
      · have z' := (if_neg hb).symm.trans z
        cases z'
    · by_cases hb : b = a
      · exact hb
      · exact absurd (if_neg hb) z
end L2
namespace L2
open PySem PySem.Spec PyProof.Rows
end L2
/- THE LAST THEOREM (shape; LID, My.* are yours):
   My.Adr: a structure of the addresses that your layer names (classes, functions); My.Txt K t: a structure (Prop) of the equations over K;
   My.txt_mk : {K} {implicit addresses ..} (e1 : nsIn K mainGlobals "law" = some (some (.ref f))) (e2 : K.lookup f = some ⟨oc, od, .func (fnOf "law" "law" params body scope dV kV doc pm an cdv ct), sl⟩) (e3 : codeIn K cdv "law" = true) .. : ∃ t, My.Txt K t
set_option maxRecDepth 100000 in
set_option maxHeartbeats 0 in
theorem PySem.Challenge.cw_LID_holds : PySem.Challenge.rw_LID.Holds := by
  w_on; o_law; k_head; (case hw => w_witness2)
  k_fill
  refine L2.walk_of (l := PySem.Challenge.rw_LID) (n := 63) (k := 40) (x := "script") (CX := fun w => ..) (sp := fun _ => My.sp_law) rfl (by decide) rfl ⟨rfl, by decide, by decide⟩ (fun w h Y => PySem.W.kIn_of Y) ?F ?S ?C
  case F =>
    intro w mg fa h KX G hmg
    have T : ∃ t, My.Txt (L2.KOf KX) t := by
      dsimp only [L2.KOf]                          -- K must stand as «<heap const> w.params» for k_is
      refine' My.txt_mk ?e1 ?e2 ?e3 ..
      (case e1 => PySem.W.k_is)                    -- in the order: a name -> its address -> its object -> its parts
      (case e2 => PySem.W.k_is)
      ..
    obtain ⟨t, T⟩ := T
    have e0 := hmg.symm.trans (PySem.W.mg_of KX G T.law)
    cases e0                                       -- fa is the law's own address
    exact ⟨_, fun s u => .of_eq rfl, fun base kb nb => My.law_fn T kb nb⟩     -- if «.of_eq rfl» comes too early: refine' ⟨_, ?b, fun base kb nb => My.law_fn T kb nb⟩; exact fun s u => .of_eq rfl
  case S => exact fun w H a ns hl hO hS => ..
  case C => exact ..
(the tactic k_is has no namespace: write k_is) -/
/-! SHORT WORDS over the layer: a def of the text, its body, what a loop and a test want. -/
namespace L2
open PySem PySem.Spec PyProof.Rows
/-! ### the text by places -/
def defArgs (s : Stmt) : Arguments := match s with
  | .FunctionDef _ a _ _ _ _ _ _ _ _ => a
  | _ => { posonlyargs := [], args := [], vararg := none, kwonlyargs := [], kw_defaults := [], kwarg := none, defaults := [] }
def defBody (s : Stmt) : List Stmt := match s with
  | .FunctionDef _ _ b _ _ _ _ _ _ _ => b
  | _ => []
def defScope (s : Stmt) : Scope := match s with
  | .FunctionDef _ _ _ _ _ _ sc _ _ _ => sc
  | _ => { kind := .function, names := [], isGenerator := false, isCoroutine := false }
/-! ### no exception leaves a def -/
abbrev CX0 : CXT := fun _ _ _ _ _ _ => False
abbrev E0 : XK := fun _ _ _ => False
theorem pass0 {X : Cx} : Passes CX0 X E0 := fun _ _ _ _ _ _ _ h => h.elim
/-! ### a def (or method) of the text as it stands behind the top -/
structure Fun (K : PySem.W.Frag) (x qual : Str) (st : Stmt) (f : Addr) (fd : FuncData) : Prop where
  ex : ∃ (oc : Value) (od : Option Addr) (kV doc pm : Value) (an : Option Addr) (cdv ct : Value) (osl : Array (Option Value)),
    fd = PySem.W.fnOf x qual (defArgs st) (defBody st) (defScope st) .none kV doc pm an cdv ct ∧ K.lookup f = some ⟨oc, od, .func fd, osl⟩ ∧ PySem.W.codeIn K cdv qual = true
  kp : PySem.W.keepIn K (.ref f) = true
section
variable {P : Program} {w : World} {K : PySem.W.Frag} {mg : Str → Option Value} {base : Heap}
/-- THE RULE for a def: its body as a term of rules, and the reading of that term -/
theorem Fun.ok {x qual : Str} {st : Stmt} {f : Addr} {fd : FuncData} {N ps : List Str} {k : Nat} {sp : Sp} (F : Fun K x qual st f fd) (S : FnScope N ps (defScope st)) (len : ∀ vs H Q E, sp vs H Q E → vs.length = ps.length)
    (hbody : ∀ (cdv : Value) (A : Around) (outer : List Env) (s : Shared) (H : Hp) (vs : List V) (Q : VK) (E : XK), Room k (A.deeper (envOfC qual (defScope st) s.heap.objs.size f cdv)) → sp vs H Q E →
      ∃ t, PSs (cxOf CX0 P w K mg base N qual (defScope st) f cdv A outer s H E).nox (defBody st) t ∧ t { nx := fun _ H' => Q .non H', rt := Q } (start N vs) H) : FnOk P w K mg base CX0 (k + 1) f fd ps sp := by
  obtain ⟨oc, od, kV, doc, pm, an, cdv, ct, osl, rfl, lk, hcd⟩ := F.ex
  refine fn_of lk hcd S len fun A outer s H vs Q E hr hsp => ?_
  obtain ⟨t, h, q⟩ := hbody cdv A outer s H vs Q E hr hsp
  exact ⟨t, h.nox, q⟩
/-- how its arguments bind (no defaults): h is «fun _ _ _ _ _ _ us hl => match us, hl with | [_, _], _ => rfl», one _ a parameter -/
theorem Fun.binds {x qual : Str} {st : Stmt} {f : Addr} {fd : FuncData} {ps : List Str} (F : Fun K x qual st f fd)
    (h : ∀ (kV doc pm : Value) (an : Option Addr) (cdv ct : Value) (us : List Value), us.length = ps.length → bindArgs (PySem.W.fnOf x qual (defArgs st) (defBody st) (defScope st) .none kV doc pm an cdv ct) ⟨us, []⟩ = pure (ps.zip us)) : Binds K fd ps [] := by
  obtain ⟨oc, od, kV, doc, pm, an, cdv, ct, osl, rfl, lk, hcd⟩ := F.ex
  exact .all (h kV doc pm an cdv ct)
theorem fun_mk {x qual : Str} {st : Stmt} {f : Addr} {oc : Value} {od an : Option Addr} {osl : Array (Option Value)} {kV doc pm cdv ct : Value} (l : K.lookup f = some ⟨oc, od, .func (PySem.W.fnOf x qual (defArgs st) (defBody st) (defScope st) .none kV doc pm an cdv ct), osl⟩)
    (c : PySem.W.codeIn K cdv qual = true) (k : PySem.W.keepIn K (.ref f) = true) : Fun K x qual st f (PySem.W.fnOf x qual (defArgs st) (defBody st) (defScope st) .none kV doc pm an cdv ct) := ⟨⟨oc, od, kV, doc, pm, an, cdv, ct, osl, rfl, l, c⟩, k⟩
end
/-! ### expressions in short: the name that stands in the i-th slot -/
section
variable {X : Cx}
end
/-! ### tests -/
/-! ### heaps -/
/-- all that was tracked is as it was -/
def Same (H H' : Hp) : Prop := ∀ b o, H b = some o → H' b = some o
theorem Same.refl (H : Hp) : Same H H := fun _ _ h => h
theorem Same.trans {H H1 H2 : Hp} (a : Same H H1) (b : Same H1 H2) : Same H H2 := fun c o h => b c o (a c o h)
theorem Same.free {H H' : Hp} (e : Same H H') {l : Addr} (h : H' l = Option.none) : H l = Option.none := by
  cases q : H l with
  | none => rfl
  | some o =>
    rw [e l o q] at h
    cases h
theorem Same.seq {K : PySem.W.Frag} {H H' : Hp} {a : Addr} {xs : List V} (e : Same H H') (h : SqL K H a xs) : SqL K H' a xs := by
  rcases h with (h | ⟨o, h⟩) | h
  · exact .inl (.inl (e _ _ h))
  · exact .inl (.inr ⟨o, e _ _ h⟩)
  · exact .inr h
end L2
namespace L2
open PySem PySem.Spec PyProof.Rows
/-! ### lists of pairs as tables -/
section
variable {κ : Type} [DecidableEq κ]
def valV (kvs : List (κ × V)) (k : κ) : Option V := (kvs.find? fun kv => decide (kv.1 = k)).map (·.2)
/-- in its place, or at the end -/
def putK (kvs : List (κ × V)) (k : κ) (v : V) : List (κ × V) :=
  if (kvs.any fun kv => decide (kv.1 = k)) = true then kvs.map (fun kv => if kv.1 = k then (kv.1, v) else kv) else kvs ++ [(k, v)]
def dropK (kvs : List (κ × V)) (k : κ) : List (κ × V) := kvs.filter fun kv => decide (kv.1 ≠ k)
theorem valV_pos {p : κ × V} {r : List (κ × V)} {k : κ} (e : p.1 = k) : valV (p :: r) k = some p.2 := by simp [valV, List.find?_cons, e]
theorem valV_neg {p : κ × V} {r : List (κ × V)} {k : κ} (e : ¬ p.1 = k) : valV (p :: r) k = valV r k := by simp [valV, List.find?_cons, e]
theorem valV_any (k : κ) : ∀ kvs : List (κ × V), (kvs.any fun kv => decide (kv.1 = k)) = (valV kvs k).isSome
  | [] => rfl
  | p :: r => by
    rw [List.any_cons]
    by_cases e : p.1 = k
    · simp only [valV_pos e, decide_eq_true e, Bool.true_or, Option.isSome_some]
    · rw [valV_neg e, decide_eq_false e, Bool.false_or]; exact valV_any k r
theorem RelO.isSome_eq {o : Option V} {u : Option Value} (r : RelO o u) : o.isSome = u.isSome := by
  cases o with
  | none => cases u with
    | none => rfl
    | some _ => exact (show False from r).elim
  | some _ => cases u with
    | none => exact (show False from r).elim
    | some _ => rfl
theorem RelO.getD {o : Option V} {u : Option Value} {d : V} {d' : Value} (r : RelO o u) (rd : RelV d d') : RelV (o.getD d) (u.getD d') := by
  cases o with
  | none => cases u with
    | none => exact rd
    | some _ => exact (show False from r).elim
  | some _ => cases u with
    | none => exact (show False from r).elim
    | some _ => exact r
/-- raw tables of the same keys -/
theorem KV.val {kvs : List (κ × V)} {vs : List (κ × Value)} (r : KV kvs vs) (k : κ) : RelO (valV kvs k) (valueAt vs k) := by
  unfold KV at r
  induction r with
  | nil => exact True.intro
  | @cons p q ps qs h t ih =>
    obtain ⟨h1, h2⟩ := h
    by_cases e : p.1 = k
    · have e' : q.1 = k := h1.symm.trans e
      have b : valueAt (q :: qs) k = some q.2 := by simp [valueAt, List.find?_cons, e']
      rw [valV_pos e, b]; exact h2
    · have e' : ¬ q.1 = k := fun z => e (h1.trans z)
      have b : valueAt (q :: qs) k = valueAt qs k := by simp [valueAt, List.find?_cons, e']
      rw [valV_neg e, b]; exact ih
theorem KV.any {kvs : List (κ × V)} {vs : List (κ × Value)} (r : KV kvs vs) (k : κ) : (kvs.any fun kv => decide (kv.1 = k)) = vs.any fun kv => decide (kv.1 = k) := by
  unfold KV at r
  induction r with
  | nil => rfl
  | cons h t ih => rw [List.any_cons, List.any_cons, ih, h.1]
theorem KV.repl {kvs : List (κ × V)} {vs : List (κ × Value)} (r : KV kvs vs) (k : κ) {y : V} {u : Value} (ry : RelV y u) :
    KV (kvs.map fun kv => if kv.1 = k then (kv.1, y) else kv) (vs.map fun kv => if kv.1 = k then (kv.1, u) else kv) := by
  unfold KV at r ⊢
  induction r with
  | nil => exact .nil
  | @cons p q ps qs h t ih =>
    rw [List.map_cons, List.map_cons]
    refine .cons ?_ ih
    obtain ⟨h1, h2⟩ := h
    by_cases e : p.1 = k
    · rw [if_pos e, if_pos (h1.symm.trans e)]; exact ⟨h1, ry⟩
    · rw [if_neg e, if_neg (fun z => e (h1.trans z))]; exact ⟨h1, h2⟩
theorem KV.put {kvs : List (κ × V)} {vs : List (κ × Value)} (r : KV kvs vs) (k : κ) {y : V} {u : Value} (ry : RelV y u) : KV (putK kvs k y) (stored vs k u) := by
  unfold putK stored
  rw [r.any k]
  by_cases e : (vs.any fun kv => decide (kv.1 = k)) = true
  · rw [if_pos e, if_pos e]; exact r.repl k ry
  · rw [if_neg e, if_neg e]; exact Paired.snoc r ⟨rfl, ry⟩
theorem KV.drop {kvs : List (κ × V)} {vs : List (κ × Value)} (r : KV kvs vs) (k : κ) : KV (dropK kvs k) (without vs k) := by
  unfold KV at r ⊢
  unfold dropK without
  induction r with
  | nil => exact .nil
  | @cons p q ps qs h t ih =>
    obtain ⟨h1, h2⟩ := h
    rw [List.filter_cons, List.filter_cons]
    by_cases e : p.1 = k
    · have a : ¬ decide (p.1 ≠ k) = true := by simp [e]
      have b : ¬ decide (q.1 ≠ k) = true := by simp [h1.symm.trans e]
      rw [if_neg a, if_neg b]; exact ih
    · have e' : ¬ q.1 = k := fun z => e (h1.trans z)
      have a : decide (p.1 ≠ k) = true := by simp [e]
      have b : decide (q.1 ≠ k) = true := by simp [e']
      rw [if_pos a, if_pos b]; exact .cons ⟨h1, h2⟩ ih
theorem KV.keys {kvs : List (κ × V)} {vs : List (κ × Value)} (r : KV kvs vs) : kvs.map (·.1) = vs.map (·.1) := by
  unfold KV at r
  induction r with
  | nil => rfl
  | cons h t ih => rw [List.map_cons, List.map_cons, ih, h.1]
theorem KV.length {kvs : List (κ × V)} {vs : List (κ × Value)} (r : KV kvs vs) : kvs.length = vs.length := Paired.length r
end
/-! ### a tracked dict, its keys ints and texts or tuples of these -/
/-- raw entries of a dict with tuple keys -/
abbrev KT (H : Hp) : List (List Key × V) → List (List Key × Addr × Value) → Prop := Paired fun p q => p.1 = q.1 ∧ H q.2.1 = some (.tup (p.1.map kV)) ∧ RelV p.2 q.2.2
theorem KT.val {H : Hp} {kvs : List (List Key × V)} {xs : List (List Key × Addr × Value)} (r : KT H kvs xs) (k : List Key) : RelO (valV kvs k) ((atKey xs k).map (·.2)) := by
  induction r with
  | nil => exact True.intro
  | @cons p q ps qs h t ih =>
    obtain ⟨h1, _, h2⟩ := h
    by_cases e : p.1 = k
    · have e' : q.1 = k := h1.symm.trans e
      have b : atKey (q :: qs) k = some q.2 := by simp [atKey, List.find?_cons, e']
      rw [valV_pos e, b]; exact h2
    · have e' : ¬ q.1 = k := fun z => e (h1.trans z)
      have b : atKey (q :: qs) k = atKey qs k := by simp [atKey, List.find?_cons, e']
      rw [valV_neg e, b]; exact ih
theorem KT.repl {H : Hp} {kvs : List (List Key × V)} {xs : List (List Key × Addr × Value)} (r : KT H kvs xs) (k : List Key) {y : V} {u : Value} (ry : RelV y u) :
    KT H (kvs.map fun kv => if kv.1 = k then (kv.1, y) else kv) (xs.map (putAt k u)) := by
  induction r with
  | nil => exact .nil
  | @cons p q ps qs h t ih =>
    rw [List.map_cons, List.map_cons]
    refine .cons ?_ ih
    obtain ⟨h1, h2, h3⟩ := h
    unfold putAt
    by_cases e : p.1 = k
    · rw [if_pos e, if_pos (h1.symm.trans e)]; exact ⟨h1, h2, ry⟩
    · rw [if_neg e, if_neg (fun z => e (h1.trans z))]; exact ⟨h1, h2, h3⟩
theorem KT.put {H : Hp} {kvs : List (List Key × V)} {xs : List (List Key × Addr × Value)} (r : KT H kvs xs) (k : List Key) {b : Addr} {y : V} {u : Value} (hb : H b = some (.tup (k.map kV))) (ry : RelV y u) :
    KT H (putK kvs k y) (storedH xs k b u) := by
  have e : (kvs.any fun kv => decide (kv.1 = k)) = (atKey xs k).isSome := by
    rw [valV_any, (r.val k).isSome_eq, Option.isSome_map]
  unfold putK storedH
  rw [e]
  by_cases q : (atKey xs k).isSome = true
  · rw [if_pos q, if_pos q]; exact r.repl k ry
  · rw [if_neg q, if_neg q]; exact Paired.snoc r ⟨rfl, hb, ry⟩
theorem KT.keeps {H H' : Hp} {kvs : List (List Key × V)} {xs : List (List Key × Addr × Value)} (r : KT H kvs xs) (ht : ∀ b ys, H b = some (.tup ys) → H' b = some (.tup ys)) : KT H' kvs xs :=
  Paired.mapP r fun _ _ z => ⟨z.1, ht _ _ z.2.1, z.2.2⟩
section
variable {P : Program} {w : World} {H : Hp} {h : Heap} {a : Addr}
end
section
variable {X : Cx} {pins : List (Addr × Obj)} {σ : St} {H : Hp} {s : Shared} {a : Addr} {y v : V} {u r : Value} {o : Option V} {A : Around} {E : Value → Shared → Prop}
end
section
variable {X : Cx} {pins : List (Addr × Obj)} {σ : St} {H : Hp} {s : Shared} {a : Addr} {kvs : List (Key × V)} {k : Key} {u : Value} {A : Around} {E : Value → Shared → Prop}
end
/-! ### readings and rules -/
section
variable {X : Cx} {o i e value : Expr} {pos pos' tpos : Pos} {td ty tv : TE}
end
/-! ### displays -/
section
variable {X : Cx} {pos : Pos}
end
/-! ### methods -/
/-- a method call o.m(e) of a built-in, with one argument: what must be seen of the text -/
structure M1 (X : Cx) (o : Expr) (m : Str) (apos : Pos) (e : Expr) (cpos : Pos) : Prop where
  base : attributeBase o m X.env (eval o X.env) = eval o X.env
  few : ((backTo cpos (starEach [e] X.env)).all (fun x => !x.1) && (backToKw cpos (keywordEach [] X.env)).all (fun x => x.1.isSome)
    && decide (([e] : List Expr).length + ([] : List Keyword).length + (if ([] : List Keyword).isEmpty then 0 else 1) < 30)) = true
  line : (apos.endLine == cpos.line) = true
  trees : backTo cpos (starEach [e] X.env) = [(false, eval e X.env)]
structure M2 (X : Cx) (o : Expr) (m : Str) (apos : Pos) (e f : Expr) (cpos : Pos) : Prop where
  base : attributeBase o m X.env (eval o X.env) = eval o X.env
  few : ((backTo cpos (starEach [e, f] X.env)).all (fun x => !x.1) && (backToKw cpos (keywordEach [] X.env)).all (fun x => x.1.isSome)
    && decide (([e, f] : List Expr).length + ([] : List Keyword).length + (if ([] : List Keyword).isEmpty then 0 else 1) < 30)) = true
  line : (apos.endLine == cpos.line) = true
  trees : backTo cpos (starEach [e, f] X.env) = [(false, eval e X.env), (false, eval f X.env)]
section
variable {X : Cx} {pins : List (Addr × Obj)} {σ : St} {H : Hp} {s : Shared} {a : Addr} {y d : V} {u r : Value} {o : Option V} {A : Around} {E : Value → Shared → Prop}
end
section
variable {X : Cx} {o e f : Expr} {apos cpos : Pos} {td ty tx : TE}
end
/-! ### dict(d): a copy -/
section
variable {X : Cx} {pins : List (Addr × Obj)} {σ : St} {H : Hp} {s : Shared} {a : Addr} {kvs : List (Key × V)} {A : Around} {E : Value → Shared → Prop}
end
section
variable {X : Cx} {pins : List (Addr × Obj)} {σ : St} {H : Hp} {s : Shared} {a : Addr} {y : V} {u : Value} {A : Around} {E : Value → Shared → Prop}
end
end L2
namespace L2
open PySem PySem.Spec PyProof.Rows
section
variable {X : Cx}
end
end L2
namespace L2
/-! ### a dict's pairs: keys that differ -/
section
variable {κ : Type} [DecidableEq κ]
end
end L2
/-! THE VALUE LAYER: a def of the text as a function over plain data (tuples are trees, what changes lies in a list of objects), and its soundness over the hand layer. -/
namespace DL
open PySem PySem.Spec L2
open PyProof.Rows hiding St
inductive D where
  | non | bl (b : Bool) | int (i : Int) | str (x : Str) | ty (n : String)
  | tup (xs : List D)
  | fl (xs : List D)
  | ref (i : Nat)
inductive DO where
  | lst (xs : List D)
  | dct (kvs : List (Key × D))
  | gone
abbrev DH := List DO
abbrev DSt := List (Option D)
structure Xn where
  cls : Str
  fs : List (Str × D)
inductive R (α : Type) where
  | ok (a : α) (G : DH)
  | err (x : Xn) (G : DH)
  | bad
def R.bind {α β : Type} (r : R α) (f : α → DH → R β) : R β := match r with
  | .ok a G => f a G
  | .err x G => .err x G
  | .bad => .bad
@[simp] theorem R.bind_ok {α β : Type} (a : α) (G : DH) (f : α → DH → R β) : (R.ok a G).bind f = f a G := id rfl
@[simp] theorem R.bind_bad {α β : Type} (f : α → DH → R β) : (R.bad : R α).bind f = .bad := id rfl
inductive SR where
  | nx (S : DSt) (G : DH)
  | rt (d : D) (G : DH)
  | bk (S : DSt) (G : DH)
  | ct (S : DSt) (G : DH)
  | err (x : Xn) (G : DH)
  | bad
abbrev DE := DSt → DH → R D
abbrev DB := DSt → DH → R Bool
abbrev DA := DSt → DH → R (List D)
abbrev DS := DSt → DH → SR
/-! ### representation -/
/-- a list that never changes -/
def FzL (K : PySem.W.Frag) (H : Hp) (a : Addr) (xs : List V) : Prop :=
  (∃ o, H a = some (.frz o (.lst xs))) ∨
    ∃ (o : Obj) (its : Array Value) (n : Nat), K.lookup a = some o ∧ o.cls = .type "list" ∧ o.dict = none ∧ o.data = .seq its n ∧ its.size ≤ sizeLine ∧ Vals xs its.toList
theorem FzL.sq {K : PySem.W.Frag} {H : Hp} {a : Addr} {xs : List V} (h : FzL K H a xs) : SqL K H a xs := by
  rcases h with ⟨o, h⟩ | h
  · exact .inl (.inr ⟨o, h⟩)
  · exact .inr h
structure Wd where
  K : PySem.W.Frag
  n : Nat
  m : Nat → Addr
  H : Hp
mutual
def Rep (a : Wd) : D → V → Prop
  | .non, v => v = .non
  | .bl b, v => v = .bl b
  | .int i, v => v = .int i
  | .str x, v => v = .str x
  | .ty n, v => v = .ty n
  | .tup ds, v => ∃ p vs, v = .ref p ∧ SqT a.K a.H p vs ∧ Reps a ds vs
  | .fl ds, v => ∃ p vs, v = .ref p ∧ FzL a.K a.H p vs ∧ Reps a ds vs
  | .ref i, v => i < a.n ∧ v = .ref (a.m i)
def Reps (a : Wd) : List D → List V → Prop
  | [], vs => vs = []
  | d :: ds, vs => ∃ v r, vs = v :: r ∧ Rep a d v ∧ Reps a ds r
end
/-- what is known stays known -/
structure Ext (a b : Wd) : Prop where
  k : b.K = a.K
  n : a.n ≤ b.n
  m : ∀ i, i < a.n → b.m i = a.m i
  tup : ∀ p xs, a.H p = some (.tup xs) → b.H p = some (.tup xs)
  frz : ∀ p o u, a.H p = some (.frz o u) → b.H p = some (.frz o u)
theorem Ext.refl (a : Wd) : Ext a a := ⟨rfl, Nat.le_refl _, fun _ _ => rfl, fun _ _ h => h, fun _ _ _ h => h⟩
theorem Ext.trans {a b c : Wd} (x : Ext a b) (y : Ext b c) : Ext a c :=
  ⟨y.k.trans x.k, Nat.le_trans x.n y.n, fun i h => (y.m i (Nat.lt_of_lt_of_le h x.n)).trans (x.m i h), fun p xs h => y.tup p xs (x.tup p xs h), fun p o u h => y.frz p o u (x.frz p o u h)⟩
theorem Ext.sqT {a b : Wd} (x : Ext a b) {p : Addr} {xs : List V} (h : SqT a.K a.H p xs) : SqT b.K b.H p xs := by
  rcases h with (h | ⟨o, h⟩) | h
  · exact .inl (.inl (x.tup _ _ h))
  · exact .inl (.inr ⟨o, x.frz _ _ _ h⟩)
  · exact .inr (by rw [x.k]; exact h)
theorem Ext.fzL {a b : Wd} (x : Ext a b) {p : Addr} {xs : List V} (h : FzL a.K a.H p xs) : FzL b.K b.H p xs := by
  rcases h with ⟨o, h⟩ | h
  · exact .inl ⟨o, x.frz _ _ _ h⟩
  · exact .inr (by rw [x.k]; exact h)
mutual
theorem Rep.mono {a b : Wd} (x : Ext a b) : ∀ {d : D} {v : V}, Rep a d v → Rep b d v
  | .non, _, h => h
  | .bl _, _, h => h
  | .int _, _, h => h
  | .str _, _, h => h
  | .ty _, _, h => h
  | .tup ds, v, h => by
    obtain ⟨p, vs, e, q, r⟩ := h
    exact ⟨p, vs, e, x.sqT q, Reps.mono x r⟩
  | .fl ds, v, h => by
    obtain ⟨p, vs, e, q, r⟩ := h
    exact ⟨p, vs, e, x.fzL q, Reps.mono x r⟩
  | .ref i, v, h => by
    obtain ⟨l, e⟩ := h
    exact ⟨Nat.lt_of_lt_of_le l x.n, by rw [x.m i l]; exact e⟩
theorem Reps.mono {a b : Wd} (x : Ext a b) : ∀ {ds : List D} {vs : List V}, Reps a ds vs → Reps b ds vs
  | [], _, h => h
  | d :: ds, vs, h => by
    obtain ⟨v, r, e, h1, h2⟩ := h
    exact ⟨v, r, e, Rep.mono x h1, Reps.mono x h2⟩
end
theorem Reps.length {a : Wd} : ∀ {ds : List D} {vs : List V}, Reps a ds vs → ds.length = vs.length
  | [], vs, h => by cases (show vs = [] from h); rfl
  | d :: ds, vs, h => by
    obtain ⟨v, r, e, h1, h2⟩ := h
    subst e
    show ds.length + 1 = r.length + 1
    rw [Reps.length h2]
theorem Reps.get {a : Wd} : ∀ {ds : List D} {vs : List V} {i : Nat} {d : D}, Reps a ds vs → ds[i]? = some d → ∃ v, vs[i]? = some v ∧ Rep a d v
  | [], vs, _, _, h, e => by simp at e
  | d :: ds, vs, 0, d', h, e => by
    obtain ⟨v, r, e1, h1, h2⟩ := h
    subst e1
    simp at e
    subst e
    exact ⟨v, rfl, h1⟩
  | d :: ds, vs, i + 1, d', h, e => by
    obtain ⟨v, r, e1, h1, h2⟩ := h
    subst e1
    obtain ⟨w, e2, h3⟩ := Reps.get (i := i) (d := d') h2 (by simpa using e)
    exact ⟨w, by simpa using e2, h3⟩
theorem Reps.get' {a : Wd} : ∀ {ds : List D} {vs : List V} {i : Nat} {v : V}, Reps a ds vs → vs[i]? = some v → ∃ d, ds[i]? = some d ∧ Rep a d v
  | [], vs, _, _, h, e => by cases (show vs = [] from h); simp at e
  | d :: ds, vs, 0, v', h, e => by
    obtain ⟨v, r, e1, h1, h2⟩ := h
    subst e1
    simp at e
    subst e
    exact ⟨d, rfl, h1⟩
  | d :: ds, vs, i + 1, v', h, e => by
    obtain ⟨v, r, e1, h1, h2⟩ := h
    subst e1
    obtain ⟨w, e2, h3⟩ := Reps.get' (i := i) (v := v') h2 (by simpa using e)
    exact ⟨w, by simpa using e2, h3⟩
theorem Reps.append {a : Wd} : ∀ {ds es : List D} {vs us : List V}, Reps a ds vs → Reps a es us → Reps a (ds ++ es) (vs ++ us)
  | [], _, vs, _, h, h' => by cases (show vs = [] from h); exact h'
  | d :: ds, es, vs, us, h, h' => by
    obtain ⟨v, r, e1, h1, h2⟩ := h
    subst e1
    exact ⟨v, r ++ us, rfl, h1, Reps.append h2 h'⟩
theorem Reps.cons {a : Wd} {d : D} {v : V} {ds : List D} {vs : List V} (h : Rep a d v) (r : Reps a ds vs) : Reps a (d :: ds) (v :: vs) := ⟨v, vs, rfl, h, r⟩
theorem Reps.nil {a : Wd} : Reps a [] [] := rfl
theorem Reps.set {a : Wd} {d : D} {v : V} (h : Rep a d v) : ∀ {ds : List D} {vs : List V} (i : Nat), Reps a ds vs → Reps a (ds.set i d) (vs.set i v)
  | [], vs, _, r => by cases (show vs = [] from r); exact rfl
  | d' :: ds, vs, 0, r => by
    obtain ⟨v', r', e1, h1, h2⟩ := r
    subst e1
    exact ⟨v, r', rfl, h, h2⟩
  | d' :: ds, vs, i + 1, r => by
    obtain ⟨v', r', e1, h1, h2⟩ := r
    subst e1
    exact ⟨v', r'.set i v, rfl, h1, Reps.set h i h2⟩
theorem Reps.take {a : Wd} : ∀ {ds : List D} {vs : List V} (i : Nat), Reps a ds vs → Reps a (ds.take i) (vs.take i)
  | _, _, 0, _ => rfl
  | [], vs, _ + 1, r => by cases (show vs = [] from r); exact rfl
  | d' :: ds, vs, i + 1, r => by
    obtain ⟨v', r', e1, h1, h2⟩ := r
    subst e1
    exact ⟨v', r'.take i, rfl, h1, Reps.take i h2⟩
theorem Reps.drop {a : Wd} : ∀ {ds : List D} {vs : List V} (i : Nat), Reps a ds vs → Reps a (ds.drop i) (vs.drop i)
  | _, _, 0, r => r
  | [], vs, _ + 1, r => by cases (show vs = [] from r); exact rfl
  | d' :: ds, vs, i + 1, r => by
    obtain ⟨v', r', e1, h1, h2⟩ := r
    subst e1
    exact Reps.drop i h2
theorem Reps.ints {a : Wd} : ∀ (ns : List Int), Reps a (ns.map D.int) (ns.map V.int)
  | [] => rfl
  | n :: ns => ⟨.int n, ns.map V.int, rfl, rfl, Reps.ints ns⟩
/-- a dict's pairs -/
def RepKV (a : Wd) (kvs : List (Key × D)) (us : List (Key × V)) : Prop := kvs.map (·.1) = us.map (·.1) ∧ Reps a (kvs.map (·.2)) (us.map (·.2))
def ORep (a : Wd) : DO → Option HO → Prop
  | .lst ds, o => ∃ vs, o = some (.lst vs) ∧ Reps a ds vs
  | .dct kvs, o => ∃ us, o = some (.dK us) ∧ RepKV a kvs us
  | .gone, _ => True
/-- the objects' list is held by the abstract heap -/
structure Sim (a : Wd) (G : DH) : Prop where
  len : G.length = a.n
  inj : ∀ i j, i < a.n → j < a.n → a.m i = a.m j → i = j
  obj : ∀ (i : Nat) (o : DO), G[i]? = some o → ORep a o (a.H (a.m i))
  tr : ∀ i, i < a.n → a.H (a.m i) ≠ none
structure RepS (a : Wd) (S : DSt) (σ : St) : Prop where
  len : S.length = σ.length
  get : ∀ (i : Nat) (d : D), S[i]? = some (some d) → ∃ v, σ[i]? = some (some v) ∧ Rep a d v
theorem RepS.mono {a b : Wd} (x : Ext a b) {S : DSt} {σ : St} (r : RepS a S σ) : RepS b S σ := ⟨r.len, fun i d h => let ⟨v, e, q⟩ := r.get i d h; ⟨v, e, q.mono x⟩⟩
theorem RepS.set {a : Wd} {S : DSt} {σ : St} (r : RepS a S σ) (i : Nat) {d : D} {v : V} (h : Rep a d v) : RepS a (S.set i (some d)) (σ.set i (some v)) := by
  refine ⟨by simpa using r.len, fun j e he => ?_⟩
  rw [List.getElem?_set] at he ⊢
  by_cases hij : i = j
  · subst hij
    rw [if_pos rfl] at he ⊢
    by_cases hl : i < S.length
    · rw [if_pos hl] at he
      have e1 : d = e := by simpa using he
      subst e1
      rw [if_pos (by rw [← r.len]; exact hl)]
      exact ⟨v, rfl, h⟩
    · rw [if_neg hl] at he
      cases he
  · rw [if_neg hij] at he ⊢
    exact r.get j e he
/-! ### outcomes -/
/-- what is wanted of an exception -/
def XOk (E : XK) (a : Wd) (x : Xn) (G : DH) : Prop := False
def out (E : XK) (a : Wd) (r : R D) (Q : VK) : Prop := match r with
  | .ok d G => ∀ (b : Wd) (v : V), Ext a b → Sim b G → Rep b d v → Q v b.H
  | .err x G => XOk E a x G
  | .bad => False
def outB (E : XK) (a : Wd) (r : R Bool) (Q : Bool → Hp → Prop) : Prop := match r with
  | .ok k G => ∀ (b : Wd), Ext a b → Sim b G → Q k b.H
  | .err x G => XOk E a x G
  | .bad => False
def outA (E : XK) (a : Wd) (r : R (List D)) (Q : List V → Hp → Prop) : Prop := match r with
  | .ok ds G => ∀ (b : Wd) (vs : List V), Ext a b → Sim b G → Reps b ds vs → Q vs b.H
  | .err x G => XOk E a x G
  | .bad => False
def outS (E : XK) (a : Wd) (r : SR) (W : Ends) : Prop := match r with
  | .nx S G => ∀ (b : Wd) (σ : St), Ext a b → Sim b G → RepS b S σ → W.nx σ b.H
  | .bk S G => ∀ (b : Wd) (σ : St), Ext a b → Sim b G → RepS b S σ → W.bk σ b.H
  | .ct S G => ∀ (b : Wd) (σ : St), Ext a b → Sim b G → RepS b S σ → W.ct σ b.H
  | .rt d G => ∀ (b : Wd) (v : V), Ext a b → Sim b G → Rep b d v → W.rt v b.H
  | .err x G => XOk E a x G
  | .bad => False
theorem XOk.mono {E : XK} {a b : Wd} (x : Ext a b) {e : Xn} {G : DH} (h : XOk E a e G) : XOk E b e G := h
theorem out.mono {E : XK} {a b : Wd} (x : Ext a b) {r : R D} {Q : VK} (h : out E a r Q) : out E b r Q := by
  cases r with
  | ok d G => exact fun c v y s q => h c v (x.trans y) s q
  | err e G => exact XOk.mono (E := E) (e := e) (G := G) x h
  | bad => exact h
theorem outB.mono {E : XK} {a b : Wd} (x : Ext a b) {r : R Bool} {Q : Bool → Hp → Prop} (h : outB E a r Q) : outB E b r Q := by
  cases r with
  | ok d G => exact fun c y s => h c (x.trans y) s
  | err e G => exact XOk.mono (E := E) (e := e) (G := G) x h
  | bad => exact h
theorem outA.mono {E : XK} {a b : Wd} (x : Ext a b) {r : R (List D)} {Q : List V → Hp → Prop} (h : outA E a r Q) : outA E b r Q := by
  cases r with
  | ok d G => exact fun c vs y s q => h c vs (x.trans y) s q
  | err e G => exact XOk.mono (E := E) (e := e) (G := G) x h
  | bad => exact h
theorem outS.mono {E : XK} {a b : Wd} (x : Ext a b) {r : SR} {W : Ends} (h : outS E a r W) : outS E b r W := by
  cases r with
  | nx d G => exact fun c vs y s q => h c vs (x.trans y) s q
  | bk d G => exact fun c vs y s q => h c vs (x.trans y) s q
  | ct d G => exact fun c vs y s q => h c vs (x.trans y) s q
  | rt d G => exact fun c vs y s q => h c vs (x.trans y) s q
  | err e G => exact XOk.mono (E := E) (e := e) (G := G) x h
  | bad => exact h
/-! ### readings -/
def lE (K : PySem.W.Frag) (E : XK) (t : DE) : TE := fun σ H Q => ∃ (a : Wd) (S : DSt) (G : DH), a.K = K ∧ a.H = H ∧ Sim a G ∧ RepS a S σ ∧ out E a (t S G) Q
def lB (K : PySem.W.Frag) (E : XK) (t : DB) : TT := fun σ H Q => ∃ (a : Wd) (S : DSt) (G : DH), a.K = K ∧ a.H = H ∧ Sim a G ∧ RepS a S σ ∧ outB E a (t S G) Q
def lA (K : PySem.W.Frag) (E : XK) (t : DA) : TA := fun σ H Q => ∃ (a : Wd) (S : DSt) (G : DH), a.K = K ∧ a.H = H ∧ Sim a G ∧ RepS a S σ ∧ outA E a (t S G) Q
def lS (K : PySem.W.Frag) (E : XK) (t : DS) : TS := fun W σ H => ∃ (a : Wd) (S : DSt) (G : DH), a.K = K ∧ a.H = H ∧ Sim a G ∧ RepS a S σ ∧ outS E a (t S G) W
/-- values in, a value out -/
def lR2 (K : PySem.W.Frag) (E : XK) (f : D → D → DH → R D) : R2 := fun x y H Q => ∃ (a : Wd) (G : DH) (d e : D), a.K = K ∧ a.H = H ∧ Sim a G ∧ Rep a d x ∧ Rep a e y ∧ out E a (f d e G) Q
def lRn (K : PySem.W.Frag) (E : XK) (f : List D → DH → R D) : List V → Hp → VK → Prop := fun xs H Q => ∃ (a : Wd) (G : DH) (ds : List D), a.K = K ∧ a.H = H ∧ Sim a G ∧ Reps a ds xs ∧ out E a (f ds G) Q
/-- a def's promise -/
def lF (K : PySem.W.Frag) (f : List D → DH → R D) : Sp := fun xs H Q E => ∃ (a : Wd) (G : DH) (ds : List D), a.K = K ∧ a.H = H ∧ Sim a G ∧ Reps a ds xs ∧ out E a (f ds G) Q
section
variable {X : Cx} {E : XK}
def QE (X : Cx) (E : XK) (e : Expr) (t : DE) : Prop := PE X e (lE X.K E t)
def QT (X : Cx) (E : XK) (e : Expr) (t : DB) : Prop := PT X e (lB X.K E t)
def QA (X : Cx) (E : XK) (es : List Expr) (t : DA) : Prop := PA X es (lA X.K E t)
def QS (X : Cx) (E : XK) (st : Stmt) (t : DS) : Prop := PS X st (lS X.K E t)
def QSs (X : Cx) (E : XK) (st : List Stmt) (t : DS) : Prop := PSs X st (lS X.K E t)
theorem _root_.L2.PE.mono {e : Expr} {t t' : TE} (h : PE X e t) (w : ∀ σ H Q, t' σ H Q → t σ H Q) : PE X e t' := fun pins s σ H Q I q => h pins s σ H Q I (w σ H Q q)
theorem _root_.L2.PT.mono {e : Expr} {t t' : TT} (h : PT X e t) (w : ∀ σ H Q, t' σ H Q → t σ H Q) : PT X e t' := fun pins s σ H Q I q => h pins s σ H Q I (w σ H Q q)
theorem _root_.L2.PA.mono {e : List Expr} {t t' : TA} (h : PA X e t) (w : ∀ σ H Q, t' σ H Q → t σ H Q) : PA X e t' := fun pos pins s σ H Q I q => h pos pins s σ H Q I (w σ H Q q)
theorem _root_.L2.PS.mono {e : Stmt} {t t' : TS} (h : PS X e t) (w : ∀ W σ H, t' W σ H → t W σ H) : PS X e t' := fun pins s σ H W I q => h pins s σ H W I (w W σ H q)
theorem _root_.L2.PSs.mono {e : List Stmt} {t t' : TS} (h : PSs X e t) (w : ∀ W σ H, t' W σ H → t W σ H) : PSs X e t' := fun pins s σ H W I q => h pins s σ H W I (w W σ H q)
theorem _root_.L2.OpR.mono {f : Value → Value → Sem Value} {r r' : R2} (h : OpR X f r) (w : ∀ x y H Q, r' x y H Q → r x y H Q) : OpR X f r' := fun pins s σ H x y v u Q I rx ry q => h pins s σ H x y v u Q I rx ry (w _ _ _ _ q)
end
/-- the next state, as a bind's second part finds it -/
theorem out_bind {E : XK} {a : Wd} {r : R D} {f : D → DH → R D} {Q : VK} (h : out E a (r.bind f) Q) :
    out E a r (fun v H => ∃ (b : Wd) (d : D) (G : DH), b.H = H ∧ Ext a b ∧ Sim b G ∧ Rep b d v ∧ r = .ok d G ∧ out E b (f d G) Q) := by
  cases r with
  | ok d G => exact fun b v x s q => ⟨b, d, G, rfl, x, s, q, rfl, out.mono x h⟩
  | err e G => exact h
  | bad => exact h
theorem out_bindA {E : XK} {a : Wd} {r : R (List D)} {f : List D → DH → R D} {Q : VK} (h : out E a (r.bind f) Q) :
    outA E a r (fun vs H => ∃ (b : Wd) (ds : List D) (G : DH), b.H = H ∧ Ext a b ∧ Sim b G ∧ Reps b ds vs ∧ r = .ok ds G ∧ out E b (f ds G) Q) := by
  cases r with
  | ok d G => exact fun b v x s q => ⟨b, d, G, rfl, x, s, q, rfl, out.mono x h⟩
  | err e G => exact h
  | bad => exact h
theorem out_bindB {E : XK} {a : Wd} {r : R Bool} {f : Bool → DH → R D} {Q : VK} (h : out E a (r.bind f) Q) :
    outB E a r (fun k H => ∃ (b : Wd) (G : DH), b.H = H ∧ Ext a b ∧ Sim b G ∧ r = .ok k G ∧ out E b (f k G) Q) := by
  cases r with
  | ok d G => exact fun b x s => ⟨b, G, rfl, x, s, rfl, out.mono x h⟩
  | err e G => exact h
  | bad => exact h
theorem outB_bind {E : XK} {a : Wd} {r : R D} {f : D → DH → R Bool} {Q : Bool → Hp → Prop} (h : outB E a (r.bind f) Q) :
    out E a r (fun v H => ∃ (b : Wd) (d : D) (G : DH), b.H = H ∧ Ext a b ∧ Sim b G ∧ Rep b d v ∧ r = .ok d G ∧ outB E b (f d G) Q) := by
  cases r with
  | ok d G => exact fun b v x s q => ⟨b, d, G, rfl, x, s, q, rfl, outB.mono x h⟩
  | err e G => exact h
  | bad => exact h
theorem outB_bindB {E : XK} {a : Wd} {r : R Bool} {f : Bool → DH → R Bool} {Q : Bool → Hp → Prop} (h : outB E a (r.bind f) Q) :
    outB E a r (fun k H => ∃ (b : Wd) (G : DH), b.H = H ∧ Ext a b ∧ Sim b G ∧ r = .ok k G ∧ outB E b (f k G) Q) := by
  cases r with
  | ok d G => exact fun b x s => ⟨b, G, rfl, x, s, rfl, outB.mono x h⟩
  | err e G => exact h
  | bad => exact h
theorem outA_bind {E : XK} {a : Wd} {r : R D} {f : D → DH → R (List D)} {Q : List V → Hp → Prop} (h : outA E a (r.bind f) Q) :
    out E a r (fun v H => ∃ (b : Wd) (d : D) (G : DH), b.H = H ∧ Ext a b ∧ Sim b G ∧ Rep b d v ∧ r = .ok d G ∧ outA E b (f d G) Q) := by
  cases r with
  | ok d G => exact fun b v x s q => ⟨b, d, G, rfl, x, s, q, rfl, outA.mono x h⟩
  | err e G => exact h
  | bad => exact h
theorem outA_bindA {E : XK} {a : Wd} {r : R (List D)} {f : List D → DH → R (List D)} {Q : List V → Hp → Prop} (h : outA E a (r.bind f) Q) :
    outA E a r (fun vs H => ∃ (b : Wd) (ds : List D) (G : DH), b.H = H ∧ Ext a b ∧ Sim b G ∧ Reps b ds vs ∧ r = .ok ds G ∧ outA E b (f ds G) Q) := by
  cases r with
  | ok d G => exact fun b v x s q => ⟨b, d, G, rfl, x, s, q, rfl, outA.mono x h⟩
  | err e G => exact h
  | bad => exact h
def R.toS {α : Type} (r : R α) (f : α → DH → SR) : SR := match r with
  | .ok a G => f a G
  | .err x G => .err x G
  | .bad => .bad
@[simp] theorem R.toS_ok {α : Type} (a : α) (G : DH) (f : α → DH → SR) : (R.ok a G).toS f = f a G := id rfl
@[simp] theorem R.toS_bad {α : Type} (f : α → DH → SR) : (R.bad : R α).toS f = .bad := id rfl
theorem outS_toS {E : XK} {a : Wd} {r : R D} {f : D → DH → SR} {W : Ends} (h : outS E a (r.toS f) W) :
    out E a r (fun v H => ∃ (b : Wd) (d : D) (G : DH), b.H = H ∧ Ext a b ∧ Sim b G ∧ Rep b d v ∧ r = .ok d G ∧ outS E b (f d G) W) := by
  cases r with
  | ok d G => exact fun b v x s q => ⟨b, d, G, rfl, x, s, q, rfl, outS.mono x h⟩
  | err e G => exact h
  | bad => exact h
theorem outS_toSB {E : XK} {a : Wd} {r : R Bool} {f : Bool → DH → SR} {W : Ends} (h : outS E a (r.toS f) W) :
    outB E a r (fun k H => ∃ (b : Wd) (G : DH), b.H = H ∧ Ext a b ∧ Sim b G ∧ r = .ok k G ∧ outS E b (f k G) W) := by
  cases r with
  | ok d G => exact fun b x s => ⟨b, G, rfl, x, s, rfl, outS.mono x h⟩
  | err e G => exact h
  | bad => exact h
end DL
namespace DL
open PySem PySem.Spec L2
open PyProof.Rows hiding St
theorem out.imp {E : XK} {a : Wd} {r : R D} {Q Q' : VK} (h : out E a r Q) (w : ∀ v H, Q v H → Q' v H) : out E a r Q' := by
  cases r with
  | ok d G => exact fun b v x s q => w _ _ (h b v x s q)
  | err e G => exact h
  | bad => exact h
theorem outA.imp {E : XK} {a : Wd} {r : R (List D)} {Q Q' : List V → Hp → Prop} (h : outA E a r Q) (w : ∀ v H, Q v H → Q' v H) : outA E a r Q' := by
  cases r with
  | ok d G => exact fun b v x s q => w _ _ (h b v x s q)
  | err e G => exact h
  | bad => exact h
theorem outB.imp {E : XK} {a : Wd} {r : R Bool} {Q Q' : Bool → Hp → Prop} (h : outB E a r Q) (w : ∀ v H, Q v H → Q' v H) : outB E a r Q' := by
  cases r with
  | ok d G => exact fun b x s => w _ _ (h b x s)
  | err e G => exact h
  | bad => exact h
/-! ### new objects, changed objects -/
def Wd.push (a : Wd) (p : Addr) (ho : HO) : Wd := ⟨a.K, a.n + 1, fun k => if k = a.n then p else a.m k, upd a.H p ho⟩
def Wd.put (a : Wd) (p : Addr) (ho : HO) : Wd := { a with H := upd a.H p ho }
theorem Ext.put {a : Wd} {p : Addr} {ho : HO} (h : a.H p = none) : Ext a (a.put p ho) :=
  ⟨rfl, Nat.le_refl _, fun _ _ => rfl, fun q xs e => by show upd a.H p ho q = _; rw [upd_ne (ne_of_none e h)]; exact e, fun q o u e => by show upd a.H p ho q = _; rw [upd_ne (ne_of_none e h)]; exact e⟩
theorem Ext.push {a : Wd} {p : Addr} {ho : HO} (h : a.H p = none) : Ext a (a.push p ho) :=
  ⟨rfl, Nat.le_succ _, fun i hi => by show (if i = a.n then p else a.m i) = a.m i; rw [if_neg (Nat.ne_of_lt hi)], fun q xs e => by show upd a.H p ho q = _; rw [upd_ne (ne_of_none e h)]; exact e, fun q o u e => by show upd a.H p ho q = _; rw [upd_ne (ne_of_none e h)]; exact e⟩
theorem ORep.mono {a b : Wd} (x : Ext a b) {o : DO} {q : Option HO} (h : ORep a o q) : ORep b o q := by
  cases o with
  | lst ds => obtain ⟨vs, e, r⟩ := h; exact ⟨vs, e, r.mono x⟩
  | dct kvs => obtain ⟨us, e, k, r⟩ := h; exact ⟨us, e, k, r.mono x⟩
  | gone => trivial
theorem Sim.lt {a : Wd} {G : DH} (s : Sim a G) {i : Nat} {o : DO} (h : G[i]? = some o) : i < a.n := by
  rw [← s.len]; exact (List.getElem?_eq_some_iff.mp h).1
theorem Sim.put {a : Wd} {G : DH} (s : Sim a G) {p : Addr} {ho : HO} (h : a.H p = none) : Sim (a.put p ho) G := by
  refine ⟨s.len, s.inj, fun i o e => ?_, fun i hi => ?_⟩
  · have z : a.H (a.m i) ≠ none := s.tr i (s.lt e)
    have ne : a.m i ≠ p := fun q => z (by rw [q]; exact h)
    show ORep _ o (upd a.H p ho (a.m i))
    rw [upd_ne ne]
    exact (s.obj i o e).mono (Ext.put h)
  · have z : a.H (a.m i) ≠ none := s.tr i hi
    have ne : a.m i ≠ p := fun q => z (by rw [q]; exact h)
    show upd a.H p ho (a.m i) ≠ none
    rw [upd_ne ne]
    exact z
theorem Sim.push {a : Wd} {G : DH} (s : Sim a G) {p : Addr} {ho : HO} (h : a.H p = none) {o : DO} (r : ORep (a.push p ho) o (some ho)) : Sim (a.push p ho) (G ++ [o]) := by
  have nep : ∀ i, i < a.n → a.m i ≠ p := fun i hi q => s.tr i hi (by rw [q]; exact h)
  have old : ∀ i, i < a.n → (a.push p ho).m i = a.m i := fun i hi => by show (if i = a.n then p else a.m i) = _; rw [if_neg (Nat.ne_of_lt hi)]
  have new : (a.push p ho).m a.n = p := by show (if a.n = a.n then p else a.m a.n) = _; rw [if_pos rfl]
  refine ⟨by simp [s.len, Wd.push], fun i j hi hj e => ?_, fun i u e => ?_, fun i hi => ?_⟩
  · have hi' : i < a.n + 1 := hi
    have hj' : j < a.n + 1 := hj
    by_cases h1 : i < a.n
    · by_cases h2 : j < a.n
      · rw [old i h1, old j h2] at e; exact s.inj i j h1 h2 e
      · have : j = a.n := by omega
        subst this
        rw [old i h1, new] at e
        exact absurd e (nep i h1)
    · have : i = a.n := by omega
      subst this
      by_cases h2 : j < a.n
      · rw [old j h2, new] at e
        exact absurd e.symm (nep j h2)
      · omega
  · by_cases h1 : i < a.n
    · rw [List.getElem?_append_left (by rw [s.len]; exact h1)] at e
      rw [old i h1]
      show ORep _ u (upd a.H p ho (a.m i))
      rw [upd_ne (nep i h1)]
      exact (s.obj i u e).mono (Ext.push h)
    · have hl : i < (G ++ [o]).length := (List.getElem?_eq_some_iff.mp e).1
      have : i = a.n := by rw [List.length_append, s.len] at hl; simp at hl; omega
      subst this
      rw [List.getElem?_append_right (by rw [s.len]; exact Nat.le_refl _), s.len] at e
      simp at e
      subst e
      rw [new]
      show ORep _ o (upd a.H p ho p)
      rw [upd_same]
      exact r
  · have hi' : i < a.n + 1 := hi
    by_cases h1 : i < a.n
    · rw [old i h1]
      show upd a.H p ho (a.m i) ≠ none
      rw [upd_ne (nep i h1)]
      exact s.tr i h1
    · have : i = a.n := by omega
      subst this
      rw [new]
      show upd a.H p ho p ≠ none
      rw [upd_same]
      simp
/-- the list at i is changed -/
theorem Ext.wr {a : Wd} {p : Addr} {vs : List V} {ho : HO} (h : a.H p = some (.lst vs)) : Ext a (a.put p ho) :=
  ⟨rfl, Nat.le_refl _, fun _ _ => rfl, fun q xs e => by
    show upd a.H p ho q = _
    rw [upd_ne (fun z => by subst z; rw [h] at e; cases e)]; exact e, fun q o u e => by
    show upd a.H p ho q = _
    rw [upd_ne (fun z => by subst z; rw [h] at e; cases e)]; exact e⟩
theorem Sim.wr {a : Wd} {G : DH} (s : Sim a G) {i : Nat} (hi : i < a.n) {vs vs' : List V} {ds' : List D} (h : a.H (a.m i) = some (.lst vs)) (r : Reps (a.put (a.m i) (.lst vs')) ds' vs') : Sim (a.put (a.m i) (.lst vs')) (G.set i (.lst ds')) := by
  refine ⟨by rw [List.length_set]; exact s.len, s.inj, fun j o e => ?_, fun j hj => ?_⟩
  · rw [List.getElem?_set] at e
    show ORep _ o (upd a.H (a.m i) (.lst vs') (a.m j))
    by_cases hij : i = j
    · subst hij
      rw [if_pos rfl, if_pos (by rw [s.len]; exact hi)] at e
      cases e
      rw [upd_same]
      exact ⟨vs', rfl, r⟩
    · rw [if_neg hij] at e
      rw [upd_ne fun z => hij (s.inj _ _ (s.lt e) hi z).symm]
      exact (s.obj j o e).mono (Ext.wr h)
  · show upd a.H (a.m i) (.lst vs') (a.m j) ≠ none
    by_cases hij : a.m j = a.m i
    · rw [hij, upd_same]; simp
    · rw [upd_ne hij]; exact s.tr j hj
/-! ### forgetting what is new -/
mutual
def bel (n : Nat) : D → Bool
  | .ref i => decide (i < n)
  | .tup ds => bels n ds
  | .fl ds => bels n ds
  | _ => true
def bels (n : Nat) : List D → Bool
  | [] => true
  | d :: ds => bel n d && bels n ds
end
def belO (n : Nat) : DO → Bool
  | .lst ds => bels n ds
  | .dct kvs => bels n (kvs.map (·.2))
  | .gone => true
mutual
theorem Rep.bel {a : Wd} : ∀ {d : D} {v : V}, Rep a d v → bel a.n d = true
  | .non, _, _ => by simp [DL.bel]
  | .bl _, _, _ => by simp [DL.bel]
  | .int _, _, _ => by simp [DL.bel]
  | .str _, _, _ => by simp [DL.bel]
  | .ty _, _, _ => by simp [DL.bel]
  | .tup ds, v, h => by
    obtain ⟨p, vs, e, q, r⟩ := h
    simp only [DL.bel]
    exact Reps.bels r
  | .fl ds, v, h => by
    obtain ⟨p, vs, e, q, r⟩ := h
    simp only [DL.bel]
    exact Reps.bels r
  | .ref i, v, h => by
    obtain ⟨l, e⟩ := h
    simp only [DL.bel]
    exact decide_eq_true l
theorem Reps.bels {a : Wd} : ∀ {ds : List D} {vs : List V}, Reps a ds vs → bels a.n ds = true
  | [], _, _ => by simp [DL.bels]
  | d :: ds, vs, h => by
    obtain ⟨v, r, e, h1, h2⟩ := h
    simp only [DL.bels]
    rw [Rep.bel h1, Reps.bels h2]
    rfl
end
/-- b seen with fewer objects -/
structure Cut (b c : Wd) : Prop where
  k : c.K = b.K
  h : c.H = b.H
mutual
theorem Rep.cut {b c : Wd} (x : Cut b c) {n : Nat} (hn : n ≤ c.n) (hm : ∀ i, i < n → c.m i = b.m i) : ∀ {d : D} {v : V}, Rep b d v → bel n d = true → Rep c d v
  | .non, _, h, _ => h
  | .bl _, _, h, _ => h
  | .int _, _, h, _ => h
  | .str _, _, h, _ => h
  | .ty _, _, h, _ => h
  | .tup ds, v, h, q => by
    obtain ⟨p, vs, e, t, r⟩ := h
    simp only [DL.bel] at q
    exact ⟨p, vs, e, by rw [x.k, x.h]; exact t, Reps.cut x hn hm r q⟩
  | .fl ds, v, h, q => by
    obtain ⟨p, vs, e, t, r⟩ := h
    simp only [DL.bel] at q
    exact ⟨p, vs, e, by rw [x.k, x.h]; exact t, Reps.cut x hn hm r q⟩
  | .ref i, v, h, q => by
    obtain ⟨l, e⟩ := h
    simp only [DL.bel] at q
    have q' := of_decide_eq_true q
    exact ⟨Nat.lt_of_lt_of_le q' hn, by rw [hm i q']; exact e⟩
theorem Reps.cut {b c : Wd} (x : Cut b c) {n : Nat} (hn : n ≤ c.n) (hm : ∀ i, i < n → c.m i = b.m i) : ∀ {ds : List D} {vs : List V}, Reps b ds vs → bels n ds = true → Reps c ds vs
  | [], _, h, _ => h
  | d :: ds, vs, h, q => by
    obtain ⟨v, r, e, h1, h2⟩ := h
    simp only [DL.bels, Bool.and_eq_true] at q
    exact ⟨v, r, e, Rep.cut x hn hm h1 q.1, Reps.cut x hn hm h2 q.2⟩
end
theorem ORep.cut {b c : Wd} (x : Cut b c) {n : Nat} (hn : n ≤ c.n) (hm : ∀ i, i < n → c.m i = b.m i) {o : DO} {q : Option HO} (h : ORep b o q) (l : belO n o = true) : ORep c o q := by
  cases o with
  | lst ds => obtain ⟨vs, e, r⟩ := h; exact ⟨vs, e, Reps.cut x hn hm r l⟩
  | dct kvs => obtain ⟨us, e, k, r⟩ := h; exact ⟨us, e, k, Reps.cut x hn hm r l⟩
  | gone => trivial
theorem ORep.belO {a : Wd} {o : DO} {q : Option HO} (h : ORep a o q) : belO a.n o = true := by
  cases o with
  | lst ds => obtain ⟨vs, e, r⟩ := h; exact r.bels
  | dct kvs => obtain ⟨us, e, k, r⟩ := h; exact r.bels
  | gone => rfl
open Classical in
/-- of what came only the value is kept, where the old objects are as they were -/
noncomputable def tidy (G : DH) (r : R D) : R D := match r with
  | .ok d G' => if G'.take G.length = G then
      (if bel G.length d = true then .ok d G else match d with
        | .ref i => match G'[i]? with
          | some o => if belO G.length o = true then .ok (.ref G.length) (G ++ [o]) else .ok d G'
          | none => .ok d G'
        | _ => .ok d G') else .ok d G'
  | r => r
theorem tidy_ok {E : XK} {a : Wd} {G : DH} {r : R D} {Q : VK} (s : Sim a G) (h : out E a (tidy G r) Q) : out E a r Q := by
  cases r with
  | err e G' => exact h
  | bad => exact h
  | ok d G' =>
    intro b v x sb rb
    unfold tidy at h
    dsimp only at h
    split at h
    · rename_i hG
      have hlen : ∀ i o, G[i]? = some o → G'[i]? = some o := fun i o e => by
        have hi : i < G.length := (List.getElem?_eq_some_iff.mp e).1
        rw [← hG, List.getElem?_take_of_lt hi] at e
        exact e
      -- the world of the old objects alone
      have base : ∀ (c : Wd), Cut b c → a.n ≤ c.n → (∀ i, i < a.n → c.m i = b.m i) → ∀ i o, G[i]? = some o → ORep c o (c.H (c.m i)) := fun c cc hn hm i o e => by
        have q := sb.obj i o (hlen i o e)
        rw [cc.h, hm i (s.lt e)]
        exact q.cut cc hn hm (s.obj i o e).belO
      split at h
      · rename_i hb
        rw [s.len] at hb
        let c : Wd := ⟨b.K, a.n, b.m, b.H⟩
        have cc : Cut b c := ⟨rfl, rfl⟩
        refine h c v ⟨x.k, Nat.le_refl _, x.m, x.tup, x.frz⟩ ⟨s.len, fun i j hi hj => sb.inj i j (Nat.lt_of_lt_of_le hi x.n) (Nat.lt_of_lt_of_le hj x.n), base c cc (Nat.le_refl _) (fun _ _ => rfl), fun i hi => sb.tr i (Nat.lt_of_lt_of_le hi x.n)⟩ ?_
        exact rb.cut cc (Nat.le_refl _) (fun _ _ => rfl) hb
      · rename_i hb
        split at h
        · rename_i i
          obtain ⟨il, iv⟩ := rb
          split at h
          · rename_i o ho
            split at h
            · rename_i hbo
              rw [s.len] at hbo hb h
              simp only [DL.bel, decide_eq_true_eq] at hb
              let c : Wd := ⟨b.K, a.n + 1, fun k => if k = a.n then b.m i else b.m k, b.H⟩
              have cc : Cut b c := ⟨rfl, rfl⟩
              have cm : ∀ j, j < a.n → c.m j = b.m j := fun j hj => by show (if j = a.n then b.m i else b.m j) = _; rw [if_neg (Nat.ne_of_lt hj)]
              have cn : c.m a.n = b.m i := by show (if a.n = a.n then b.m i else b.m a.n) = _; rw [if_pos rfl]
              have lt' : ∀ j, j < a.n → j < b.n := fun j hj => Nat.lt_of_lt_of_le hj x.n
              refine h c v ⟨x.k, Nat.le_succ _, fun j hj => (cm j hj).trans (x.m j hj), x.tup, x.frz⟩ ⟨by simp [s.len, c], fun j k hj hk e => ?_, fun j u e => ?_, fun j hj => ?_⟩ ⟨Nat.lt_succ_self _, by rw [cn]; exact iv⟩
              · have hj' : j < a.n + 1 := hj
                have hk' : k < a.n + 1 := hk
                by_cases h1 : j < a.n
                · by_cases h2 : k < a.n
                  · rw [cm j h1, cm k h2] at e; exact sb.inj j k (lt' j h1) (lt' k h2) e
                  · have : k = a.n := by omega
                    subst this
                    rw [cm j h1, cn] at e
                    have := sb.inj j i (lt' j h1) il e
                    omega
                · have : j = a.n := by omega
                  subst this
                  by_cases h2 : k < a.n
                  · rw [cm k h2, cn] at e
                    have := sb.inj i k il (lt' k h2) e
                    omega
                  · omega
              · by_cases h1 : j < a.n
                · rw [List.getElem?_append_left (by rw [s.len]; exact h1)] at e
                  exact base c cc (Nat.le_succ _) cm j u e
                · have hl : j < (G ++ [o]).length := (List.getElem?_eq_some_iff.mp e).1
                  have : j = a.n := by rw [List.length_append, s.len] at hl; simp at hl; omega
                  subst this
                  rw [List.getElem?_append_right (by rw [s.len]; exact Nat.le_refl _), s.len] at e
                  simp at e
                  subst e
                  rw [cn]
                  exact (sb.obj i o ho).cut cc (Nat.le_succ _) cm hbo
              · have hj' : j < a.n + 1 := hj
                by_cases h1 : j < a.n
                · rw [cm j h1]; exact sb.tr j (lt' j h1)
                · have : j = a.n := by omega
                  subst this
                  rw [cn]; exact sb.tr i il
            · exact h b v x sb ⟨il, iv⟩
          · exact h b v x sb ⟨il, iv⟩
        · exact h b v x sb rb
    · exact h b v x sb rb
end DL
namespace DL
open PySem PySem.Spec L2
open PyProof.Rows hiding St
/-! ### expressions -/
def dV (i : Nat) : DE := fun S G => match S[i]? with
  | some (some d) => .ok d G
  | _ => .bad
def dC (d : D) : DE := fun _ G => .ok d G
def dOp (f : D → D → DH → R D) (a b : DE) : DE := fun S G => (a S G).bind fun x G1 => (b S G1).bind fun y G2 => f x y G2
def dNil : DA := fun _ G => .ok [] G
def dCons (a : DE) (r : DA) : DA := fun S G => (a S G).bind fun x G1 => (r S G1).bind fun xs G2 => .ok (x :: xs) G2
def dFn (f : List D → DH → R D) (t : DA) : DE := fun S G => (t S G).bind f
noncomputable def dTidy (t : DE) : DE := fun S G => tidy G (t S G)
def asB : D → DH → R Bool
  | .bl k, G => .ok k G
  | _, _ => .bad
def dTst (t : DE) : DB := fun S G => (t S G).bind asB
def dOr (t u : DB) : DB := fun S G => (t S G).bind fun k G1 => if k = true then .ok true G1 else u S G1
def dNot (t : DB) : DB := fun S G => (t S G).bind fun k G1 => .ok (!k) G1
def dAndV (t u : DE) : DE := fun S G => (t S G).bind fun x G1 => (asB x G1).bind fun k G2 => if k = true then u S G2 else .ok (.bl false) G2
def dOrV (t u : DE) : DE := fun S G => (t S G).bind fun x G1 => (asB x G1).bind fun k G2 => if k = true then .ok (.bl true) G2 else u S G2
def dChain (f g : D → D → DH → R D) (a b c : DE) : DE := fun S G => (a S G).bind fun x G1 => (b S G1).bind fun y G2 => (f x y G2).bind fun z G3 => (asB z G3).bind fun k G4 =>
  if k = true then (c S G4).bind fun w G5 => g y w G5 else .ok (.bl false) G4
def mkTup (ds : List D) (G : DH) : R D := if ds.length ≤ 1000000 then .ok (.tup ds) G else .bad
def mkLst (ds : List D) (G : DH) : R D := if ds.length ≤ 1000000 then .ok (.ref G.length) (G ++ [.lst ds]) else .bad
/-- the items of a list, a tuple -/
def seqOf (d : D) (G : DH) : Option (List D) := match d with
  | .tup xs => some xs
  | .fl xs => some xs
  | .ref i => match G[i]? with
    | some (.lst xs) => some xs
    | _ => none
  | _ => none
theorem size6 : (1000000 : Nat) ≤ sizeLine := by decide
section
variable {X : Cx} {E : XK} {a b c : Expr} {ta tb tc : DE} {pos : Pos}
theorem two {K : PySem.W.Frag} {f : D → D → DH → R D} {σ : St} {H : Hp} {Q : VK} (h : lE K E (dOp f ta tb) σ H Q) : tOp (lR2 K E f) (lE K E ta) (lE K E tb) σ H Q := by
  obtain ⟨a, S, G, hk, rfl, s, r, h⟩ := h
  refine ⟨a, S, G, hk, rfl, s, r, (out_bind h).imp ?_⟩
  rintro v _ ⟨b, d, G1, rfl, x, s1, q, _, h1⟩
  refine ⟨b, S, G1, x.k.trans hk, rfl, s1, r.mono x, (out_bind h1).imp ?_⟩
  rintro w _ ⟨c, e, G2, rfl, y, s2, q2, _, h2⟩
  exact ⟨c, G2, d, e, y.k.trans (x.k.trans hk), rfl, s2, q.mono y, q2, h2⟩
theorem qe_var (i : Nat) {x : Str} {pos : Pos} (hN : X.N[i]? = some x := by rfl) (hv : Vis X.env.scope x := by first | exact Or.inl rfl | exact Or.inr (Or.inl rfl) | exact Or.inr (Or.inr rfl)) (hd : (x == ("__debug__" : Str)) = false := by decide)
    (hcd : (x == ("__classdict__" : Str)) = false := by decide) : QE X E (.Name x pos) (dV i) := by
  refine (pe_var hN hv hd hcd).mono fun σ H Q h => ?_
  obtain ⟨a, S, G, hk, rfl, s, r, h⟩ := h
  unfold dV at h
  split at h
  · rename_i d e
    obtain ⟨v, e', q⟩ := r.get i d e
    exact ⟨v, e', h a v (Ext.refl a) s q⟩
  · exact h.elim
theorem lE_ok {K : PySem.W.Frag} {d : D} {v : V} {σ : St} {H : Hp} {Q : VK} (h : lE K E (dC d) σ H Q) (r : ∀ a : Wd, a.K = K → Rep a d v) : Q v H := by
  obtain ⟨a, S, G, hk, rfl, s, _, h⟩ := h
  exact h a v (Ext.refl a) s (r a hk)
theorem qe_int {i : Int} {j : Nat} : QE X E (.Constant (.int i) j pos) (dC (.int i)) := pe_int.mono fun σ H Q h => lE_ok h fun _ _ => rfl
theorem qe_bl {i : Bool} {j : Nat} : QE X E (.Constant (.bool i) j pos) (dC (.bl i)) := pe_bl.mono fun σ H Q h => lE_ok h fun _ _ => rfl
theorem qe_non {j : Nat} : QE X E (.Constant .none j pos) (dC .non) := pe_non.mono fun σ H Q h => lE_ok h fun _ _ => rfl
/-- a name of the module -/
theorem qe_glob {x : Str} {d : D} {v : V} {u : Value} (hg : Gl X x) (hm : X.mg x = some u) (r : RelV v u) (rd : ∀ a : Wd, a.K = X.K → Rep a d v) (hd : (x == ("__debug__" : Str)) = false := by decide) : QE X E (.Name x pos) (dC d) :=
  (pe_glob hg hm r hd).mono fun σ H Q h => lE_ok h rd
theorem qe_op {op : Operator} {f : D → D → DH → R D} (ho : OpR X (binaryOp op) (lR2 X.K E f)) (ha : QE X E a ta) (hb : QE X E b tb) : QE X E (.BinOp a op b pos) (dOp f ta tb) :=
  (pe_op ho ha hb).mono fun _ _ _ h => two h
theorem qe_cmp {op : CmpOp} {f : D → D → DH → R D} (ho : OpR X (compareOp op) (lR2 X.K E f)) (ha : QE X E a ta) (hb : QE X E b tb) (hm : behindInMarks op b = false) : QE X E (.Compare a [op] [b] pos) (dOp f ta tb) :=
  (pe_cmpR ho ha hb hm).mono fun _ _ _ h => two h
theorem lB_tst {K : PySem.W.Frag} {t : DE} {σ : St} {H : Hp} {Q : Bool → Hp → Prop} (h : lB K E (dTst t) σ H Q) : tTest (lE K E t) σ H Q := by
  obtain ⟨a, S, G, hk, rfl, s, r, h⟩ := h
  refine ⟨a, S, G, hk, rfl, s, r, (outB_bind h).imp ?_⟩
  rintro v _ ⟨b, d, G1, rfl, x, s1, q, _, h1⟩
  cases d with
  | bl k => exact ⟨k, q, h1 b (Ext.refl b) s1⟩
  | _ => exact h1.elim
theorem tTest_mono {t t' : TE} (w : ∀ σ H Q, t' σ H Q → t σ H Q) (σ : St) (H : Hp) (Q : Bool → Hp → Prop) (h : tTest t' σ H Q) : tTest t σ H Q := w _ _ _ h
theorem qt_cmp {op : CmpOp} {f : D → D → DH → R D} (ho : OpR X (compareOp op) (lR2 X.K E f)) (ha : QE X E a ta) (hb : QE X E b tb) (hm : behindInMarks op b = false) : QT X E (.Compare a [op] [b] pos) (dTst (dOp f ta tb)) :=
  (pt_cmpR ho ha hb hm).mono fun σ H Q h => tTest_mono (fun _ _ _ z => two z) σ H Q (lB_tst h)
theorem chain {K : PySem.W.Frag} {f g : D → D → DH → R D} {σ : St} {H : Hp} {Q : VK} (h : lE K E (dChain f g ta tb tc) σ H Q) : tChain (lR2 K E f) (lR2 K E g) (lE K E ta) (lE K E tb) (lE K E tc) σ H Q := by
  obtain ⟨a, S, G, hk, rfl, s, r, h⟩ := h
  refine ⟨a, S, G, hk, rfl, s, r, (out_bind h).imp ?_⟩
  rintro v _ ⟨b, d, G1, rfl, x, s1, q, _, h1⟩
  refine ⟨b, S, G1, x.k.trans hk, rfl, s1, r.mono x, (out_bind h1).imp ?_⟩
  rintro w _ ⟨c, e, G2, rfl, y, s2, q2, _, h2⟩
  refine ⟨c, G2, d, e, y.k.trans (x.k.trans hk), rfl, s2, q.mono y, q2, (out_bind h2).imp ?_⟩
  rintro z _ ⟨c3, e3, G3, rfl, y3, s3, q3, _, h3⟩
  cases e3 with
  | bl k =>
    refine ⟨k, q3, ?_⟩
    cases k with
    | false => exact h3 c3 (.bl false) (Ext.refl _) s3 rfl
    | true =>
      refine ⟨c3, S, G3, (y3.k.trans (y.k.trans (x.k.trans hk))), rfl, s3, ((r.mono x).mono y).mono y3, (out_bind h3).imp ?_⟩
      rintro z4 _ ⟨c4, e4, G4, rfl, y4, s4, q4, _, h4⟩
      exact ⟨c4, G4, e, e4, y4.k.trans (y3.k.trans (y.k.trans (x.k.trans hk))), rfl, s4, (q2.mono y3).mono y4, q4, h4⟩
  | _ => exact h3.elim
theorem qt_chain {op op' : CmpOp} {f g : D → D → DH → R D} (ho : OpR X (compareOp op) (lR2 X.K E f)) (ho' : OpR X (compareOp op') (lR2 X.K E g)) (ha : QE X E a ta) (hb : QE X E b tb) (hc : QE X E c tc)
    (hm : lastMarks [op, op'] [b, c] = false := by with_unfolding_all rfl) : QT X E (.Compare a [op, op'] [b, c] pos) (dTst (dChain f g ta tb tc)) :=
  (pt_chain ho ho' ha hb hc hm).mono fun σ H Q h => tTest_mono (fun _ _ _ z => chain z) σ H Q (lB_tst h)
/-- any expression whose test is its truth, a bool -/
theorem qt_val (ha : QE X E a ta) (he : ∀ whole, isTrue a X.env whole = (do let v ← whole; standAt a.pos; holding [v] (truthy v)) := by intro _; rfl) : QT X E a (dTst ta) :=
  (pt_val ha he).mono fun σ H Q h => lB_tst h
theorem qe_tidy (ha : QE X E a ta) : QE X E a (dTidy ta) := L2.PE.mono ha fun σ H Q h => by
  obtain ⟨w, S, G, hk, rfl, s, r, h⟩ := h
  exact ⟨w, S, G, hk, rfl, s, r, tidy_ok s h⟩
/-! and, or, not -/
def QW (X : Cx) (E : XK) (e : Expr) (t : DB) : Prop := PW X e (lB X.K E t)
theorem _root_.L2.PW.mono {e : Expr} {t t' : TT} (h : PW X e t) (w : ∀ σ H Q, t' σ H Q → t σ H Q) : PW X e t' := fun wh pins s σ H Q I q => h wh pins s σ H Q I (w σ H Q q)
variable {u t : DB} {rest : List Expr}
theorem lB_or {K : PySem.W.Frag} {σ : St} {H : Hp} {Q : Bool → Hp → Prop} (h : lB K E (dOr t u) σ H Q) : tOr (lB K E t) (lB K E u) σ H Q := by
  obtain ⟨a, S, G, hk, rfl, s, r, h⟩ := h
  refine ⟨a, S, G, hk, rfl, s, r, (outB_bindB h).imp ?_⟩
  rintro k _ ⟨b, G1, rfl, x, s1, _, h1⟩
  cases k with
  | true => exact h1 b (Ext.refl b) s1
  | false => exact ⟨b, S, G1, x.k.trans hk, rfl, s1, r.mono x, h1⟩
theorem qw_or1 (ha : QT X E a t) : QW X E (.BoolOp .Or [a] pos) t := pw_or1 ha
theorem qw_or (ha : QT X E a t) (hb : QW X E (.BoolOp .Or (b :: rest) pos) u) : QW X E (.BoolOp .Or (a :: b :: rest) pos) (dOr t u) := (pw_or ha hb).mono fun _ _ _ h => lB_or h
theorem qt_w (h : QW X E a t) : QT X E a t := L2.PW.pt h
theorem qt_not (ha : QT X E a t) : QT X E (.UnaryOp .Not a pos) (dNot t) := (pt_not ha).mono fun σ H Q h => by
  obtain ⟨a, S, G, hk, rfl, s, r, h⟩ := h
  refine ⟨a, S, G, hk, rfl, s, r, (outB_bindB h).imp ?_⟩
  rintro k _ ⟨b, G1, rfl, x, s1, _, h1⟩
  exact h1 b (Ext.refl b) s1
theorem qe_one {op} (h : QE X E a ta) : QE X E (.BoolOp op [a] pos) ta := pe_one h
theorem qe_and (ha : QE X E a ta) (hb : QE X E (.BoolOp .And (b :: rest) pos) tb) : QE X E (.BoolOp .And (a :: b :: rest) pos) (dAndV ta tb) := (pe_and ha hb).mono fun σ H Q h => by
  obtain ⟨a, S, G, hk, rfl, s, r, h⟩ := h
  refine ⟨a, S, G, hk, rfl, s, r, (out_bind h).imp ?_⟩
  rintro v _ ⟨b, d, G1, rfl, x, s1, q, _, h1⟩
  cases d with
  | bl k =>
    refine ⟨k, q, ?_⟩
    cases k with
    | true => exact ⟨b, S, G1, x.k.trans hk, rfl, s1, r.mono x, h1⟩
    | false => exact h1 b _ (Ext.refl b) s1 rfl
  | _ => exact h1.elim
theorem qe_or (ha : QE X E a ta) (hb : QE X E (.BoolOp .Or (b :: rest) pos) tb) : QE X E (.BoolOp .Or (a :: b :: rest) pos) (dOrV ta tb) := (pe_or ha hb).mono fun σ H Q h => by
  obtain ⟨a, S, G, hk, rfl, s, r, h⟩ := h
  refine ⟨a, S, G, hk, rfl, s, r, (out_bind h).imp ?_⟩
  rintro v _ ⟨b, d, G1, rfl, x, s1, q, _, h1⟩
  cases d with
  | bl k =>
    refine ⟨k, q, ?_⟩
    cases k with
    | false => exact ⟨b, S, G1, x.k.trans hk, rfl, s1, r.mono x, h1⟩
    | true => exact h1 b _ (Ext.refl b) s1 rfl
  | _ => exact h1.elim
/-! arguments, displays -/
variable {es : List Expr} {tr : DA}
theorem qa_nil : QA X E [] dNil := pa_nil.mono fun σ H Q h => by
  obtain ⟨a, S, G, hk, rfl, s, r, h⟩ := h
  exact h a [] (Ext.refl a) s rfl
def notStar : Expr → Bool
  | .Starred _ _ => false
  | _ => true
theorem star_plain (a : Expr) (es : List Expr) (env : Env) (h : notStar a = true) : starEach (a :: es) env = (false, eval a env) :: starEach es env := by
  cases a <;> first
    | exact absurd h Bool.false_ne_true
    | rfl
theorem star_any (pos : Pos) (env : Env) : ∀ es : List Expr, es.all notStar = true → (backTo pos (starEach es env)).any (·.1) = false
  | [], _ => rfl
  | a :: es, h => by
    rw [List.all_cons, Bool.and_eq_true] at h
    rw [star_plain a es env h.1]
    have ih := star_any pos env es h.2
    unfold backTo at ih ⊢
    rw [List.map_cons, List.any_cons, ih]
    rfl
theorem qa_cons (ha : QE X E a ta) (hr : QA X E es tr) (hs : notStar a = true := by rfl) : QA X E (a :: es) (dCons ta tr) := (pa_cons ha hr (star_plain a es X.env hs)).mono fun σ H Q h => by
  obtain ⟨a, S, G, hk, rfl, s, r, h⟩ := h
  refine ⟨a, S, G, hk, rfl, s, r, (outA_bind h).imp ?_⟩
  rintro v _ ⟨b, d, G1, rfl, x, s1, q, _, h1⟩
  refine ⟨b, S, G1, x.k.trans hk, rfl, s1, r.mono x, (outA_bindA h1).imp ?_⟩
  rintro vs _ ⟨c, ds, G2, rfl, y, s2, q2, _, h2⟩
  exact h2 c _ (Ext.refl c) s2 (Reps.cons (q.mono y) q2)
theorem qe_tup {x1} (h : QA X E es tr) : QE X E (.Tuple es x1 pos) (dFn mkTup tr) := (pe_tup h).mono fun σ H Q h => by
  obtain ⟨a, S, G, hk, rfl, s, r, h⟩ := h
  refine ⟨a, S, G, hk, rfl, s, r, (out_bindA h).imp ?_⟩
  rintro vs _ ⟨b, ds, G1, rfl, x, s1, q, _, h1⟩
  unfold mkTup at h1
  split at h1
  · rename_i hl
    refine ⟨by rw [← q.length]; exact Nat.le_trans hl size6, fun p hp => ?_⟩
    exact h1 (b.put p (.tup vs)) (.ref p) (Ext.put hp) (s1.put hp) ⟨p, vs, rfl, .of upd_same, q.mono (Ext.put hp)⟩
  · exact h1.elim
theorem qe_lst (h : QA X E es tr) : QE X E (.List es pos) (dFn mkLst tr) := (pe_lst h).mono fun σ H Q h => by
  obtain ⟨a, S, G, hk, rfl, s, r, h⟩ := h
  refine ⟨a, S, G, hk, rfl, s, r, (out_bindA h).imp ?_⟩
  rintro vs _ ⟨b, ds, G1, rfl, x, s1, q, _, h1⟩
  unfold mkLst at h1
  split at h1
  · rename_i hl
    refine ⟨by rw [← q.length]; exact Nat.le_trans hl size6, fun p hp => ?_⟩
    refine h1 (b.push p (.lst vs)) (.ref p) (Ext.push hp) (s1.push hp ⟨vs, rfl, q.mono (Ext.push hp)⟩) ⟨?_, ?_⟩
    · rw [s1.len]; exact Nat.lt_succ_self _
    · rw [s1.len]; show V.ref p = .ref (if b.n = b.n then p else b.m b.n); rw [if_pos rfl]
  · exact h1.elim
/-! calls -/
variable {e : Expr} {x : Str} {p : Pos}
theorem lE_fn {K : PySem.W.Frag} {f : List D → DH → R D} {σ : St} {H : Hp} {Q : VK} (h : lE K E (dFn f tr) σ H Q) : lA K E tr σ H (fun vs H1 => lRn K E f vs H1 Q) := by
  obtain ⟨a, S, G, hk, rfl, s, r, h⟩ := h
  refine ⟨a, S, G, hk, rfl, s, r, (out_bindA h).imp ?_⟩
  rintro vs _ ⟨b, ds, G1, rfl, x, s1, q, _, h1⟩
  exact ⟨b, G1, ds, x.k.trans hk, rfl, s1, q, h1⟩
theorem qe_callB {id : String} {f : List D → DH → R D} (hc : CallR X (.builtin id) (lRn X.K E f)) (hg : Gl X x) (hm : X.mg x = none) (hv : bootBuiltins x = some (.builtin id)) (ha : QA X E (e :: es) tr) (hn : x ≠ "__name__" := by decide) (hdb : (x == ("__debug__" : Str)) = false := by decide)
    (he : notStar e = true := by rfl) (hpl : es.all notStar = true := by rfl) : QE X E (.Call (.Name x p) (e :: es) [] pos) (dFn f tr) :=
  (pe_callB hc hg hm hv ha hn hdb (star_plain e es X.env he) (star_any pos X.env es hpl)).mono fun σ H Q h => lE_fn h
theorem qe_callTy {id : String} {f : List D → DH → R D} (hc : CallR X (.type id) (lRn X.K E f)) (hg : Gl X x) (hm : X.mg x = none) (hv : bootBuiltins x = some (.type id)) (ha : QA X E (e :: es) tr) (hn : x ≠ "__name__" := by decide) (hdb : (x == ("__debug__" : Str)) = false := by decide)
    (he : notStar e = true := by rfl) (hpl : es.all notStar = true := by rfl) : QE X E (.Call (.Name x p) (e :: es) [] pos) (dFn f tr) :=
  (pe_callTy hc hg hm hv ha hn hdb (star_plain e es X.env he) (star_any pos X.env es hpl)).mono fun σ H Q h => lE_fn h
theorem qe_call {CX : CXT} {k : Nat} {f : Addr} {fd : FuncData} {ps : List Str} {F : List D → DH → R D} (FF : FnOk X.prog X.w X.K X.mg X.base CX k f fd ps (lF X.K F)) (hr : Room k X.A) (hg : Gl X x) (hm : X.mg x = some (.ref f)) (hk : PySem.W.keepIn X.K (.ref f) = true) (hb : Binds X.K fd ps [])
    (hx : Passes CX X E) (ha : QA X E (e :: es) tr) (hdb : (x == ("__debug__" : Str)) = false := by decide) (he : notStar e = true := by rfl) (hpl : es.all notStar = true := by rfl) :
    QE X E (.Call (.Name x p) (e :: es) [] pos) (dFn F tr) :=
  (pe_call FF hr hg hm hk hb .nil hx ha hdb (star_plain e es X.env he) (star_any pos X.env es hpl)).mono fun σ H Q h => by
    obtain ⟨a, S, G, hk, rfl, s, r, h⟩ := lE_fn h
    refine ⟨a, S, G, hk, rfl, s, r, h.imp ?_⟩
    rintro vs _ ⟨b, G1, ds, hk, rfl, s1, q, h1⟩
    exact ⟨b, G1, ds, hk, rfl, s1, by rw [List.append_nil]; exact q, h1⟩
theorem qe_ix {f : D → D → DH → R D} (hr : IxR X (lR2 X.K E f)) (ha : QE X E a ta) (hb : QE X E b tb) (hs : PlainIx b := by intro _ _; rfl) : QE X E (.Subscript a b pos) (dOp f ta tb) :=
  (pe_ix hr ha hb hs).mono fun _ _ _ h => two h
end
end DL
namespace DL
open PySem PySem.Spec L2
open PyProof.Rows hiding St
/-! ### numbers -/
instance (i j : Int) : Decidable (CMul i j) := by unfold CMul; infer_instance
instance (i j : Int) : Decidable (CPow i j) := by unfold CPow; infer_instance
def CDivL (j : Int) : Prop := 0 < j ∧ j.natAbs.log2 < 9000
instance (j : Int) : Decidable (CDivL j) := by unfold CDivL; infer_instance
def opSub : D → D → DH → R D
  | .int i, .int j, G => .ok (.int (i - j)) G
  | _, _, _ => .bad
def opDiv : D → D → DH → R D
  | .int i, .int j, G => if CDivL j then .ok (.int (i / j)) G else .bad
  | _, _, _ => .bad
def opMod : D → D → DH → R D
  | .int i, .int j, G => if 0 < j then .ok (.int (i % j)) G else .bad
  | _, _, _ => .bad
def opPow : D → D → DH → R D
  | .int i, .int j, G => if CPow i j then .ok (.int (i ^ j.toNat)) G else .bad
  | _, _, _ => .bad
def opLt : D → D → DH → R D
  | .int i, .int j, G => .ok (.bl (decide (i < j))) G
  | .str i, .str j, G => .ok (.bl (decide (i.cps.toList < j.cps.toList))) G
  | _, _, _ => .bad
def opLe : D → D → DH → R D
  | .int i, .int j, G => .ok (.bl (decide (i ≤ j))) G
  | .str i, .str j, G => .ok (.bl (!decide (j.cps.toList < i.cps.toList))) G
  | _, _, _ => .bad
def opGt : D → D → DH → R D
  | .int i, .int j, G => .ok (.bl (decide (j < i))) G
  | .str i, .str j, G => .ok (.bl (decide (j.cps.toList < i.cps.toList))) G
  | _, _, _ => .bad
def opGe : D → D → DH → R D
  | .int i, .int j, G => .ok (.bl (decide (j ≤ i))) G
  | .str i, .str j, G => .ok (.bl (!decide (i.cps.toList < j.cps.toList))) G
  | _, _, _ => .bad
/-- the items of a list -/
def lstOf (d : D) (G : DH) : Option (List D) := match d with
  | .fl xs => some xs
  | .ref i => match G[i]? with
    | some (.lst xs) => some xs
    | _ => none
  | _ => none
/-- + : ints, texts, lists, tuples -/
def opAdd : D → D → DH → R D
  | .int i, .int j, G => .ok (.int (i + j)) G
  | .str i, .str j, G => if i.length + j.length ≤ 1000000 then .ok (.str (i ++ j)) G else .bad
  | .tup xs, .tup ys, G => if xs ≠ [] ∧ xs.length + ys.length ≤ 1000000 then .ok (.tup (xs ++ ys)) G else .bad
  | d, e, G => match lstOf d G, lstOf e G with
    | some xs, some ys => if xs.length + ys.length ≤ 1000000 then .ok (.ref G.length) (G ++ [.lst (xs ++ ys)]) else .bad
    | _, _ => .bad
section
variable {X : Cx} {E : XK}
theorem opII {f : Value → Value → Sem Value} {r : R2} {F : D → D → DH → R D} (ho : OpR X f r)
    (h : ∀ (a : Wd) (G : DH) (d e : D) (x y : V) (Q : VK), a.K = X.K → Sim a G → Rep a d x → Rep a e y → out E a (F d e G) Q → r x y a.H Q) : OpR X f (lR2 X.K E F) :=
  ho.mono fun x y H Q ⟨a, G, d, e, hk, hH, s, rd, re, q⟩ => by subst hH; exact h a G d e x y Q hk s rd re q
theorem o_sub : OpR X (binaryOp .Sub) (lR2 X.K E opSub) := opII op_sub fun a G d e x y Q hk s rd re q => by
  cases d <;> cases e <;> first
    | exact q.elim
    | exact ⟨_, _, rd, re, q a _ (Ext.refl a) s rfl⟩
theorem op_fdivL : OpR X (binaryOp .FloorDiv) (rI (fun _ j => CDivL j) fun i j => .int (i / j)) := opI fun i j _ _ _ _ _ hc q => by
  have e : i.fdiv j = i / j := Int.fdiv_eq_ediv_of_nonneg _ (Int.le_of_lt hc.1)
  refine floordiv_int (by have := hc.1; omega) (by rw [e]; exact q) (.inl (PyProof.noPylong_of_log2 hc.2))
theorem o_div : OpR X (binaryOp .FloorDiv) (lR2 X.K E opDiv) := opII op_fdivL fun a G d e x y Q hk s rd re q => by
  cases d <;> cases e <;> first
    | exact q.elim
    | (rename_i i j
       unfold opDiv at q
       dsimp only at q
       split at q
       · exact ⟨_, _, rd, re, by assumption, q a _ (Ext.refl a) s rfl⟩
       · exact q.elim)
theorem o_mod : OpR X (binaryOp .Mod) (lR2 X.K E opMod) := opII op_mod fun a G d e x y Q hk s rd re q => by
  cases d <;> cases e <;> first
    | exact q.elim
    | (rename_i i j
       unfold opMod at q
       dsimp only at q
       split at q
       · exact ⟨_, _, rd, re, by assumption, q a _ (Ext.refl a) s rfl⟩
       · exact q.elim)
theorem o_pow : OpR X (binaryOp .Pow) (lR2 X.K E opPow) := opII op_pow fun a G d e x y Q hk s rd re q => by
  cases d <;> cases e <;> first
    | exact q.elim
    | (rename_i i j
       unfold opPow at q
       dsimp only at q
       split at q
       · exact ⟨_, _, rd, re, by assumption, q a _ (Ext.refl a) s rfl⟩
       · exact q.elim)
theorem o_lt : OpR X (compareOp .Lt) (lR2 X.K E opLt) := opII (op_lt.or op_lt_str) fun a G d e x y Q hk s rd re q => by
  cases d <;> cases e <;> first
    | exact q.elim
    | exact .inl ⟨_, _, rd, re, q a _ (Ext.refl a) s rfl⟩
    | exact .inr ⟨_, _, rd, re, q a _ (Ext.refl a) s rfl⟩
theorem op_le_str : OpR X (compareOp .LtE) (fun x y H Q => ∃ i j, x = .str i ∧ y = .str j ∧ Q (.bl (!decide (j.cps.toList < i.cps.toList))) H) := by
  intro pins s σ H x y v u Q I rx ry h
  obtain ⟨i, j, rfl, rfl, q⟩ := h
  obtain ⟨t, rfl⟩ := rx
  obtain ⟨t', rfl⟩ := ry
  exact PySem.P.le_str ⟨.bl _, H, I, rfl, q⟩
theorem op_gt_str : OpR X (compareOp .Gt) (fun x y H Q => ∃ i j, x = .str i ∧ y = .str j ∧ Q (.bl (decide (j.cps.toList < i.cps.toList))) H) := by
  intro pins s σ H x y v u Q I rx ry h
  obtain ⟨i, j, rfl, rfl, q⟩ := h
  obtain ⟨t, rfl⟩ := rx
  obtain ⟨t', rfl⟩ := ry
  exact PySem.P.gt_str ⟨.bl _, H, I, rfl, q⟩
theorem op_ge_str : OpR X (compareOp .GtE) (fun x y H Q => ∃ i j, x = .str i ∧ y = .str j ∧ Q (.bl (!decide (i.cps.toList < j.cps.toList))) H) := by
  intro pins s σ H x y v u Q I rx ry h
  obtain ⟨i, j, rfl, rfl, q⟩ := h
  obtain ⟨t, rfl⟩ := rx
  obtain ⟨t', rfl⟩ := ry
  exact PySem.P.ge_str ⟨.bl _, H, I, rfl, q⟩
theorem o_le : OpR X (compareOp .LtE) (lR2 X.K E opLe) := opII (op_le.or op_le_str) fun a G d e x y Q hk s rd re q => by
  cases d <;> cases e <;> first
    | exact q.elim
    | exact .inl ⟨_, _, rd, re, q a _ (Ext.refl a) s rfl⟩
    | exact .inr ⟨_, _, rd, re, q a _ (Ext.refl a) s rfl⟩
theorem o_gt : OpR X (compareOp .Gt) (lR2 X.K E opGt) := opII (op_gt.or op_gt_str) fun a G d e x y Q hk s rd re q => by
  cases d <;> cases e <;> first
    | exact q.elim
    | exact .inl ⟨_, _, rd, re, q a _ (Ext.refl a) s rfl⟩
    | exact .inr ⟨_, _, rd, re, q a _ (Ext.refl a) s rfl⟩
theorem o_ge : OpR X (compareOp .GtE) (lR2 X.K E opGe) := opII (op_ge.or op_ge_str) fun a G d e x y Q hk s rd re q => by
  cases d <;> cases e <;> first
    | exact q.elim
    | exact .inl ⟨_, _, rd, re, q a _ (Ext.refl a) s rfl⟩
    | exact .inr ⟨_, _, rd, re, q a _ (Ext.refl a) s rfl⟩
/-- a list at i -/
theorem Sim.lst {a : Wd} {G : DH} (s : Sim a G) {i : Nat} {xs : List D} (h : G[i]? = some (.lst xs)) : ∃ vs, a.H (a.m i) = some (.lst vs) ∧ Reps a xs vs := s.obj i _ h
/-- a new list -/
theorem new_lst {E : XK} {a : Wd} {G : DH} {ds : List D} {vs : List V} {Q : VK} (s : Sim a G) (r : Reps a ds vs) (h : out E a (.ok (.ref G.length) (G ++ [.lst ds])) Q) (p : Addr) (hp : a.H p = none) : Q (.ref p) (upd a.H p (.lst vs)) := by
  refine h (a.push p (.lst vs)) (.ref p) (Ext.push hp) (s.push hp ⟨vs, rfl, r.mono (Ext.push hp)⟩) ⟨?_, ?_⟩
  · rw [s.len]; exact Nat.lt_succ_self _
  · rw [s.len]; show V.ref p = .ref (if a.n = a.n then p else a.m a.n); rw [if_pos rfl]
theorem new_tup {E : XK} {a : Wd} {G : DH} {ds : List D} {vs : List V} {Q : VK} (s : Sim a G) (r : Reps a ds vs) (h : out E a (.ok (.tup ds) G) Q) (p : Addr) (hp : a.H p = none) : Q (.ref p) (upd a.H p (.tup vs)) :=
  h (a.put p (.tup vs)) (.ref p) (Ext.put hp) (s.put hp) ⟨p, vs, rfl, .of upd_same, r.mono (Ext.put hp)⟩
theorem lstOf_rep {a : Wd} {G : DH} {d : D} {x : V} {xs : List D} (s : Sim a G) (r : Rep a d x) (h : lstOf d G = some xs) : ∃ p vs, x = .ref p ∧ SqL a.K a.H p vs ∧ Reps a xs vs := by
  cases d with
  | fl ys =>
    have e : ys = xs := Option.some.inj h
    subst e
    obtain ⟨p, vs, e, q, rr⟩ := r
    exact ⟨p, vs, e, q.sq, rr⟩
  | ref i =>
    unfold lstOf at h
    dsimp only at h
    split at h
    · rename_i ys hi
      have e : ys = xs := Option.some.inj h
      subst e
      obtain ⟨vs, e1, r1⟩ := s.lst hi
      exact ⟨a.m i, vs, r.2, .of e1, r1⟩
    · cases h
  | _ => cases h
def rCatL (K : PySem.W.Frag) : R2 := fun x y H Q => ∃ l b xs zs, x = .ref l ∧ y = .ref b ∧ SqL K H l xs ∧ SqL K H b zs ∧ xs.length + zs.length ≤ sizeLine ∧ ∀ p, H p = none → Q (.ref p) (upd H p (.lst (xs ++ zs)))
theorem op_catL : OpR X (binaryOp .Add) (rCatL X.K) := by
  intro pins s σ H x y v u Q I rx ry h
  obtain ⟨l, b, xs, zs, rfl, rfl, hH, hB, hz, q⟩ := h
  cases rx
  cases ry
  obtain ⟨its, r, p1, _⟩ := I.list hH
  obtain ⟨its2, r2, p2, _⟩ := I.list hB
  obtain ⟨⟨cls, dd, data, sl⟩, n, ho, hc, _, hd⟩ := p1
  obtain ⟨⟨cls2, dd2, data2, sl2⟩, n2, ho2, hc2, _, hd2⟩ := p2
  cases hc
  cases hd
  cases hc2
  cases hd2
  have hl := r.length
  have hl2 := r2.length
  refine concat_meets ⟨_, ho, rfl⟩ ⟨_, ho2, rfl⟩ noFill_list_add seq_list_add PySem.F.slot_list_add PySem.F.entry_list_add (PySem.F.args_list_add_2 _ _) (list_addW l b its.toArray its2.toArray n n2 dd dd2 sl sl2 (by rw [List.size_toArray, List.size_toArray]; omega)) ⟨ho, ho2, ?_⟩
  have ea : its.toArray ++ its2.toArray = (its ++ its2).toArray := by simp
  rw [ea]
  exact ⟨.ref _, _, I.lnew (t' := s.toks) (r.append r2) (by rw [List.length_append]; omega), rfl, q _ I.fresh⟩
theorem o_add : OpR X (binaryOp .Add) (lR2 X.K E opAdd) := opII (op_add.or (op_add_str.or (op_catL.or op_catT))) fun a G d e x y Q hk s rd re q => by
  have lst : out E a (match lstOf d G, lstOf e G with
    | some xs, some ys => if xs.length + ys.length ≤ 1000000 then .ok (.ref G.length) (G ++ [.lst (xs ++ ys)]) else .bad
    | _, _ => .bad) Q → rCatL X.K x y a.H Q := fun q => by
    split at q
    · rename_i xs ys h1 h2
      split at q
      · rename_i hl
        obtain ⟨p, vs, e1, q1, r1⟩ := lstOf_rep s rd h1
        obtain ⟨p', vs', e2, q2, r2⟩ := lstOf_rep s re h2
        rw [hk] at q1 q2
        exact ⟨p, p', vs, vs', e1, e2, q1, q2, by rw [← r1.length, ← r2.length]; exact Nat.le_trans hl size6, fun p hp => new_lst s (r1.append r2) q p hp⟩
      · exact q.elim
    · exact q.elim
  have L := fun q => Or.inr (a := rI0 (fun i j => V.int (i + j)) x y a.H Q) (Or.inr (a := ∃ i j, x = .str i ∧ y = .str j ∧ i.length + j.length ≤ sizeLine ∧ Q (.str (i ++ j)) a.H) (Or.inl (b := rCatT X.K x y a.H Q) (lst q)))
  cases d <;> cases e <;> first
    | exact .inl ⟨_, _, rd, re, q a _ (Ext.refl a) s rfl⟩
    | exact L q
    | skip
  · rename_i i j
    unfold opAdd at q
    dsimp only at q
    split at q
    · rename_i hl
      exact .inr (.inl ⟨_, _, rd, re, Nat.le_trans hl size6, q a _ (Ext.refl a) s rfl⟩)
    · exact q.elim
  · rename_i xs ys
    unfold opAdd at q
    dsimp only at q
    split at q
    · rename_i hl
      obtain ⟨p, vs, e1, h1, r1⟩ := rd
      obtain ⟨p', vs', e2, h2, r2⟩ := re
      rw [hk] at h1 h2
      refine .inr (.inr (.inr ⟨p, p', vs, vs', e1, e2, h1, h2, fun z => hl.1 (List.eq_nil_of_length_eq_zero (by rw [r1.length, z]; rfl)), by rw [← r1.length, ← r2.length]; exact Nat.le_trans hl.2 size6, fun z => ?_, fun _ p0 hp => ?_⟩))
      · refine q a (.ref p) (Ext.refl a) s ⟨p, vs, rfl, by rw [hk]; exact h1, ?_⟩
        have e3 : ys = [] := List.eq_nil_of_length_eq_zero (by rw [r2.length, z]; rfl)
        rw [e3, List.append_nil]
        exact r1
      · exact new_tup s (r1.append r2) q p0 hp
    · exact q.elim
/-! ### == -/
inductive VD where
  | flat (v : V)
  | lst (xs : List D)
  | tup (xs : List D)
  | bad
def view (G : DH) : D → VD
  | .non => .flat .non
  | .bl b => .flat (.bl b)
  | .int i => .flat (.int i)
  | .str x => .flat (.str x)
  | .ty _ => .bad
  | .tup xs => .tup xs
  | .fl xs => .lst xs
  | .ref i => match G[i]? with
    | some (.lst xs) => .lst xs
    | _ => .bad
def eqZ (f : D → D → Option Bool) : List D → List D → Option Bool
  | x :: xs, y :: ys => match f x y, eqZ f xs ys with
    | some a, some b => some (a && b)
    | _, _ => none
  | _, _ => some true
def eqD : Nat → DH → D → D → Option Bool
  | 0 => fun _ _ _ => none
  | n + 1 => fun G d e => match view G d, view G e with
    | .flat a, .flat b => some (eqV a b)
    | .lst xs, .lst ys => if xs.length = ys.length then eqZ (eqD n G) xs ys else some false
    | .tup xs, .tup ys => match eqZ (eqD n G) xs ys with
      | some b => some (b && xs.length == ys.length)
      | none => none
    | .bad, _ => none
    | _, .bad => none
    | _, _ => some false
theorem eqZ_get {f : D → D → Option Bool} : ∀ {xs ys : List D} {k : Bool}, eqZ f xs ys = some k → ∃ e : Nat → Bool, (∀ (j : Nat) (x y : D), xs[j]? = some x → ys[j]? = some y → f x y = some (e j)) ∧ k = (List.range (min xs.length ys.length)).all e
  | [], ys, k, h => ⟨fun _ => true, fun j x y e1 _ => by simp at e1, by
      have h' : some true = some k := by cases ys <;> exact h
      cases h'
      simp⟩
  | x :: xs, [], k, h => ⟨fun _ => true, fun j x y _ e1 => by simp at e1, by
      have h' : some true = some k := h
      cases h'
      simp⟩
  | x :: xs, y :: ys, k, h => by
    unfold eqZ at h
    split at h
    · rename_i a b h1 h2
      obtain ⟨e, he, hk⟩ := eqZ_get h2
      have h' : (a && b) = k := Option.some.inj h
      refine ⟨fun j => match j with | 0 => a | j + 1 => e j, fun j x' y' e1 e2 => ?_, ?_⟩
      · cases j with
        | zero => simp at e1 e2; subst e1; subst e2; exact h1
        | succ j => exact he j x' y' (by simpa using e1) (by simpa using e2)
      · rw [← h', hk]
        have : min (x :: xs).length (y :: ys).length = min xs.length ys.length + 1 := by simp only [List.length_cons]; omega
        rw [this, List.range_succ_eq_map, List.all_cons, List.all_map]
        rfl
    · cases h
/-- what a view says of the value -/
theorem view_rep {a : Wd} {G : DH} (s : Sim a G) {d : D} {x : V} (r : Rep a d x) : match view G d with
    | .flat v => x = v ∧ flatV v = true
    | .lst xs => ∃ p vs, x = .ref p ∧ SqL a.K a.H p vs ∧ Reps a xs vs
    | .tup xs => ∃ p vs, x = .ref p ∧ SqT a.K a.H p vs ∧ Reps a xs vs
    | .bad => True := by
  cases d with
  | non => exact ⟨r, rfl⟩
  | bl b => exact ⟨r, rfl⟩
  | int b => exact ⟨r, rfl⟩
  | str b => exact ⟨r, rfl⟩
  | ty n => trivial
  | tup xs =>
    obtain ⟨p, vs, e, h, q⟩ := r
    exact ⟨p, vs, e, h, q⟩
  | fl xs =>
    obtain ⟨p, vs, e, h, q⟩ := r
    exact ⟨p, vs, e, h.sq, q⟩
  | ref i =>
    unfold view
    dsimp only
    split
    · rename_i v hv
      split at hv <;> cases hv
    · rename_i xs hv
      split at hv
      · rename_i ys hi
        cases hv
        obtain ⟨vs, e1, r1⟩ := s.lst hi
        exact ⟨a.m i, vs, r.2, .of e1, r1⟩
      · cases hv
    · rename_i xs hv
      split at hv <;> cases hv
    · trivial
theorem rcAt_V {A : Around} {s : Shared} {y x : V} {u v : Value} (ry : RelV y u) (rx : RelV x v) (fy : flatV y = true) (fx : flatV x = true) : SeqAt.RcAt A s u v (eqV y x) := by
  cases y with
  | non =>
    cases ry
    cases x with
    | non => cases rx; exact SeqAt.RcAt.none_none
    | bl b => cases rx; exact SeqAt.RcAt.none_bool b
    | int b => obtain ⟨t, rfl⟩ := rx; exact SeqAt.RcAt.none_int b t
    | str b => obtain ⟨t, rfl⟩ := rx; exact SeqAt.RcAt.none_str b t
    | _ => exact absurd (show false = true from fx) Bool.false_ne_true
  | bl a =>
    cases ry
    cases x with
    | non => cases rx; exact SeqAt.RcAt.bool_none a
    | bl b => cases rx; exact SeqAt.RcAt.bool_bool a b
    | int b => obtain ⟨t, rfl⟩ := rx; exact SeqAt.RcAt.bool_int a b t
    | str b => obtain ⟨t, rfl⟩ := rx; exact SeqAt.RcAt.bool_str a b t
    | _ => exact absurd (show false = true from fx) Bool.false_ne_true
  | int a =>
    obtain ⟨t', rfl⟩ := ry
    cases x with
    | non => cases rx; exact SeqAt.RcAt.int_none a t'
    | bl b => cases rx; exact SeqAt.RcAt.int_bool a t' b
    | int b => obtain ⟨t, rfl⟩ := rx; exact SeqAt.RcAt.int_int a t' b t
    | str b => obtain ⟨t, rfl⟩ := rx; exact SeqAt.RcAt.int_str a t' b t
    | _ => exact absurd (show false = true from fx) Bool.false_ne_true
  | str a =>
    obtain ⟨t', rfl⟩ := ry
    cases x with
    | non => cases rx; exact SeqAt.RcAt.str_none a t'
    | bl b => cases rx; exact SeqAt.RcAt.str_bool a t' b
    | int b => obtain ⟨t, rfl⟩ := rx; exact SeqAt.RcAt.str_int a t' b t
    | str b => obtain ⟨t, rfl⟩ := rx; exact SeqAt.RcAt.str_str a t' b t
    | _ => exact absurd (show false = true from fx) Bool.false_ne_true
  | _ => exact absurd (show false = true from fy) Bool.false_ne_true
theorem rcNe_V {A : Around} {s : Shared} {y x : V} {u v : Value} (ry : RelV y u) (rx : RelV x v) (fy : flatV y = true) (fx : flatV x = true) : SeqAt.RcNeAt A s u v (!eqV y x) := by
  cases y with
  | non =>
    cases ry
    cases x with
    | non => cases rx; exact SeqAt.RcNeAt.none_none
    | bl b => cases rx; exact SeqAt.RcNeAt.none_bool b
    | int b => obtain ⟨t, rfl⟩ := rx; exact SeqAt.RcNeAt.none_int b t
    | str b => obtain ⟨t, rfl⟩ := rx; exact SeqAt.RcNeAt.none_str b t
    | _ => exact absurd (show false = true from fx) Bool.false_ne_true
  | bl a =>
    cases ry
    cases x with
    | non => cases rx; exact SeqAt.RcNeAt.bool_none a
    | bl b => cases rx; exact SeqAt.RcNeAt.bool_bool a b
    | int b => obtain ⟨t, rfl⟩ := rx; exact SeqAt.RcNeAt.bool_int a b t
    | str b => obtain ⟨t, rfl⟩ := rx; exact SeqAt.RcNeAt.bool_str a b t
    | _ => exact absurd (show false = true from fx) Bool.false_ne_true
  | int a =>
    obtain ⟨t', rfl⟩ := ry
    cases x with
    | non => cases rx; exact SeqAt.RcNeAt.int_none a t'
    | bl b => cases rx; exact SeqAt.RcNeAt.int_bool a t' b
    | int b => obtain ⟨t, rfl⟩ := rx; exact SeqAt.RcNeAt.int_int a t' b t
    | str b => obtain ⟨t, rfl⟩ := rx; exact SeqAt.RcNeAt.int_str a t' b t
    | _ => exact absurd (show false = true from fx) Bool.false_ne_true
  | str a =>
    obtain ⟨t', rfl⟩ := ry
    cases x with
    | non => cases rx; exact SeqAt.RcNeAt.str_none a t'
    | bl b => cases rx; exact SeqAt.RcNeAt.str_bool a t' b
    | int b => obtain ⟨t, rfl⟩ := rx; exact SeqAt.RcNeAt.str_int a t' b t
    | str b => obtain ⟨t, rfl⟩ := rx; exact SeqAt.RcNeAt.str_str a t' b t
    | _ => exact absurd (show false = true from fx) Bool.false_ne_true
  | _ => exact absurd (show false = true from fy) Bool.false_ne_true
end
end DL
namespace DL
open PySem PySem.Spec L2
open PyProof.Rows hiding St
section
variable {X : Cx} {E : XK} {pins : List (Addr × Obj)} {σ : St} {s : Shared}
theorem eqV_self (v : V) (h : flatV v = true) : eqV v v = true := by
  cases v <;> first | rfl | exact absurd (show false = true from h) Bool.false_ne_true | (simp [eqV])
/-- the same value: equal -/
theorem eqD_same {a : Wd} {G : DH} (I : Inv X pins σ a.H s) (hk : a.K = X.K) (sm : Sim a G) : ∀ (n : Nat) {d e : D} {x : V} {k : Bool}, Rep a d x → Rep a e x → eqD n G d e = some k → k = true
  | 0, _, _, _, _, _, _, h => by cases h
  | n + 1, d, e, x, k, rd, re, h => by
    have vd := view_rep sm rd
    have ve := view_rep sm re
    have items : ∀ {xs ys : List D} {vs : List V} {b : Bool}, Reps a xs vs → Reps a ys vs → eqZ (eqD n G) xs ys = some b → b = true := fun {xs ys vs b} r1 r2 hz => by
      obtain ⟨f, hf, hb⟩ := eqZ_get hz
      rw [hb, List.all_eq_true]
      intro j hj
      have hj' : j < min xs.length ys.length := List.mem_range.mp hj
      have h1 : xs[j]? = some (xs[j]'(by omega)) := List.getElem?_eq_getElem (by omega)
      have h2 : ys[j]? = some (ys[j]'(by omega)) := List.getElem?_eq_getElem (by omega)
      obtain ⟨v1, e1, q1⟩ := r1.get h1
      obtain ⟨v2, e2, q2⟩ := r2.get h2
      rw [e1] at e2
      cases e2
      exact eqD_same I hk sm n q1 q2 (hf j _ _ h1 h2)
    unfold eqD at h
    try dsimp only at h
    revert h vd ve
    cases view G d <;> cases view G e <;> intro vd ve h <;> dsimp only at h vd ve <;> first
      | cases h
      | skip
    · -- flat
      rename_i v w
      obtain ⟨rfl, f1⟩ := vd
      obtain ⟨rfl, f2⟩ := ve
      exact eqV_self _ f1
    · obtain ⟨rfl, f1⟩ := vd
      obtain ⟨p, vs, e1, _⟩ := ve
      subst e1
      cases f1
    · obtain ⟨rfl, f1⟩ := vd
      obtain ⟨p, vs, e1, _⟩ := ve
      subst e1
      cases f1
    · obtain ⟨rfl, f1⟩ := ve
      obtain ⟨p, vs, e1, _⟩ := vd
      subst e1
      cases f1
    · obtain ⟨p, vs, e1, h1, r1⟩ := vd
      obtain ⟨p', vs', e2, h2, r2⟩ := ve
      rw [e1] at e2
      cases e2
      rw [hk] at h1 h2
      cases I.list_inj h1 h2
      split at h
      · exact items r1 r2 h
      · rename_i hl
        exact absurd (r1.length.trans r2.length.symm) hl
    · obtain ⟨p, vs, e1, h1, r1⟩ := vd
      obtain ⟨p', vs', e2, h2, r2⟩ := ve
      rw [e1] at e2
      cases e2
      rw [hk] at h1 h2
      obtain ⟨_, _, pl, _⟩ := I.list h1
      obtain ⟨_, _, pt, _⟩ := I.tuple h2
      exact absurd rfl (SeqAt.ne_of_list_tuple pl.isList pt)
    · obtain ⟨rfl, f1⟩ := ve
      obtain ⟨p, vs, e1, _⟩ := vd
      subst e1
      cases f1
    · obtain ⟨p, vs, e1, h1, r1⟩ := vd
      obtain ⟨p', vs', e2, h2, r2⟩ := ve
      rw [e1] at e2
      cases e2
      rw [hk] at h1 h2
      obtain ⟨_, _, pl, _⟩ := I.list h2
      obtain ⟨_, _, pt, _⟩ := I.tuple h1
      exact absurd rfl (SeqAt.ne_of_list_tuple pl.isList pt)
    · obtain ⟨p, vs, e1, h1, r1⟩ := vd
      obtain ⟨p', vs', e2, h2, r2⟩ := ve
      rw [e1] at e2
      cases e2
      rw [hk] at h1 h2
      cases I.tuple_inj h1 h2
      split at h
      · rename_i b hz
        have h' : (b && _) = k := Option.some.inj h
        rw [← h', items r1 r2 hz, r1.length, r2.length]
        simp
      · cases h
/-- items by their places -/
theorem items_get {a : Wd} {xs : List D} {vs : List V} {its : List Value} {j : Nat} (r : Reps a xs vs) (q : Vals vs its) (h : j < its.toArray.size) : ∃ d v, xs[j]? = some d ∧ Rep a d v ∧ RelV v its.toArray[j] := by
  have hl : j < its.length := by simpa using h
  have h2 : j < vs.length := by rw [q.length]; exact hl
  obtain ⟨v, e1⟩ : ∃ v, vs[j]? = some v := ⟨vs[j], List.getElem?_eq_getElem h2⟩
  obtain ⟨d, e2, rd⟩ := r.get' e1
  obtain ⟨u, e3, ru⟩ := q.get e1
  have e4 : u = its.toArray[j] := by
    have : its[j]? = some its[j] := List.getElem?_eq_getElem hl
    rw [this] at e3
    simpa using (Option.some.inj e3).symm
  exact ⟨d, v, e2, rd, by rw [← e4]; exact ru⟩
set_option maxHeartbeats 1000000 in
theorem eqD_at {a : Wd} {G : DH} (I : Inv X pins σ a.H s) (hk : a.K = X.K) (sm : Sim a G) : ∀ (n : Nat) {A : Around} {d e : D} {x y : V} {u w : Value} {k : Bool}, A.units + n < cLine → Rep a d x → Rep a e y → RelV x u → RelV y w → eqD n G d e = some k →
    SeqAt.EqAt A s u w k ∧ SeqAt.RcAt A s u w k ∧ SeqAt.RcNeAt A s u w (!k)
  | 0, _, _, _, _, _, _, _, _, _, _, _, _, _, h => by cases h
  | n + 1, A, d, e, x, y, u, w, k, hu, rd, re, ru, rw', h => by
    have vd := view_rep sm rd
    have ve := view_rep sm re
    have hu1 : A.units < cLine := by omega
    have hu2 : A.in1.units + n < cLine := by show A.units + 1 + n < cLine; omega
    have same : ∀ {z : V}, Rep a d z → Rep a e z → eqD (n + 1) G d e = some k → k = true := fun r1 r2 r3 => eqD_same I hk sm (n + 1) r1 r2 r3
    have h0 := h
    unfold eqD at h
    try dsimp only at h
    -- two references: identity first
    have refs : ∀ {p q : Addr} {k : Bool}, (p = q → k = true) → SeqAt.RcAt A s (.ref p) (.ref q) k → SeqAt.EqAt A s (.ref p) (.ref q) k := fun {p q k} hs hr => by
      by_cases e : p = q
      · rw [hs e, e]; exact SeqAt.EqAt.same _
      · exact SeqAt.EqAt.of_refs e hr
    revert h vd ve
    cases hvd : view G d <;> cases hve : view G e <;> intro vd ve h <;> dsimp only at h vd ve <;> first
      | cases h
      | skip
    · -- flat, flat
      obtain ⟨rfl, f1⟩ := vd
      obtain ⟨rfl, f2⟩ := ve
      exact ⟨eqAt_V ru rw' f1 f2, rcAt_V ru rw' f1 f2, rcNe_V ru rw' f1 f2⟩
    · -- flat, lst
      obtain ⟨rfl, f1⟩ := vd
      obtain ⟨q, vs, rfl, h2, r2⟩ := ve
      cases rw'
      rw [hk] at h2
      obtain ⟨its, qv, pl, _⟩ := I.list h2
      cases x with
      | non => cases ru; exact ⟨SeqAt.EqAt.none_list pl.isList hu1, SeqAt.RcAt.none_list pl.isList hu1, SeqAt.RcNeAt.none_list pl.isList hu1⟩
      | bl b => cases ru; exact ⟨SeqAt.EqAt.bool_list b pl.isList hu1, SeqAt.RcAt.bool_list b pl.isList hu1, SeqAt.RcNeAt.bool_list b pl.isList hu1⟩
      | int b => obtain ⟨t, rfl⟩ := ru; exact ⟨SeqAt.EqAt.int_list b t pl.isList hu1, SeqAt.RcAt.int_list b t pl.isList hu1, SeqAt.RcNeAt.int_list b t pl.isList hu1⟩
      | str b => obtain ⟨t, rfl⟩ := ru; exact ⟨SeqAt.EqAt.str_list b t pl.isList hu1, SeqAt.RcAt.str_list b t pl.isList hu1, SeqAt.RcNeAt.str_list b t pl.isList hu1⟩
      | _ => exact absurd (show false = true from f1) Bool.false_ne_true
    · -- flat, tup
      obtain ⟨rfl, f1⟩ := vd
      obtain ⟨q, vs, rfl, h2, r2⟩ := ve
      cases rw'
      rw [hk] at h2
      obtain ⟨its, qv, pl, _⟩ := I.tuple h2
      cases x with
      | non => cases ru; exact ⟨SeqAt.EqAt.none_tuple pl hu1, SeqAt.RcAt.none_tuple pl hu1, SeqAt.RcNeAt.none_tuple pl hu1⟩
      | bl b => cases ru; exact ⟨SeqAt.EqAt.bool_tuple b pl hu1, SeqAt.RcAt.bool_tuple b pl hu1, SeqAt.RcNeAt.bool_tuple b pl hu1⟩
      | int b => obtain ⟨t, rfl⟩ := ru; exact ⟨SeqAt.EqAt.int_tuple b t pl hu1, SeqAt.RcAt.int_tuple b t pl hu1, SeqAt.RcNeAt.int_tuple b t pl hu1⟩
      | str b => obtain ⟨t, rfl⟩ := ru; exact ⟨SeqAt.EqAt.str_tuple b t pl hu1, SeqAt.RcAt.str_tuple b t pl hu1, SeqAt.RcNeAt.str_tuple b t pl hu1⟩
      | _ => exact absurd (show false = true from f1) Bool.false_ne_true
    · -- lst, flat
      obtain ⟨rfl, f1⟩ := ve
      obtain ⟨q, vs, rfl, h2, r2⟩ := vd
      cases ru
      rw [hk] at h2
      obtain ⟨its, qv, pl, _⟩ := I.list h2
      cases y with
      | non => cases rw'; exact ⟨SeqAt.EqAt.list_none pl.isList hu1, SeqAt.RcAt.list_none pl.isList hu1, SeqAt.RcNeAt.list_none pl.isList hu1⟩
      | bl b => cases rw'; exact ⟨SeqAt.EqAt.list_bool b pl.isList hu1, SeqAt.RcAt.list_bool b pl.isList hu1, SeqAt.RcNeAt.list_bool b pl.isList hu1⟩
      | int b => obtain ⟨t, rfl⟩ := rw'; exact ⟨SeqAt.EqAt.list_int b t pl.isList hu1, SeqAt.RcAt.list_int b t pl.isList hu1, SeqAt.RcNeAt.list_int b t pl.isList hu1⟩
      | str b => obtain ⟨t, rfl⟩ := rw'; exact ⟨SeqAt.EqAt.list_str b t pl.isList hu1, SeqAt.RcAt.list_str b t pl.isList hu1, SeqAt.RcNeAt.list_str b t pl.isList hu1⟩
      | _ => exact absurd (show false = true from f1) Bool.false_ne_true
    · -- lst, lst
      obtain ⟨p, vs, rfl, h1, r1⟩ := vd
      obtain ⟨q, vs', rfl, h2, r2⟩ := ve
      cases ru
      cases rw'
      rw [hk] at h1 h2
      obtain ⟨its, q1, p1, _⟩ := I.list h1
      obtain ⟨its', q2, p2, _⟩ := I.list h2
      have sz1 : its.toArray.size = vs.length := by rw [List.size_toArray]; exact q1.length.symm
      have sz2 : its'.toArray.size = vs'.length := by rw [List.size_toArray]; exact q2.length.symm
      split at h
      · rename_i hl
        obtain ⟨f, hf, hb⟩ := eqZ_get h
        have hsz : its.toArray.size = its'.toArray.size := by rw [sz1, sz2, ← r1.length, ← r2.length]; exact hl
        have he : ∀ j (g1 : j < its.toArray.size) (g2 : j < its'.toArray.size), SeqAt.EqAt A.in1 s its.toArray[j] its'.toArray[j] (f j) := fun j g1 g2 => by
          obtain ⟨d1, v1, e1, rd1, rv1⟩ := items_get r1 q1 g1
          obtain ⟨d2, v2, e2, rd2, rv2⟩ := items_get r2 q2 g2
          exact (eqD_at I hk sm n hu2 rd1 rd2 rv1 rv2 (hf j d1 d2 e1 e2)).1
        have hk' : k = (List.range its.toArray.size).all f := by
          rw [hb]
          congr 2
          rw [sz1, ← r1.length, hl]
          omega
        have rc : SeqAt.RcAt A s (.ref p) (.ref q) k := by rw [hk']; exact SeqAt.RcAt.lists p1.isList p2.isList hsz hu1 he
        refine ⟨refs (fun e => ?_) rc, rc, by rw [hk']; exact SeqAt.RcNeAt.lists p1.isList p2.isList hsz hu1 he⟩
        subst e
        exact same rd re h0
      · rename_i hl
        have h' : false = k := Option.some.inj h
        subst h'
        have hsz : (its.toArray.size != its'.toArray.size) = true := by
          rw [bne_iff_ne, sz1, sz2, ← r1.length, ← r2.length]; exact hl
        refine ⟨refs (fun e => ?_) (SeqAt.RcAt.lists_lengths p1.isList p2.isList hsz hu1), SeqAt.RcAt.lists_lengths p1.isList p2.isList hsz hu1, SeqAt.RcNeAt.lists_lengths p1.isList p2.isList hsz hu1⟩
        subst e
        exact same rd re h0
    · -- lst, tup
      obtain ⟨p, vs, rfl, h1, r1⟩ := vd
      obtain ⟨q, vs', rfl, h2, r2⟩ := ve
      cases ru
      cases rw'
      rw [hk] at h1 h2
      obtain ⟨its, q1, p1, _⟩ := I.list h1
      obtain ⟨its', q2, p2, _⟩ := I.tuple h2
      exact ⟨SeqAt.EqAt.list_tuple p1.isList p2 hu1, SeqAt.RcAt.list_tuple p1.isList p2 hu1, SeqAt.RcNeAt.list_tuple p1.isList p2 hu1⟩
    · -- tup, flat
      obtain ⟨rfl, f1⟩ := ve
      obtain ⟨q, vs, rfl, h2, r2⟩ := vd
      cases ru
      rw [hk] at h2
      obtain ⟨its, qv, pl, _⟩ := I.tuple h2
      cases y with
      | non => cases rw'; exact ⟨SeqAt.EqAt.tuple_none pl hu1, SeqAt.RcAt.tuple_none pl hu1, SeqAt.RcNeAt.tuple_none pl hu1⟩
      | bl b => cases rw'; exact ⟨SeqAt.EqAt.tuple_bool b pl hu1, SeqAt.RcAt.tuple_bool b pl hu1, SeqAt.RcNeAt.tuple_bool b pl hu1⟩
      | int b => obtain ⟨t, rfl⟩ := rw'; exact ⟨SeqAt.EqAt.tuple_int b t pl hu1, SeqAt.RcAt.tuple_int b t pl hu1, SeqAt.RcNeAt.tuple_int b t pl hu1⟩
      | str b => obtain ⟨t, rfl⟩ := rw'; exact ⟨SeqAt.EqAt.tuple_str b t pl hu1, SeqAt.RcAt.tuple_str b t pl hu1, SeqAt.RcNeAt.tuple_str b t pl hu1⟩
      | _ => exact absurd (show false = true from f1) Bool.false_ne_true
    · -- tup, lst
      obtain ⟨p, vs, rfl, h1, r1⟩ := vd
      obtain ⟨q, vs', rfl, h2, r2⟩ := ve
      cases ru
      cases rw'
      rw [hk] at h1 h2
      obtain ⟨its, q1, p1, _⟩ := I.tuple h1
      obtain ⟨its', q2, p2, _⟩ := I.list h2
      exact ⟨SeqAt.EqAt.tuple_list p1 p2.isList hu1, SeqAt.RcAt.tuple_list p1 p2.isList hu1, SeqAt.RcNeAt.tuple_list p1 p2.isList hu1⟩
    · -- tup, tup
      rename_i xs ys
      obtain ⟨p, vs, rfl, h1, r1⟩ := vd
      obtain ⟨q, vs', rfl, h2, r2⟩ := ve
      cases ru
      cases rw'
      rw [hk] at h1 h2
      obtain ⟨its, q1, p1, _⟩ := I.tuple h1
      obtain ⟨its', q2, p2, _⟩ := I.tuple h2
      have sz1 : its.toArray.size = xs.length := by rw [List.size_toArray, r1.length]; exact q1.length.symm
      have sz2 : its'.toArray.size = ys.length := by rw [List.size_toArray, r2.length]; exact q2.length.symm
      split at h
      · rename_i b hz
        have h' : (b && xs.length == ys.length) = k := Option.some.inj h
        obtain ⟨f, hf, hb⟩ := eqZ_get hz
        have he : ∀ j (g1 : j < its.toArray.size) (g2 : j < its'.toArray.size), SeqAt.EqAt A.in1 s its.toArray[j] its'.toArray[j] (f j) := fun j g1 g2 => by
          obtain ⟨d1, v1, e1, rd1, rv1⟩ := items_get r1 q1 g1
          obtain ⟨d2, v2, e2, rd2, rv2⟩ := items_get r2 q2 g2
          exact (eqD_at I hk sm n hu2 rd1 rd2 rv1 rv2 (hf j d1 d2 e1 e2)).1
        have hk' : k = ((List.range (min its.toArray.size its'.toArray.size)).all f && its.toArray.size == its'.toArray.size) := by
          rw [← h', hb, sz1, sz2]
        have rc : SeqAt.RcAt A s (.ref p) (.ref q) k := by rw [hk']; exact SeqAt.RcAt.tuples p1 p2 hu1 he
        refine ⟨refs (fun e => ?_) rc, rc, by rw [hk']; exact SeqAt.RcNeAt.tuples p1 p2 hu1 he⟩
        subst e
        exact same rd re h0
      · cases h
def opEq (d e : D) (G : DH) : R D := match eqD 30 G d e with
  | some k => .ok (.bl k) G
  | none => .bad
def opNe (d e : D) (G : DH) : R D := match eqD 30 G d e with
  | some k => .ok (.bl (!k)) G
  | none => .bad
theorem o_eq (hu : X.A.units + 64 < cLine) : OpR X (compareOp .Eq) (lR2 X.K E opEq) := by
  intro pins s σ H x y v u Q I rx ry ⟨a, G, d, e, hk, hH, sm, rd, re, q⟩
  subst hH
  unfold opEq at q
  split at q
  · rename_i k hd
    exact (eqD_at I hk sm 30 (by omega) rd re rx ry hd).2.1 _ _ _ _ ⟨.bl k, a.H, I, rfl, q a _ (Ext.refl a) sm rfl⟩
  · exact q.elim
theorem o_ne (hu : X.A.units + 64 < cLine) : OpR X (compareOp .NotEq) (lR2 X.K E opNe) := by
  intro pins s σ H x y v u Q I rx ry ⟨a, G, d, e, hk, hH, sm, rd, re, q⟩
  subst hH
  unfold opNe at q
  split at q
  · rename_i k hd
    exact (eqD_at I hk sm 30 (by omega) rd re rx ry hd).2.2 _ _ _ _ ⟨.bl (!k), a.H, I, rfl, q a _ (Ext.refl a) sm rfl⟩
  · exact q.elim
end
end DL
namespace DL
open PySem PySem.Spec L2
open PyProof.Rows hiding St
/-! ### targets -/
abbrev DG := D → DSt → DH → R DSt
def outG (E : XK) (a : Wd) (r : R DSt) (Q : St → Hp → Prop) : Prop := match r with
  | .ok S G => ∀ (b : Wd) (σ : St), Ext a b → Sim b G → RepS b S σ → Q σ b.H
  | .err x G => XOk E a x G
  | .bad => False
def lG (K : PySem.W.Frag) (E : XK) (t : DG) : TG := fun v σ H Q => ∃ (a : Wd) (S : DSt) (G : DH) (d : D), a.K = K ∧ a.H = H ∧ Sim a G ∧ RepS a S σ ∧ Rep a d v ∧ outG E a (t d S G) Q
def QG (X : Cx) (E : XK) (tg : Expr) (t : DG) : Prop := PG X tg (lG X.K E t)
abbrev DGs := List D → DSt → DH → R DSt
def lGs (K : PySem.W.Frag) (E : XK) (t : DGs) : TGs := fun vs σ H Q => ∃ (a : Wd) (S : DSt) (G : DH) (ds : List D), a.K = K ∧ a.H = H ∧ Sim a G ∧ RepS a S σ ∧ Reps a ds vs ∧ outG E a (t ds S G) Q
def QGs (X : Cx) (E : XK) (tg : List Expr) (t : DGs) : Prop := PGs X tg (lGs X.K E t)
def gV (i : Nat) : DG := fun d S G => .ok (S.set i (some d)) G
def gNil' : DGs := fun ds S G => match ds with
  | [] => .ok S G
  | _ => .bad
def gCons' (t : DG) (u : DGs) : DGs := fun ds S G => match ds with
  | d :: r => (t d S G).bind fun S1 G1 => u r S1 G1
  | [] => .bad
def gTup' (n : Nat) (t : DGs) : DG := fun d S G => match d with
  | .tup ds => if ds.length = n then t ds S G else .bad
  | _ => .bad
theorem outG.imp {E : XK} {a : Wd} {r : R DSt} {Q Q' : St → Hp → Prop} (h : outG E a r Q) (w : ∀ v H, Q v H → Q' v H) : outG E a r Q' := by
  cases r with
  | ok d G => exact fun b v x s q => w _ _ (h b v x s q)
  | err e G => exact h
  | bad => exact h
theorem outG.mono {E : XK} {a b : Wd} (x : Ext a b) {r : R DSt} {Q : St → Hp → Prop} (h : outG E a r Q) : outG E b r Q := by
  cases r with
  | ok d G => exact fun c v y s q => h c v (x.trans y) s q
  | err e G => exact XOk.mono (E := E) (e := e) (G := G) x h
  | bad => exact h
theorem outG_bindG {E : XK} {a : Wd} {r : R DSt} {f : DSt → DH → R DSt} {Q : St → Hp → Prop} (h : outG E a (r.bind f) Q) :
    outG E a r (fun σ H => ∃ (b : Wd) (S : DSt) (G : DH), b.H = H ∧ Ext a b ∧ Sim b G ∧ RepS b S σ ∧ r = .ok S G ∧ outG E b (f S G) Q) := by
  cases r with
  | ok d G => exact fun b v x s q => ⟨b, d, G, rfl, x, s, q, rfl, outG.mono x h⟩
  | err e G => exact h
  | bad => exact h
theorem outG_bind {E : XK} {a : Wd} {r : R D} {f : D → DH → R DSt} {Q : St → Hp → Prop} (h : outG E a (r.bind f) Q) :
    out E a r (fun v H => ∃ (b : Wd) (d : D) (G : DH), b.H = H ∧ Ext a b ∧ Sim b G ∧ Rep b d v ∧ r = .ok d G ∧ outG E b (f d G) Q) := by
  cases r with
  | ok d G => exact fun b v x s q => ⟨b, d, G, rfl, x, s, q, rfl, outG.mono x h⟩
  | err e G => exact h
  | bad => exact h
theorem outS_toSG {E : XK} {a : Wd} {r : R DSt} {f : DSt → DH → SR} {W : Ends} (h : outS E a (r.toS f) W) :
    outG E a r (fun σ H => ∃ (b : Wd) (S : DSt) (G : DH), b.H = H ∧ Ext a b ∧ Sim b G ∧ RepS b S σ ∧ r = .ok S G ∧ outS E b (f S G) W) := by
  cases r with
  | ok d G => exact fun b v x s q => ⟨b, d, G, rfl, x, s, q, rfl, outS.mono x h⟩
  | err e G => exact h
  | bad => exact h
section
variable {X : Cx} {E : XK}
theorem _root_.L2.PG.mono {e : Expr} {t t' : TG} (h : PG X e t) (w : ∀ v σ H Q, t' v σ H Q → t v σ H Q) : PG X e t' := fun pins s σ H v u Q I r q => h pins s σ H v u Q I r (w v σ H Q q)
theorem _root_.L2.PGs.mono {e : List Expr} {t t' : TGs} (h : PGs X e t) (w : ∀ v σ H Q, t' v σ H Q → t v σ H Q) : PGs X e t' := fun pins s σ H v u Q I r q => h pins s σ H v u Q I r (w v σ H Q q)
theorem qg_name (i : Nat) {x : Str} {pos : Pos} (hN : X.N.Nodup) (hi : X.N[i]? = some x := by rfl) (hx : Loc X.env.scope x := by first | exact Or.inl rfl | exact Or.inr rfl)
    (hf : X.fn x = true ∨ X.env.scope.names.lookup x = some .local := by first | exact .inl rfl | exact .inr rfl | assumption) : QG X E (.Name x pos) (gV i) :=
  (pg_name hN hi hx hf).mono fun v σ H Q h => by
    obtain ⟨a, S, G, d, hk, rfl, s, r, q, h⟩ := h
    exact h a _ (Ext.refl a) s (r.set i q)
theorem qgs_nil : QGs X E [] gNil' := pgs_nil.mono fun vs σ H Q h => by
  obtain ⟨a, S, G, ds, hk, rfl, s, r, q, h⟩ := h
  cases ds with
  | nil => exact ⟨q, h a σ (Ext.refl a) s r⟩
  | cons d ds => exact h.elim
theorem qgs_cons {e : Expr} {es : List Expr} {t : DG} {u : DGs} (h1 : QG X E e t) (h2 : QGs X E es u)
    (hs : (assignEach (e :: es) X.env).map (·.2) = assign e X.env :: (assignEach es X.env).map (·.2) := by rfl) : QGs X E (e :: es) (gCons' t u) := (pgs_cons h1 h2 hs).mono fun vs σ H Q h => by
  obtain ⟨a, S, G, ds, hk, rfl, s, r, q, h⟩ := h
  cases ds with
  | nil => exact h.elim
  | cons d ds =>
    obtain ⟨v, rest, e1, q1, q2⟩ := q
    refine ⟨v, rest, e1, a, S, G, d, hk, rfl, s, r, q1, (outG_bindG h).imp ?_⟩
    rintro σ' _ ⟨b, S1, G1, rfl, x, s1, r1, _, h1⟩
    exact ⟨b, S1, G1, ds, x.k.trans hk, rfl, s1, r1, q2.mono x, h1⟩
theorem qg_tup {es : List Expr} {k : Nat} {t : DGs} {n : Nat} {pos : Pos} (hc : X.calm = true) (h : QGs X E es t)
    (hn : (assignEach es X.env).length = n := by rfl) (hst : (assignEach es X.env).findIdx? (·.1) = none := by rfl) : QG X E (.Tuple es k pos) (gTup' n t) := (pg_tup hc h hn hst).mono fun v σ H Q h => by
  obtain ⟨a, S, G, d, hk, rfl, s, r, q, h⟩ := h
  cases d with
  | tup ds =>
    obtain ⟨p, vs, e, h1, r1⟩ := q
    unfold gTup' at h
    dsimp only at h
    split at h
    · rename_i hl
      exact ⟨p, vs, e, by rw [← hk]; exact h1, by rw [← r1.length]; exact hl, a, S, G, ds, hk, rfl, s, r, r1, h⟩
    · exact h.elim
  | _ => exact h.elim
/-! xs[i] = v -/
def setIx (o i v : D) (G : DH) : R D := match o, i with
  | .ref p, .int k => match G[p]? with
    | some (.lst xs) => match ixN xs.length k with
      | some j => .ok .non (G.set p (.lst (xs.set j v)))
      | none => .bad
    | _ => .bad
  | _, _ => .bad
def gIx (to ti : DE) : DG := fun v S G => (to S G).bind fun o G1 => (ti S G1).bind fun i G2 => (setIx o i v G2).bind fun _ G3 => .ok S G3
/-- the list at i is written -/
theorem wr_lst {a : Wd} {G : DH} {i : Nat} {vs vs' : List V} {ds' : List D} (s : Sim a G) (hi : i < a.n) (h : a.H (a.m i) = some (.lst vs)) (r : Reps a ds' vs') :
    Ext a (a.put (a.m i) (.lst vs')) ∧ Sim (a.put (a.m i) (.lst vs')) (G.set i (.lst ds')) := ⟨Ext.wr h, s.wr hi h (r.mono (Ext.wr h))⟩
theorem qg_ix {o i : Expr} {to ti : DE} {pos : Pos} (ho : QE X E o to) (hi : QE X E i ti)
    (ha : ∀ v, assign (.Subscript o i pos) X.env v = (do
      let ov ← holding [v] (eval o X.env)
      let iv ← holding [v, ov] (eval i X.env)
      standAt pos
      holding [v, ov, iv] (setItem ov iv v)
      release [v, ov, iv] []) := by intro _; rfl) : QG X E (.Subscript o i pos) (gIx to ti) := (pg_sub ho hi set_list ha).mono fun v σ H Q h => by
  obtain ⟨a, S, G, d, hk, rfl, s, r, q, h⟩ := h
  refine ⟨a, S, G, hk, rfl, s, r, (outG_bind h).imp ?_⟩
  rintro ov _ ⟨b, e, G1, rfl, x, s1, q1, _, h1⟩
  refine ⟨b, S, G1, x.k.trans hk, rfl, s1, r.mono x, (outG_bind h1).imp ?_⟩
  rintro iv _ ⟨c, f, G2, rfl, y, s2, q2, _, h2⟩
  cases e with
  | ref p =>
    cases f with
    | int k =>
      unfold setIx at h2
      dsimp only at h2
      split at h2
      · rename_i xs hx
        split at h2
        · rename_i j hj
          obtain ⟨vs, e1, r1⟩ := s2.lst hx
          have q1' := q1.mono y
          have rv := (q.mono x).mono y
          obtain ⟨x3, s3⟩ := wr_lst s2 q1'.1 e1 (r1.set rv j)
          refine ⟨c.m p, vs, k, j, q1'.2, q2, e1, by rw [← r1.length]; exact hj, ?_⟩
          exact h2 _ σ x3 s3 (((r.mono x).mono y).mono x3)
        · exact h2.elim
      · exact h2.elim
    | _ => exact h2.elim
  | _ => exact h2.elim
/-! ### statements -/
variable {st : Stmt} {rest : List Stmt} {t u : DS} {e : Expr} {te : DE} {pos : Pos}
def sNx : DS := fun S G => .nx S G
def sSeq (t u : DS) : DS := fun S G => match t S G with
  | .nx S1 G1 => u S1 G1
  | r => r
def sEx (te : DE) : DS := fun S G => (te S G).toS fun _ G1 => .nx S G1
def sRt (te : DE) : DS := fun S G => (te S G).toS fun d G1 => .rt d G1
def sIf (c : DB) (t u : DS) : DS := fun S G => (c S G).toS fun k G1 => if k = true then t S G1 else u S G1
def sAs (te : DE) (g : DG) : DS := fun S G => (te S G).toS fun d G1 => (g d S G1).toS fun S2 G2 => .nx S2 G2
theorem qss_nil : QSs X E [] sNx := pss_nil.mono fun W σ H h => by
  obtain ⟨a, S, G, hk, rfl, s, r, h⟩ := h
  exact h a σ (Ext.refl a) s r
theorem outS.nxOf {E : XK} {a : Wd} {t u : DS} {S : DSt} {G : DH} {K : PySem.W.Frag} (hk : a.K = K) {W : Ends} (h : outS E a (sSeq t u S G) W) : outS E a (t S G) { W with nx := lS K E u W } := by
  unfold sSeq at h
  revert h
  cases t S G <;> intro h
  · exact fun b σ x s r => ⟨b, _, _, x.k.trans hk, rfl, s, r, outS.mono x h⟩
  all_goals exact h
theorem qss_cons (h1 : QS X E st t) (h2 : QSs X E rest u) : QSs X E (st :: rest) (sSeq t u) := (pss_cons h1 h2).mono fun W σ H h => by
  obtain ⟨a, S, G, hk, rfl, s, r, h⟩ := h
  exact ⟨a, S, G, hk, rfl, s, r, h.nxOf hk⟩
theorem qss_one (h1 : QS X E st t) : QSs X E [st] t := pss_one h1
theorem qs_expr (he : QE X E e te) (hs : swapsWith e none pos.line X.env = pure false := by rfl) : QS X E (.Expr e pos) (sEx te) := (ps_expr he hs).mono fun W σ H h => by
  obtain ⟨a, S, G, hk, rfl, s, r, h⟩ := h
  refine ⟨a, S, G, hk, rfl, s, r, (outS_toS h).imp ?_⟩
  rintro v _ ⟨b, d, G1, rfl, x, s1, q, _, h1⟩
  exact h1 b σ (Ext.refl b) s1 (r.mono x)
theorem qs_ret (he : QE X E e te) : QS X E (.Return (some e) pos) (sRt te) := (ps_ret he).mono fun W σ H h => by
  obtain ⟨a, S, G, hk, rfl, s, r, h⟩ := h
  refine ⟨a, S, G, hk, rfl, s, r, (outS_toS h).imp ?_⟩
  rintro v _ ⟨b, d, G1, rfl, x, s1, q, _, h1⟩
  exact h1 b v (Ext.refl b) s1 q
theorem qs_if {c : Expr} {tc : DB} {a b : List Stmt} (hc : QT X E c tc) (ha : QSs X E a t) (hb : QSs X E b u) : QS X E (.If c a b pos) (sIf tc t u) := (ps_if hc ha hb).mono fun W σ H h => by
  obtain ⟨a, S, G, hk, rfl, s, r, h⟩ := h
  refine ⟨a, S, G, hk, rfl, s, r, (outS_toSB h).imp ?_⟩
  rintro k _ ⟨b, G1, rfl, x, s1, _, h1⟩
  cases k with
  | true => exact ⟨b, S, G1, x.k.trans hk, rfl, s1, r.mono x, h1⟩
  | false => exact ⟨b, S, G1, x.k.trans hk, rfl, s1, r.mono x, h1⟩
theorem lS_as {K : PySem.W.Frag} {g : DG} {W : Ends} {σ : St} {H : Hp} (h : lS K E (sAs te g) W σ H) : tAsg (lE K E te) (lG K E g) W σ H := by
  obtain ⟨a, S, G, hk, rfl, s, r, h⟩ := h
  refine ⟨a, S, G, hk, rfl, s, r, (outS_toS h).imp ?_⟩
  rintro v _ ⟨b, d, G1, rfl, x, s1, q, _, h1⟩
  refine ⟨b, S, G1, d, x.k.trans hk, rfl, s1, r.mono x, q, (outS_toSG h1).imp ?_⟩
  rintro σ' _ ⟨c, S2, G2, rfl, y, s2, r2, _, h2⟩
  exact h2 c σ' (Ext.refl c) s2 r2
theorem qs_asg {tg : Expr} {g : DG} (he : QE X E e te) (hg : QG X E tg g) (hs : swapsWithSole [tg] e pos.line X.env = pure false := by rfl) (hw : swappedStores [tg] e X.env = pure none := by rfl)
    (h1 : (assignEach [tg] X.env).map (·.2) = [assign tg X.env] := by rfl) : QS X E (.Assign [tg] e pos) (sAs te g) := (ps_asg he hg hs hw h1).mono fun _ _ _ h => lS_as h
theorem qs_set (i : Nat) {x : Str} {pos' : Pos} (hN : X.N.Nodup) (he : QE X E e te) (hi : X.N[i]? = some x := by rfl) (hx : Loc X.env.scope x := by first | exact Or.inl rfl | exact Or.inr rfl) (hs : swapsWith e (some (.Name x pos')) pos.line X.env = pure false := by rfl)
    (hf : X.fn x = true ∨ X.env.scope.names.lookup x = some .local := by first | exact .inl rfl | exact .inr rfl | assumption) : QS X E (.Assign [.Name x pos'] e pos) (sAs te (gV i)) :=
  (ps_set hN hi hx he hs hf).mono fun W σ H h => by
    obtain ⟨a, S, G, hk, rfl, s, r, h⟩ := h
    refine ⟨a, S, G, hk, rfl, s, r, (outS_toS h).imp ?_⟩
    rintro v _ ⟨b, d, G1, rfl, x, s1, q, _, h1⟩
    exact h1 b _ (Ext.refl b) s1 ((r.mono x).set i q)
def ipAdd : D → D → DH → R D
  | .int i, .int j, G => .ok (.int (i + j)) G
  | .str i, .str j, G => if i.length + j.length ≤ 1000000 then .ok (.str (i ++ j)) G else .bad
  | _, _, _ => .bad
theorem ip_addD : OpR X (inplaceOp .Add) (lR2 X.K E ipAdd) := opII (OpR.or (r := ipI fun i j => i + j) ip_add iop_add_str) fun a G d e x y Q hk s rd re q => by
  cases d <;> cases e <;> first
    | exact q.elim
    | exact .inl ⟨_, _, rd, re, q a _ (Ext.refl a) s rfl⟩
    | (unfold ipAdd at q
       dsimp only at q
       split at q
       · rename_i hl
         exact .inr ⟨_, _, rd, re, Nat.le_trans hl size6, q a _ (Ext.refl a) s rfl⟩
       · exact q.elim)
theorem ip_subD : OpR X (inplaceOp .Sub) (lR2 X.K E opSub) := opII (r := ipI fun i j => i - j) ip_sub fun a G d e x y Q hk s rd re q => by
  cases d <;> cases e <;> first
    | exact q.elim
    | exact ⟨_, _, rd, re, q a _ (Ext.refl a) s rfl⟩
end
end DL
namespace DL
open PySem PySem.Spec L2
open PyProof.Rows hiding St
/-! ### loops -/
/-- behind a turn -/
def aft (r : SR) (k : DSt → DH → SR) : SR := match r with
  | .nx S G => k S G
  | .ct S G => k S G
  | .bk S G => .nx S G
  | r => r
/-- over things that stay -/
def forP (g : DG) (b : DS) : List D → DS
  | [], S, G => .nx S G
  | x :: xs, S, G => (g x S G).toS fun S1 G1 => aft (b S1 G1) (forP g b xs)
/-- over the list at i, item by item as it stands -/
def forM (i : Nat) (g : DG) (b : DS) : Nat → Nat → DS
  | 0, j, S, G => match G[i]? with
    | some (.lst xs) => if xs.length ≤ j then .nx S G else .bad
    | _ => .bad
  | k + 1, j, S, G => match G[i]? with
    | some (.lst xs) => match xs[j]? with
      | some x => (g x S G).toS fun S1 G1 => aft (b S1 G1) (forM i g b k (j + 1))
      | none => .nx S G
    | _ => .bad
/-- over what f tells, turn by turn: an item, the end, or what is not modelled -/
def forF (f : Nat → DH → Option (Option D)) (g : DG) (b : DS) : Nat → Nat → DS
  | 0, j, S, G => match f j G with
    | some none => .nx S G
    | _ => .bad
  | k + 1, j, S, G => match f j G with
    | some (some x) => (g x S G).toS fun S1 G1 => aft (b S1 G1) (forF f g b k (j + 1))
    | some none => .nx S G
    | none => .bad
inductive ItD where
  | pure (xs : List D)
  | mt (i : Nat)
  | fn (n : Nat) (f : Nat → DH → Option (Option D))
abbrev DI := DSt → DH → R ItD
def sFor (it : DI) (g : DG) (b : DS) : DS := fun S G => (it S G).toS fun J G1 => match J with
  | .pure xs => forP g b xs S G1
  | .mt i => match G1[i]? with
    | some (.lst xs) => forM i g b xs.length 0 S G1
    | _ => .bad
  | .fn n f => forF f g b n 0 S G1
/-- what an iterator stands for -/
def RepI (a : Wd) : ItD → It → Prop
  | .pure xs, J => ∃ vs : List V, Reps a xs vs ∧ ∀ b : Wd, Ext a b → ∀ i, (∀ v, vs[i]? = some v → J.go i b.H ∧ ∀ x H', J.yld i b.H x H' → x = v ∧ H' = b.H) ∧ (vs.length ≤ i → J.stop i b.H)
  | .mt k, J => k < a.n ∧ ∀ b : Wd, Ext a b → ∀ vs, b.H (b.m k) = some (.lst vs) → ∀ i, (∀ v, vs[i]? = some v → J.go i b.H ∧ ∀ x H', J.yld i b.H x H' → x = v ∧ H' = b.H) ∧ (vs.length ≤ i → J.stop i b.H)
  | .fn _ f, J => ∀ b : Wd, Ext a b → ∀ G, Sim b G → ∀ i, (∀ d, f i G = some (some d) → J.go i b.H ∧ ∀ x H', J.yld i b.H x H' → ∃ c : Wd, c.H = H' ∧ Ext b c ∧ Sim c G ∧ Rep c d x) ∧ (f i G = some none → J.stop i b.H)
def outI (E : XK) (a : Wd) (r : R ItD) (Q : It → Hp → Prop) : Prop := match r with
  | .ok J G => ∀ (b : Wd) (JJ : It), Ext a b → Sim b G → RepI b J JJ → Q JJ b.H
  | .err x G => XOk E a x G
  | .bad => False
def lI (K : PySem.W.Frag) (E : XK) (t : DI) : TI := fun σ H Q => ∃ (a : Wd) (S : DSt) (G : DH), a.K = K ∧ a.H = H ∧ Sim a G ∧ RepS a S σ ∧ outI E a (t S G) Q
def QI (X : Cx) (E : XK) (tg iter : Expr) (t : DI) : Prop := PI X tg iter (lI X.K E t)
theorem outI.imp {E : XK} {a : Wd} {r : R ItD} {Q Q' : It → Hp → Prop} (h : outI E a r Q) (w : ∀ v H, Q v H → Q' v H) : outI E a r Q' := by
  cases r with
  | ok d G => exact fun b v x s q => w _ _ (h b v x s q)
  | err e G => exact h
  | bad => exact h
theorem outS_toSI {E : XK} {a : Wd} {r : R ItD} {f : ItD → DH → SR} {W : Ends} (h : outS E a (r.toS f) W) :
    outI E a r (fun J H => ∃ (b : Wd) (d : ItD) (G : DH), b.H = H ∧ Ext a b ∧ Sim b G ∧ RepI b d J ∧ r = .ok d G ∧ outS E b (f d G) W) := by
  cases r with
  | ok d G => exact fun b v x s q => ⟨b, d, G, rfl, x, s, q, rfl, outS.mono x h⟩
  | err e G => exact h
  | bad => exact h
/-- a body within a loop -/
theorem outS_aft {E : XK} {a : Wd} {r : SR} {k : DSt → DH → SR} {W : Ends} (h : outS E a (aft r k) W) :
    outS E a r { W with nx := fun σ H => ∃ (b : Wd) (S : DSt) (G : DH), b.H = H ∧ Ext a b ∧ Sim b G ∧ RepS b S σ ∧ outS E b (k S G) W,
                        ct := fun σ H => ∃ (b : Wd) (S : DSt) (G : DH), b.H = H ∧ Ext a b ∧ Sim b G ∧ RepS b S σ ∧ outS E b (k S G) W, bk := W.nx } := by
  cases r with
  | nx S G => exact fun b σ x s q => ⟨b, S, G, rfl, x, s, q, outS.mono x h⟩
  | ct S G => exact fun b σ x s q => ⟨b, S, G, rfl, x, s, q, outS.mono x h⟩
  | bk S G => exact h
  | rt d G => exact h
  | err x G => exact h
  | bad => exact h
section
variable {X : Cx} {E : XK} {tg iter : Expr} {pos : Pos}
theorem lS_for {K : PySem.W.Frag} {it : DI} {g : DG} {b : DS} {W : Ends} {σ : St} {H : Hp} (h : lS K E (sFor it g b) W σ H) : tFor (lI K E it) (lG K E g) (lS K E b) W σ H := by
  obtain ⟨a, S, G, hk, rfl, s, r, h⟩ := h
  refine ⟨a, S, G, hk, rfl, s, r, (outS_toSI h).imp ?_⟩
  rintro J _ ⟨a1, d, G1, rfl, x1, s1, q1, _, h1⟩
  have k1 : a1.K = K := x1.k.trans hk
  cases d with
  | pure xs =>
    obtain ⟨vs, rv, walk⟩ := q1
    refine ⟨fun i m σ H => m = vs.length - i ∧ i ≤ vs.length ∧ ∃ (c : Wd) (S : DSt) (G : DH), c.H = H ∧ Ext a1 c ∧ Sim c G ∧ RepS c S σ ∧ outS E c (forP g b (xs.drop i) S G) W, ⟨_, rfl, Nat.zero_le _, a1, S, G1, rfl, Ext.refl _, s1, r.mono x1, h1⟩, ?_⟩
    rintro i m σ2 _ ⟨rfl, hi, c, S2, G2, rfl, x2, s2, r2, h2⟩
    by_cases hl : i < vs.length
    · have e1 : vs[i]? = some vs[i] := List.getElem?_eq_getElem hl
      obtain ⟨d, e2, rd⟩ := rv.get' e1
      have hd : xs.drop i = d :: xs.drop (i + 1) := by
        have hlx : i < xs.length := (List.getElem?_eq_some_iff.mp e2).1
        rw [List.drop_eq_getElem_cons hlx]
        congr 1
        exact (List.getElem?_eq_some_iff.mp e2).2
      rw [hd] at h2
      obtain ⟨go, yl⟩ := (walk c x2 i).1 _ e1
      refine .inr ⟨go, fun σ' H' => ∃ m', m' < vs.length - i ∧ (m' = vs.length - (i + 1) ∧ i + 1 ≤ vs.length ∧ ∃ (c : Wd) (S : DSt) (G : DH), c.H = H' ∧ Ext a1 c ∧ Sim c G ∧ RepS c S σ' ∧ outS E c (forP g b (xs.drop (i + 1)) S G) W), fun σ' H' z => z, fun v H' y => ?_⟩
      obtain ⟨rfl, rfl⟩ := yl v H' y
      refine ⟨c, S2, G2, d, x2.k.trans k1, rfl, s2, r2, rd.mono x2, (outS_toSG h2).imp ?_⟩
      rintro σ3 _ ⟨c3, S3, G3, rfl, x3, s3, r3, _, h3⟩
      have fin := outS_aft h3
      refine ⟨c3, S3, G3, x3.k.trans (x2.k.trans k1), rfl, s3, r3, ?_⟩
      revert fin
      cases b S3 G3 with
      | nx S4 G4 =>
          intro fin c4 σ4 x4 s4 q4
          obtain ⟨c5, S5, G5, hh, x5, s5, r5, h5⟩ := fin c4 σ4 x4 s4 q4
          exact ⟨vs.length - (i + 1), by omega, rfl, hl, c5, S5, G5, hh, x2.trans (x3.trans x5), s5, r5, h5⟩
      | ct S4 G4 =>
          intro fin c4 σ4 x4 s4 q4
          obtain ⟨c5, S5, G5, hh, x5, s5, r5, h5⟩ := fin c4 σ4 x4 s4 q4
          exact ⟨vs.length - (i + 1), by omega, rfl, hl, c5, S5, G5, hh, x2.trans (x3.trans x5), s5, r5, h5⟩
      | bk S4 G4 => exact fun fin => fin
      | rt S4 G4 => exact fun fin => fin
      | err S4 G4 => exact fun fin => fin
      | bad => exact fun fin => fin
    · have e : i = vs.length := by omega
      have hd : xs.drop i = [] := by rw [List.drop_eq_nil_iff, rv.length]; omega
      rw [hd] at h2
      exact .inl ⟨(walk c x2 i).2 (by omega), h2 c σ2 (Ext.refl c) s2 r2⟩
  | mt k =>
    obtain ⟨hkn, walk⟩ := q1
    dsimp only at h1
    split at h1
    · rename_i xs0 hx0
      refine ⟨fun i m σ H => ∃ (c : Wd) (S : DSt) (G : DH), c.H = H ∧ Ext a1 c ∧ Sim c G ∧ RepS c S σ ∧ outS E c (forM k g b m i S G) W, ⟨_, a1, S, G1, rfl, Ext.refl _, s1, r.mono x1, h1⟩, ?_⟩
      rintro i m σ2 _ ⟨c, S2, G2, rfl, x2, s2, r2, h2⟩
      cases m with
      | zero =>
        unfold forM at h2
        split at h2
        · rename_i xs hx
          obtain ⟨vs, e1, rv⟩ := s2.lst hx
          split at h2
          · rename_i hl
            refine .inl ⟨((walk c x2 vs e1 i).2 (by rw [← rv.length]; exact hl)), h2 c σ2 (Ext.refl c) s2 r2⟩
          · exact h2.elim
        · exact h2.elim
      | succ m =>
        unfold forM at h2
        split at h2
        · rename_i xs hx
          obtain ⟨vs, e1, rv⟩ := s2.lst hx
          split at h2
          · rename_i d hd
            obtain ⟨v, ev, rd⟩ := rv.get hd
            obtain ⟨go, yl⟩ := (walk c x2 vs e1 i).1 v ev
            refine .inr ⟨go, fun σ' H' => ∃ (c : Wd) (S : DSt) (G : DH), c.H = H' ∧ Ext a1 c ∧ Sim c G ∧ RepS c S σ' ∧ outS E c (forM k g b m (i + 1) S G) W, fun σ' H' z => ⟨m, Nat.lt_succ_self _, z⟩, fun w H' y => ?_⟩
            obtain ⟨rfl, rfl⟩ := yl w H' y
            refine ⟨c, S2, G2, d, x2.k.trans k1, rfl, s2, r2, rd, (outS_toSG h2).imp ?_⟩
            rintro σ3 _ ⟨c3, S3, G3, rfl, x3, s3, r3, _, h3⟩
            have fin := outS_aft h3
            refine ⟨c3, S3, G3, x3.k.trans (x2.k.trans k1), rfl, s3, r3, ?_⟩
            revert fin
            cases b S3 G3 with
            | nx S4 G4 =>
                intro fin c4 σ4 x4 s4 q4
                obtain ⟨c5, S5, G5, hh, x5, s5, r5, h5⟩ := fin c4 σ4 x4 s4 q4
                exact ⟨c5, S5, G5, hh, x2.trans (x3.trans x5), s5, r5, h5⟩
            | ct S4 G4 =>
                intro fin c4 σ4 x4 s4 q4
                obtain ⟨c5, S5, G5, hh, x5, s5, r5, h5⟩ := fin c4 σ4 x4 s4 q4
                exact ⟨c5, S5, G5, hh, x2.trans (x3.trans x5), s5, r5, h5⟩
            | bk S4 G4 => exact fun fin => fin
            | rt S4 G4 => exact fun fin => fin
            | err S4 G4 => exact fun fin => fin
            | bad => exact fun fin => fin
          · rename_i hd
            have hl : xs.length ≤ i := List.getElem?_eq_none_iff.mp hd
            exact .inl ⟨((walk c x2 vs e1 i).2 (by rw [← rv.length]; exact hl)), h2 c σ2 (Ext.refl c) s2 r2⟩
        · exact h2.elim
    · exact h1.elim
  | fn n f =>
    have walk : ∀ b : Wd, Ext a1 b → ∀ G, Sim b G → ∀ i, (∀ d, f i G = some (some d) → J.go i b.H ∧ ∀ x H', J.yld i b.H x H' → ∃ c : Wd, c.H = H' ∧ Ext b c ∧ Sim c G ∧ Rep c d x) ∧ (f i G = some none → J.stop i b.H) := q1
    refine ⟨fun i m σ H => ∃ (c : Wd) (S : DSt) (G : DH), c.H = H ∧ Ext a1 c ∧ Sim c G ∧ RepS c S σ ∧ outS E c (forF f g b m i S G) W, ⟨_, a1, S, G1, rfl, Ext.refl _, s1, r.mono x1, h1⟩, ?_⟩
    rintro i m σ2 _ ⟨c, S2, G2, rfl, x2, s2, r2, h2⟩
    cases m with
    | zero =>
      unfold forF at h2
      split at h2
      · rename_i hf
        exact .inl ⟨(walk c x2 G2 s2 i).2 hf, h2 c σ2 (Ext.refl c) s2 r2⟩
      · exact h2.elim
    | succ m =>
      unfold forF at h2
      split at h2
      · rename_i d hf
        obtain ⟨go, yl⟩ := (walk c x2 G2 s2 i).1 d hf
        refine .inr ⟨go, fun σ' H' => ∃ (c : Wd) (S : DSt) (G : DH), c.H = H' ∧ Ext a1 c ∧ Sim c G ∧ RepS c S σ' ∧ outS E c (forF f g b m (i + 1) S G) W, fun σ' H' z => ⟨m, Nat.lt_succ_self _, z⟩, fun w H' y => ?_⟩
        obtain ⟨cc, rfl, xx, ss, rd⟩ := yl w H' y
        refine ⟨cc, S2, G2, d, xx.k.trans (x2.k.trans k1), rfl, ss, r2.mono xx, rd, (outS_toSG (outS.mono xx h2)).imp ?_⟩
        rintro σ3 _ ⟨c3, S3, G3, rfl, x3, s3, r3, _, h3⟩
        have fin := outS_aft h3
        refine ⟨c3, S3, G3, x3.k.trans (xx.k.trans (x2.k.trans k1)), rfl, s3, r3, ?_⟩
        revert fin
        cases b S3 G3 with
        | nx S4 G4 =>
            intro fin c4 σ4 x4 s4 q4
            obtain ⟨c5, S5, G5, hh, x5, s5, r5, h5⟩ := fin c4 σ4 x4 s4 q4
            exact ⟨c5, S5, G5, hh, x2.trans (xx.trans (x3.trans x5)), s5, r5, h5⟩
        | ct S4 G4 =>
            intro fin c4 σ4 x4 s4 q4
            obtain ⟨c5, S5, G5, hh, x5, s5, r5, h5⟩ := fin c4 σ4 x4 s4 q4
            exact ⟨c5, S5, G5, hh, x2.trans (xx.trans (x3.trans x5)), s5, r5, h5⟩
        | bk S4 G4 => exact fun fin => fin
        | rt S4 G4 => exact fun fin => fin
        | err S4 G4 => exact fun fin => fin
        | bad => exact fun fin => fin
      · rename_i hf
        exact .inl ⟨(walk c x2 G2 s2 i).2 hf, h2 c σ2 (Ext.refl c) s2 r2⟩
      · exact h2.elim
theorem qs_for {body : List Stmt} {it : DI} {g : DG} {b : DS} (hp : PassesOwn (model X.prog X.w) X.A X.env X.xe) (hc : X.calm = true) (hi : QI X E tg iter it) (hg : QG X E tg g) (hb : QSs X E body b)
    (hs : ∀ x, foldedSetIterable iter X.env x = pure x := by intro _; rfl) : QS X E (.For tg iter body [] pos) (sFor it g b) := (ps_for hp hc hi hg hb hs).mono fun _ _ _ h => lS_for h
/-! iterables -/
theorem _root_.L2.PI.mono {t t' : TI} (h : PI X tg iter t) (w : ∀ σ H Q, t' σ H Q → t σ H Q) : PI X tg iter t' := fun pins s σ H Q I q => h pins s σ H Q I (w σ H Q q)
/-- the signs of a text -/
def sgn (c : Nat) : D := .str ⟨#[c]⟩
def signs (x : Str) : List D := x.cps.toList.map sgn
def Its (x : Str) : It := ⟨fun i _ => i < x.cps.size, fun i H v H' => H' = H ∧ ∃ c, x.cps[i]? = some c ∧ v = .str ⟨#[c]⟩, fun i _ => x.cps.size ≤ i⟩
theorem turn_ascii {P : Program} {w : World} {K : PySem.W.Frag} {tg : Expr} (it : Addr) (x : Str) (t : Tok) : Turn P w K tg (Its x) [it] it (fun i h => h.IsStrIter it "str_ascii_iterator" x t i) where
  mem := by simp
  obj := fun i h st b hb => by
    have e : b = it := by simpa using hb
    subst e
    obtain ⟨o, e, c, d⟩ := st
    exact ⟨o, e, fun v z => by rw [d] at z; cases z⟩
  keep := fun i h h' st k => let ⟨o, ho, r⟩ := st; ⟨o, k it (by simp) o ho, r⟩
  item := by
    intro X hP hw hK hc i pins s σ H E I hf st hg
    subst hP hw hK
    obtain ⟨f0, f1, f2, f3, f4, f5⟩ := hf it (by simp)
    have hi : i < x.cps.size := hg
    refine wpAny_pyNext_ascii_item st (c := x.cps[i]) (by simp [hi]) fun h' st' sb => ?_
    have I1 : Inv X pins σ H { s with heap := h', toks := s.toks + 1 } := I.turned (fun b o hb e => (sb.2 b hb).trans e) f0 f1 f3 f4 f5
    obtain ⟨o, e, c, d⟩ := id st'
    exact ⟨_, rfl, go_of (s := { s with heap := h', toks := s.toks + 1 }) e c d (by decide) ⟨.str ⟨#[x.cps[i]]⟩, H, I1, ⟨_, rfl⟩, ⟨rfl, _, by simp [hi], rfl⟩, st', fun b hb => (hf b hb).1⟩⟩
  done := by
    intro X hP hw hK hc i pins s σ H E I hf st hg
    subst hP hw hK
    obtain ⟨f0, f1, f2, f3, f4, f5⟩ := hf it (by simp)
    have hi : x.cps.size ≤ i := hg
    exact wpAny_pyNext_ascii_end (I.ok.hd hc) st (by simp [hi]) fun h' eb => ⟨rfl, I.turned (t' := s.toks) (fun b o hb e => eb b o hb e) f0 f1 f3 f4 f5⟩
  self := fun _ _ _ _ _ st h => wpAny_pyIter_striter_ascii st h
theorem turn_wide {P : Program} {w : World} {K : PySem.W.Frag} {tg : Expr} (it : Addr) (x : Str) (t : Tok) : Turn P w K tg (Its x) [it] it (fun i h => h.IsStrIter it "str_iterator" x t i) where
  mem := by simp
  obj := fun i h st b hb => by
    have e : b = it := by simpa using hb
    subst e
    obtain ⟨o, e, c, d⟩ := st
    exact ⟨o, e, fun v z => by rw [d] at z; cases z⟩
  keep := fun i h h' st k => let ⟨o, ho, r⟩ := st; ⟨o, k it (by simp) o ho, r⟩
  item := by
    intro X hP hw hK hc i pins s σ H E I hf st hg
    subst hP hw hK
    obtain ⟨f0, f1, f2, f3, f4, f5⟩ := hf it (by simp)
    have hi : i < x.cps.size := hg
    refine wpAny_pyNext_wide_item st (c := x.cps[i]) (by simp [hi]) fun h' st' sb => ?_
    have I1 : Inv X pins σ H { s with heap := h', toks := s.toks + 1 } := I.turned (fun b o hb e => (sb.2 b hb).trans e) f0 f1 f3 f4 f5
    obtain ⟨o, e, c, d⟩ := id st'
    exact ⟨_, rfl, go_of (s := { s with heap := h', toks := s.toks + 1 }) e c d (by decide) ⟨.str ⟨#[x.cps[i]]⟩, H, I1, ⟨_, rfl⟩, ⟨rfl, _, by simp [hi], rfl⟩, st', fun b hb => (hf b hb).1⟩⟩
  done := by
    intro X hP hw hK hc i pins s σ H E I hf st hg
    subst hP hw hK
    obtain ⟨f0, f1, f2, f3, f4, f5⟩ := hf it (by simp)
    have hi : x.cps.size ≤ i := hg
    exact wpAny_pyNext_wide_end (I.ok.hd hc) st (by simp [hi]) fun h' eb => ⟨rfl, I.turned (t' := s.toks) (fun b o hb e => eb b o hb e) f0 f1 f3 f4 f5⟩
  self := fun _ _ _ _ _ st h => wpAny_pyIter_striter_wide st h
def iStr (tl : TE) : TI := fun σ H R => tl σ H fun x H1 => ∃ z, x = .str z ∧ R (Its z) H1
theorem pi_str {l : Expr} {tl : TE} (hl : PE X l tl) : PI X tg l (iStr tl) := by
  intro pins s σ H R I h
  refine thn (hl pins s σ H _ I h) fun v s1 ⟨x, H1, I1, r1, q1⟩ => ?_
  obtain ⟨z, e, q⟩ := q1
  subst e
  obtain ⟨t, rfl⟩ := r1
  have fp : ∀ b ∈ [s1.heap.objs.size], FpOk X pins H1 b := fun b hb => by
    have e : b = s1.heap.objs.size := by simpa using hb
    subst e
    exact I1.fpOk (Nat.le_refl _) (I1.hok.fresh (Nat.le_refl _))
  cases ha : z.cps.all (· < 128)
  · refine wpAny_pyIter_wide ha ?_
    exact ⟨s1.heap.objs.size, [s1.heap.objs.size], _, _, H1, rfl, I1.kept (t' := s1.toks) fun b o e => Heap.get?_push_of_some _ e, turn_wide _ z t, ⟨_, Heap.get?_push_size _ rfl, rfl, rfl⟩, fp, q⟩
  · refine wpAny_pyIter_ascii ha ?_
    exact ⟨s1.heap.objs.size, [s1.heap.objs.size], _, _, H1, rfl, I1.kept (t' := s1.toks) fun b o e => Heap.get?_push_of_some _ e, turn_ascii _ z t, ⟨_, Heap.get?_push_size _ rfl, rfl, rfl⟩, fp, q⟩
theorem Reps.signs {a : Wd} (x : Str) : Reps a (signs x) (x.cps.toList.map fun c => V.str ⟨#[c]⟩) := by
  unfold DL.signs
  induction x.cps.toList with
  | nil => exact rfl
  | cons c r ih => exact ⟨_, _, rfl, rfl, ih⟩
def itSeq : D → DH → R ItD
  | .tup xs, G => .ok (.pure xs) G
  | .str x, G => .ok (.pure (signs x)) G
  | .fl xs, G => .ok (.pure xs) G
  | .ref i, G => match G[i]? with
    | some (.lst _) => .ok (.mt i) G
    | _ => .bad
  | _, _ => .bad
def iSeq (te : DE) : DI := fun S G => (te S G).bind itSeq
/-- the sort of a sequence, ahead of the walk -/
theorem qi_seq {te : DE} (he : QE X E iter te) : QI X E tg iter (iSeq te) := by
  intro pins s σ H R I h
  obtain ⟨a, S, G, hk, rfl, sm, r, h⟩ := h
  cases ht : te S G with
  | bad =>
    have h' : outI E a ((te S G).bind itSeq) R := h
    rw [ht] at h'
    exact h'.elim
  | err e G1 =>
    have h' : outI E a ((te S G).bind itSeq) R := h
    rw [ht] at h'
    refine pi_list (tg := tg) he pins s σ a.H R I ⟨a, S, G, hk, rfl, sm, r, ?_⟩
    rw [ht]
    exact h'
  | ok d G1 =>
    have h' : outI E a ((te S G).bind itSeq) R := h
    rw [ht] at h'
    cases d with
    | tup xs =>
      refine pi_tup (tg := tg) he pins s σ a.H R I ⟨a, S, G, hk, rfl, sm, r, ?_⟩
      rw [ht]
      rintro b v x sb ⟨p, vs, rfl, hq, rv⟩
      have hq' : SqT X.K b.H p vs := by rw [← hk, ← x.k]; exact hq
      refine ⟨p, rfl, ⟨vs, hq'⟩, h' b _ x sb ⟨vs, rv, fun c y i => ⟨fun v hv => ⟨⟨vs, v, ?_, hv⟩, fun w H' z => ?_⟩, fun hl => ⟨vs, ?_, hl⟩⟩⟩⟩
      · have := y.sqT hq; rw [y.k, x.k, hk] at this; exact this
      · have := y.sqT hq; rw [y.k, x.k, hk] at this
        exact ⟨Option.some.inj ((z.2 vs this).symm.trans hv), z.1⟩
      · have := y.sqT hq; rw [y.k, x.k, hk] at this; exact this
    | fl xs =>
      refine pi_list (tg := tg) he pins s σ a.H R I ⟨a, S, G, hk, rfl, sm, r, ?_⟩
      rw [ht]
      rintro b v x sb ⟨p, vs, rfl, hq, rv⟩
      have hq' : SqL X.K b.H p vs := by rw [← hk, ← x.k]; exact hq.sq
      refine ⟨p, rfl, ⟨vs, hq'⟩, h' b _ x sb ⟨vs, rv, fun c y i => ⟨fun v hv => ⟨⟨vs, v, ?_, hv⟩, fun w H' z => ?_⟩, fun hl => ⟨vs, ?_, hl⟩⟩⟩⟩
      · have := (y.fzL hq).sq; rw [y.k, x.k, hk] at this; exact this
      · have := (y.fzL hq).sq; rw [y.k, x.k, hk] at this
        exact ⟨Option.some.inj ((z.2 vs this).symm.trans hv), z.1⟩
      · have := (y.fzL hq).sq; rw [y.k, x.k, hk] at this; exact this
    | ref k =>
      have h2 : outI E a (itSeq (.ref k) G1) R := h'
      unfold itSeq at h2
      dsimp only at h2
      split at h2
      · rename_i xs hx
        refine pi_list (tg := tg) he pins s σ a.H R I ⟨a, S, G, hk, rfl, sm, r, ?_⟩
        rw [ht]
        rintro b v x sb ⟨hkn, rfl⟩
        obtain ⟨vs, hx, _⟩ := sb.lst hx
        refine ⟨b.m k, rfl, ⟨vs, .of hx⟩, h2 b _ x sb ⟨hkn, fun c y us hu i => ?_⟩⟩
        rw [y.m k hkn] at hu
        exact ⟨fun v hv => ⟨⟨us, v, .of hu, hv⟩, fun w H' z => ⟨Option.some.inj ((z.2 us (.of hu)).symm.trans hv), z.1⟩⟩, fun hl => ⟨us, .of hu, hl⟩⟩
      · exact h2.elim
    | str z =>
      refine pi_str (tg := tg) he pins s σ a.H R I ⟨a, S, G, hk, rfl, sm, r, ?_⟩
      rw [ht]
      intro b v x sb rv
      cases (show v = V.str z from rv)
      refine ⟨z, rfl, h' b _ x sb ⟨_, Reps.signs z, fun c y i => ⟨fun v hv => ?_, fun hl => ?_⟩⟩⟩
      · rw [List.getElem?_map, Option.map_eq_some_iff] at hv
        obtain ⟨k, hk1, rfl⟩ := hv
        have hk2 : z.cps[i]? = some k := by rw [← Array.getElem?_toList]; exact hk1
        refine ⟨(Array.getElem?_eq_some_iff.mp hk2).1, fun w H' q => ?_⟩
        obtain ⟨e1, k', e2, e3⟩ := q
        rw [hk2] at e2
        cases e2
        exact ⟨e3, e1⟩
      · rw [List.length_map, Array.length_toList] at hl
        exact hl
    | _ => exact h'.elim
end
end DL
namespace DL
open PySem PySem.Spec L2
open PyProof.Rows hiding St
def rngD (lo : Int) (n : Nat) : List D := (List.range n).map fun (k : Nat) => D.int (lo + (k : Int))
def inR (j : Int) : Prop := -(2 ^ 62) ≤ j ∧ j < 2 ^ 62
instance (j : Int) : Decidable (inR j) := by unfold inR; infer_instance
def rng1 (ds : List D) (G : DH) : R ItD := match ds with
  | [.int j] => if inR j then .ok (.pure (rngD 0 j.toNat)) G else .bad
  | _ => .bad
def iRng (f : List D → DH → R ItD) (ta : DA) : DI := fun S G => (ta S G).bind f
def sWh (c : DB) (b : DS) : Nat → DS
  | 0, _, _ => .bad
  | n + 1, S, G => (c S G).toS fun k G1 => if k = true then aft (b S G1) (sWh c b n) else .nx S G1
/-- a def's run -/
noncomputable def runF (np nl : Nat) (b : DS) : List D → DH → R D := fun ds G => if ds.length = np then tidy G (match b (ds.map some ++ List.replicate nl none) G with
  | .nx _ G' => .ok .non G'
  | .rt d G' => .ok d G'
  | .err x G' => .err x G'
  | _ => .bad) else .bad
theorem outI.mono {E : XK} {a b : Wd} (x : Ext a b) {r : R ItD} {Q : It → Hp → Prop} (h : outI E a r Q) : outI E b r Q := by
  cases r with
  | ok d G => exact fun c v y s q => h c v (x.trans y) s q
  | err e G => exact XOk.mono (E := E) (e := e) (G := G) x h
  | bad => exact h
theorem outI_bindA {E : XK} {a : Wd} {r : R (List D)} {f : List D → DH → R ItD} {Q : It → Hp → Prop} (h : outI E a (r.bind f) Q) :
    outA E a r (fun vs H => ∃ (b : Wd) (ds : List D) (G : DH), b.H = H ∧ Ext a b ∧ Sim b G ∧ Reps b ds vs ∧ r = .ok ds G ∧ outI E b (f ds G) Q) := by
  cases r with
  | ok d G => exact fun b v x s q => ⟨b, d, G, rfl, x, s, q, rfl, outI.mono x h⟩
  | err e G => exact h
  | bad => exact h
section
variable {X : Cx} {E : XK} {tg iter : Expr} {pos : Pos}
theorem repI_rng {a : Wd} (lo : Int) (n : Nat) : RepI a (.pure (rngD lo n)) (Itr lo n) := by
  refine ⟨(List.range n).map fun (k : Nat) => V.int (lo + (k : Int)), ?_, fun b x i => ⟨fun v hv => ?_, fun hl => ?_⟩⟩
  · unfold rngD
    generalize List.range n = l
    induction l with
    | nil => exact rfl
    | cons k l ih => exact ⟨_, _, rfl, rfl, ih⟩
  · rw [List.getElem?_map] at hv
    by_cases hi : i < n
    · rw [List.getElem?_range hi] at hv
      have hv' : V.int (lo + (i : Int)) = v := by simpa using hv
      exact ⟨hi, fun w H' y => ⟨y.2.trans hv', y.1⟩⟩
    · rw [List.getElem?_eq_none (by simpa using hi)] at hv
      cases hv
  · show n ≤ i
    simpa using hl
theorem qi_range1 {e : Expr} {ta : DA} {p pos : Pos} (hg : Gl X "range") (hm : X.mg "range" = none) (ha : QA X E [e] ta) (hs : starEach [e] X.env = [(false, eval e X.env)] := by rfl) : QI X E tg (.Call (.Name "range" p) [e] [] pos) (iRng rng1 ta) :=
  (pi_range1 hg hm ha hs).mono fun σ H Q h => by
    obtain ⟨a, S, G, hk, rfl, s, r, h⟩ := h
    refine ⟨a, S, G, hk, rfl, s, r, (outI_bindA h).imp ?_⟩
    rintro vs _ ⟨b, ds, G1, rfl, x, s1, q, -, h1⟩
    unfold rng1 at h1
    split at h1
    · rename_i j
      split at h1
      · rename_i hj
        obtain ⟨v, r, e1, q1, q2⟩ := q
        cases (show v = V.int j from q1)
        cases (show r = [] from q2)
        exact ⟨j, e1, hj.1, hj.2, h1 b _ (Ext.refl b) s1 (repI_rng 0 j.toNat)⟩
      · exact h1.elim
    · exact h1.elim
theorem qs_while (n : Nat) {c : Expr} {body : List Stmt} {tc : DB} {tb : DS} (hp : PassesOwn (model X.prog X.w) X.A X.env X.xe) (hc : QT X E c tc) (hb : QSs X E body tb) : QS X E (.While c body [] pos) (sWh tc tb n) := (ps_while hp hc hb).mono fun W σ H h => by
  obtain ⟨a, S, G, hk, rfl, s, r, h⟩ := h
  refine ⟨fun m σ H => ∃ (b : Wd) (S : DSt) (G : DH), b.H = H ∧ Ext a b ∧ Sim b G ∧ RepS b S σ ∧ outS E b (sWh tc tb m S G) W, ⟨n, a, S, G, rfl, Ext.refl a, s, r, h⟩, ?_⟩
  rintro m σ2 _ ⟨b, S2, G2, rfl, x2, s2, r2, h2⟩
  cases m with
  | zero => exact h2.elim
  | succ m =>
    refine ⟨b, S2, G2, x2.k.trans hk, rfl, s2, r2, (outS_toSB h2).imp ?_⟩
    rintro k _ ⟨c3, G3, rfl, x3, s3, _, h3⟩
    cases k with
    | false => exact h3 c3 σ2 (Ext.refl c3) s3 (r2.mono x3)
    | true =>
      refine ⟨fun σ' H' => ∃ (b : Wd) (S : DSt) (G : DH), b.H = H' ∧ Ext a b ∧ Sim b G ∧ RepS b S σ' ∧ outS E b (sWh tc tb m S G) W, fun σ' H' z => ⟨m, Nat.lt_succ_self _, z⟩, c3, S2, G3, x3.k.trans (x2.k.trans hk), rfl, s3, r2.mono x3, ?_⟩
      have fin := outS_aft h3
      revert fin
      cases tb S2 G3 with
      | nx S4 G4 =>
        intro fin c4 σ4 x4 s4 q4
        obtain ⟨c5, S5, G5, hh, x5, s5, r5, h5⟩ := fin c4 σ4 x4 s4 q4
        exact ⟨c5, S5, G5, hh, x2.trans (x3.trans x5), s5, r5, h5⟩
      | ct S4 G4 =>
        intro fin c4 σ4 x4 s4 q4
        obtain ⟨c5, S5, G5, hh, x5, s5, r5, h5⟩ := fin c4 σ4 x4 s4 q4
        exact ⟨c5, S5, G5, hh, x2.trans (x3.trans x5), s5, r5, h5⟩
      | bk S4 G4 => exact fun fin => fin
      | rt S4 G4 => exact fun fin => fin
      | err S4 G4 => exact fun fin => fin
      | bad => exact fun fin => fin
end
/-! ### defs -/
theorem repS_start {a : Wd} {ds : List D} {vs : List V} (r : Reps a ds vs) (n m : Nat) (h : n = m) : RepS a (ds.map some ++ List.replicate n none) (vs.map some ++ List.replicate m none) := by
  subst h
  refine ⟨by simp [r.length], fun i d hd => ?_⟩
  by_cases hi : i < ds.length
  · rw [List.getElem?_append_left (by simpa using hi), List.getElem?_map] at hd
    cases e : ds[i]? with
    | none => rw [e] at hd; cases hd
    | some d' =>
      rw [e] at hd
      have hd' : d' = d := by simpa using hd
      subst hd'
      obtain ⟨v, ev, q⟩ := r.get e
      exact ⟨v, by rw [List.getElem?_append_left (by rw [List.length_map, ← r.length]; exact hi), List.getElem?_map, ev]; rfl, q⟩
  · rw [List.getElem?_append_right (by simpa using hi), List.getElem?_replicate] at hd
    split at hd <;> cases hd
theorem fn_ok {P : Program} {w : World} {K : PySem.W.Frag} {mg : Str → Option Value} {base : Heap} {x qual : Str} {st : Stmt} {f : Addr} {fd : FuncData} {N ps : List Str} {k : Nat} {b : DS} (F : Fun K x qual st f fd) (S : FnScope N ps (defScope st))
    (hbody : ∀ (cdv : Value) (A : Around) (outer : List Env) (s : Shared) (H : Hp) (E : XK), Room k (A.deeper (envOfC qual (defScope st) s.heap.objs.size f cdv)) → QSs (cxOf CX0 P w K mg base N qual (defScope st) f cdv A outer s H E).nox E0 (defBody st) b) :
    FnOk P w K mg base CX0 (k + 1) f fd ps (lF K (runF ps.length (N.length - ps.length) b)) := by
  have hlen : ∀ vs H Q E, lF K (runF ps.length (N.length - ps.length) b) vs H Q E → vs.length = ps.length := fun vs H Q E h => by
    obtain ⟨a, G, ds, hk, rfl, sm, r, h⟩ := h
    unfold runF at h
    split at h
    · rename_i hl; rw [← r.length]; exact hl
    · exact h.elim
  refine F.ok S hlen (fun cdv A outer s H vs Q E hr h => ?_)
  refine ⟨lS K E0 b, hbody cdv A outer s H E hr, ?_⟩
  have hl := hlen vs H Q E h
  obtain ⟨a, G, ds, hk, rfl, sm, r, h⟩ := h
  unfold runF at h
  split at h
  · have h2 := tidy_ok sm h
    refine ⟨a, ds.map some ++ List.replicate (N.length - ps.length) none, G, hk, rfl, sm, repS_start r _ _ (by rw [hl]), ?_⟩
    revert h2
    cases b (ds.map some ++ List.replicate (N.length - ps.length) none) G with
    | nx S1 G1 => exact fun h2 c σ x s1 _ => h2 c .non x s1 rfl
    | rt d G1 => exact fun h2 => h2
    | err e G1 => exact fun h2 => h2
    | bk S1 G1 => exact fun h2 => h2.elim
    | ct S1 G1 => exact fun h2 => h2.elim
    | bad => exact fun h2 => h2
  · exact h.elim
end DL
namespace DL
open PySem PySem.Spec L2
open PyProof.Rows hiding St
/-! ### sequences -/
theorem seq_rep {a : Wd} {G : DH} {d : D} {x : V} {xs : List D} (s : Sim a G) (r : Rep a d x) (h : seqOf d G = some xs) : ∃ p vs, x = .ref p ∧ (SqL a.K a.H p vs ∨ SqT a.K a.H p vs) ∧ Reps a xs vs := by
  cases d with
  | tup ys =>
    have e : ys = xs := Option.some.inj h
    subst e
    obtain ⟨p, vs, e, q, rr⟩ := r
    exact ⟨p, vs, e, .inr q, rr⟩
  | fl ys =>
    have e : ys = xs := Option.some.inj h
    subst e
    obtain ⟨p, vs, e, q, rr⟩ := r
    exact ⟨p, vs, e, .inl q.sq, rr⟩
  | ref i =>
    unfold seqOf at h
    dsimp only at h
    split at h
    · rename_i ys hi
      have e : ys = xs := Option.some.inj h
      subst e
      obtain ⟨vs, e1, r1⟩ := s.lst hi
      exact ⟨a.m i, vs, r.2, .inl (.of e1), r1⟩
    · cases h
  | _ => cases h
def opIx (d e : D) (G : DH) : R D := match e with
  | .int i => match d with
    | .str z => if z.length ≤ 1000000 then (match atI z.cps.toList i with
        | some c => .ok (.str ⟨#[c]⟩) G
        | none => .bad) else .bad
    | d => match seqOf d G with
      | some xs => match atI xs i with
        | some v => .ok v G
        | none => .bad
      | none => .bad
  | _ => .bad
theorem atI_rep {a : Wd} {xs : List D} {vs : List V} {i : Int} {d : D} (r : Reps a xs vs) (h : atI xs i = some d) : ∃ v, atI vs i = some v ∧ Rep a d v := by
  unfold atI at h ⊢
  rw [← r.length]
  cases e : ixN xs.length i with
  | none => rw [e] at h; cases h
  | some j =>
    rw [e] at h
    obtain ⟨v, ev, q⟩ := r.get (show xs[j]? = some d from h)
    exact ⟨v, ev, q⟩
section
variable {X : Cx} {E : XK}
theorem _root_.L2.IxR.mono {r r' : R2} (h : IxR X r) (w : ∀ x y H Q, r' x y H Q → r x y H Q) : IxR X r' := fun value slice pins s σ H x y v u Q I rx ry q hs => h value slice pins s σ H x y v u Q I rx ry (w _ _ _ _ q) hs
theorem _root_.L2.CallR.mono {f : Value} {r r' : List V → Hp → VK → Prop} (h : CallR X f r) (w : ∀ xs H Q, r' xs H Q → r xs H Q) : CallR X f r' := fun pins s σ H xs us Q I rs q => h pins s σ H xs us Q I rs (w _ _ _ q)
theorem _root_.L2.MtM.mono {id : String} {r r' : V → List V → Hp → VK → Prop} (h : MtM X id r) (w : ∀ x xs H Q, r' x xs H Q → r x xs H Q) : MtM X id r' := fun pins s σ H x xs v us Q I rx rs q => h pins s σ H x xs v us Q I rx rs (w _ _ _ _ q)
theorem i_ix : IxR X (lR2 X.K E opIx) := ix_seq.mono fun x y H Q h => by
  obtain ⟨a, G, d, e, hk, rfl, s, rd, re, q⟩ := h
  cases e with
  | int i =>
    have fin : ∀ {xs : List D}, seqOf d G = some xs → out E a (match atI xs i with | some v => .ok v G | none => .bad) Q → rIx X.K x y a.H Q := fun {xs} hs q => by
      obtain ⟨p, vs, e1, h1, r1⟩ := seq_rep s rd hs
      rw [hk] at h1
      split at q
      · rename_i v hv
        obtain ⟨u, hu, ru⟩ := atI_rep r1 hv
        have z := q a u (Ext.refl a) s ru
        rcases h1 with h1 | h1
        · exact .inl ⟨p, vs, i, u, e1, re, h1, hu, z⟩
        · exact .inr (.inl ⟨p, vs, i, u, e1, re, h1, hu, z⟩)
      · exact q.elim
    have fin' : out E a (match seqOf d G with | some xs => (match atI xs i with | some v => .ok v G | none => .bad) | none => .bad) Q → rIx X.K x y a.H Q := fun q => by
      cases hs : seqOf d G with
      | none => rw [hs] at q; exact q.elim
      | some xs => rw [hs] at q; exact fin hs q
    cases d with
    | str z =>
      unfold opIx at q
      dsimp only at q
      split at q
      · rename_i hl
        split at q
        · rename_i c hc
          exact .inr (.inr ⟨z, i, c, rd, re, Nat.le_trans hl size6, hc, q a _ (Ext.refl a) s rfl⟩)
        · exact q.elim
      · exact q.elim
    | tup ys => exact fin' q
    | fl ys => exact fin' q
    | ref j => exact fin' q
    | _ => exact fin' q
  | _ => exact q.elim
def fLen (ds : List D) (G : DH) : R D := match ds with
  | [.str z] => if z.length ≤ 1000000 then .ok (.int z.length) G else .bad
  | [d] => match seqOf d G with
    | some xs => .ok (.int xs.length) G
    | none => .bad
  | _ => .bad
theorem reps1 {a : Wd} {d : D} {vs : List V} (r : Reps a [d] vs) : ∃ v, vs = [v] ∧ Rep a d v := by
  obtain ⟨v, r', e, q, z⟩ := r
  cases (show r' = [] from z)
  exact ⟨v, e, q⟩
theorem reps2 {a : Wd} {d d' : D} {vs : List V} (r : Reps a [d, d'] vs) : ∃ v v', vs = [v, v'] ∧ Rep a d v ∧ Rep a d' v' := by
  obtain ⟨v, r', e, q, z⟩ := r
  obtain ⟨v', e', q'⟩ := reps1 z
  subst e'
  exact ⟨v, v', e, q, q'⟩
theorem c_len : CallR X (.builtin "len") (lRn X.K E fLen) := (call_len_seq.or call_len_str).mono fun vs H Q h => by
  obtain ⟨a, G, ds, hk, rfl, s, r, q⟩ := h
  unfold fLen at q
  split at q
  · rename_i z
    split at q
    · rename_i hl
      obtain ⟨v, rfl, rv⟩ := reps1 r
      cases (show v = V.str z from rv)
      exact .inr ⟨z, rfl, Nat.le_trans hl size6, q a _ (Ext.refl a) s rfl⟩
    · exact q.elim
  · rename_i d _
    split at q
    · rename_i xs hs
      obtain ⟨v, rfl, rv⟩ := reps1 r
      obtain ⟨p, us, rfl, h1, r1⟩ := seq_rep s rv hs
      rw [hk] at h1
      exact .inl ⟨p, us, rfl, h1, q a _ (Ext.refl a) s (by rw [← r1.length]; exact rfl)⟩
    · exact q.elim
  · exact q.elim
def fList (ds : List D) (G : DH) : R D := match ds with
  | [.str z] => if z.length ≤ 1000000 then .ok (.ref G.length) (G ++ [.lst (signs z)]) else .bad
  | [d] => match seqOf d G with
    | some xs => .ok (.ref G.length) (G ++ [.lst xs])
    | none => .bad
  | _ => .bad
theorem vals_of : ∀ {vs : List V} {us : List Value}, vs.length = us.length → (∀ (i : Nat) (v : V) (u : Value), vs[i]? = some v → us[i]? = some u → RelV v u) → Vals vs us
  | [], [], _, _ => .nil
  | [], _ :: _, h, _ => by cases h
  | _ :: _, [], h, _ => by cases h
  | v :: vs, u :: us, h, f => .cons (f 0 v u rfl rfl) (vals_of (by simpa using h) fun i v' u' h1 h2 => f (i + 1) v' u' (by simpa using h1) (by simpa using h2))
theorem call_list_strX (hc : X.calm = true) : CallR X (.type "list") (fun xs H Q => ∃ z : Str, xs = [.str z] ∧ z.length ≤ sizeLine ∧ ∀ l, H l = none → Q (.ref l) (upd H l (.lst (z.cps.toList.map fun c => V.str ⟨#[c]⟩)))) := by
  intro pins s σ H xs us Q I r h
  obtain ⟨z, rfl, hz, q⟩ := h
  obtain ⟨u, rfl, t, rfl⟩ := vals1 r
  refine PySem.call_list_str (I.ok.hd hc) z t (fun h' tk acc c hk hS hacc => ?_) hz
  have hn : H s.heap.objs.size = none := I.hok.fresh (Nat.le_refl _)
  refine ⟨.ref s.heap.objs.size, upd H s.heap.objs.size (.lst (z.cps.toList.map fun c => V.str ⟨#[c]⟩)), I.laid (t' := tk) (h' := h') hk (Nat.le_refl _) ?_, rfl, q _ hn⟩
  refine ⟨by rw [List.length_map, Array.length_toList]; exact hz, acc.toList, c, vals_of ?_ fun i v u h1 h2 => ?_, by simpa using hS⟩
  · rw [List.length_map, Array.length_toList, Array.length_toList]; exact hacc.1.symm
  · rw [List.getElem?_map, Option.map_eq_some_iff] at h1
    obtain ⟨k, e1, rfl⟩ := h1
    obtain ⟨k', t', e2, rfl⟩ := hacc.2 i u (by rw [← Array.getElem?_toList]; exact h2)
    rw [Array.getElem?_toList, e2] at e1
    cases e1
    exact ⟨t', rfl⟩
theorem c_list (hc : X.calm = true) : CallR X (.type "list") (lRn X.K E fList) := (call_list_of.or (call_list_strX hc)).mono fun vs H Q h => by
  obtain ⟨a, G, ds, hk, rfl, s, r, q⟩ := h
  unfold fList at q
  split at q
  · rename_i z
    split at q
    · rename_i hl
      obtain ⟨v, rfl, rv⟩ := reps1 r
      cases (show v = V.str z from rv)
      exact .inr ⟨z, rfl, Nat.le_trans hl size6, fun l hl => new_lst s (Reps.signs z) q l hl⟩
    · exact q.elim
  · rename_i d _
    split at q
    · rename_i xs hs
      obtain ⟨v, rfl, rv⟩ := reps1 r
      obtain ⟨p, us, rfl, h1, r1⟩ := seq_rep s rv hs
      exact .inl ⟨p, us, rfl, by rw [← hk]; exact h1, fun l hl => new_lst s r1 q l hl⟩
    · exact q.elim
  · exact q.elim
/-! max, min -/
def fMax (ds : List D) (G : DH) : R D := match ds with
  | [.int i, .int j] => .ok (.int (if j > i then j else i)) G
  | _ => .bad
def fMin (ds : List D) (G : DH) : R D := match ds with
  | [.int i, .int j] => .ok (.int (if j < i then j else i)) G
  | _ => .bad
theorem c_max (hc : X.calm = true) : CallR X (.builtin "max") (lRn X.K E fMax) := (call_max2 hc).mono fun vs H Q h => by
  obtain ⟨a, G, ds, hk, rfl, s, r, q⟩ := h
  unfold fMax at q
  split at q
  · obtain ⟨v, v', rfl, h1, h2⟩ := reps2 r
    cases (show v = V.int _ from h1)
    cases (show v' = V.int _ from h2)
    exact ⟨_, _, rfl, q a _ (Ext.refl a) s rfl⟩
  · exact q.elim
theorem c_min (hc : X.calm = true) : CallR X (.builtin "min") (lRn X.K E fMin) := (call_min2 hc).mono fun vs H Q h => by
  obtain ⟨a, G, ds, hk, rfl, s, r, q⟩ := h
  unfold fMin at q
  split at q
  · obtain ⟨v, v', rfl, h1, h2⟩ := reps2 r
    cases (show v = V.int _ from h1)
    cases (show v' = V.int _ from h2)
    exact ⟨_, _, rfl, q a _ (Ext.refl a) s rfl⟩
  · exact q.elim
/-! append, pop -/
def mAppend (o : D) (ds : List D) (G : DH) : R D := match o, ds with
  | .ref i, [d] => match G[i]? with
    | some (.lst xs) => if xs.length < 1000000 then .ok .non (G.set i (.lst (xs ++ [d]))) else .bad
    | _ => .bad
  | _, _ => .bad
def lRm (K : PySem.W.Frag) (E : XK) (f : D → List D → DH → R D) : V → List V → Hp → VK → Prop := fun x xs H Q => ∃ (a : Wd) (G : DH) (d : D) (ds : List D), a.K = K ∧ a.H = H ∧ Sim a G ∧ Rep a d x ∧ Reps a ds xs ∧ out E a (f d ds G) Q
theorem Sim.isList {a : Wd} {G : DH} {i : Nat} {xs : List D} (s : Sim a G) (h : G[i]? = some (.lst xs)) : ∃ vs, SqL a.K a.H (a.m i) vs := let ⟨vs, e, _⟩ := s.lst h; ⟨vs, .of e⟩
theorem m_append : MtM X "list.append" (lRm X.K E mAppend) := mt_append.mono fun x xs H Q h => by
  obtain ⟨a, G, d, ds, hk, rfl, s, rd, r, q⟩ := h
  unfold mAppend at q
  split at q
  · rename_i i d
    obtain ⟨v, rfl, rv⟩ := reps1 r
    split at q
    · rename_i ys hy
      split at q
      · rename_i hl
        obtain ⟨vs, e1, r1⟩ := s.lst hy
        obtain ⟨x3, s3⟩ := wr_lst s rd.1 e1 (r1.append (Reps.cons rv Reps.nil))
        refine ⟨a.m i, vs, v, rd.2, rfl, e1, by rw [← r1.length]; exact Nat.lt_of_lt_of_le hl size6, ?_⟩
        exact q _ .non x3 s3 rfl
      · exact q.elim
    · exact q.elim
  · exact q.elim
variable {o e : Expr} {es : List Expr} {to : DE} {t : DA} {name : Str} {apos cpos : Pos} {T id : String} {f : D → List D → DH → R D}
/-- o.m(..) of a list's method -/
def isL (d : D) (G : DH) : Bool := match d with
  | .ref i => match G[i]? with
    | some (.lst _) => true
    | _ => false
  | .fl _ => true
  | _ => false
def dMtL (f : D → List D → DH → R D) (o : DE) (t : DA) : DE := fun S G => (o S G).bind fun x G1 => if isL x G1 = true then (t S G1).bind fun xs G2 => f x xs G2 else .bad
theorem isL_ty {a : Wd} {G : DH} {d : D} {x : V} (s : Sim a G) (r : Rep a d x) (h : isL d G = true) : tyV a.K "list" x a.H := by
  cases d with
  | ref i =>
    unfold isL at h
    dsimp only at h
    split at h
    · rename_i xs hx
      cases r.2
      exact .inl ⟨rfl, s.isList hx⟩
    · cases h
  | fl xs =>
    obtain ⟨p, vs, rfl, q, _⟩ := r
    exact .inl ⟨rfl, vs, q.sq⟩
  | _ => cases h
theorem qe_mtL (slot : Slot "list" name id) (hty : typeOf (.builtin id) = pure (.type "method_descriptor")) (hm : MtM X id (lRm X.K E f)) (ho : QE X E o to) (ha : QA X E (e :: es) t)
    (hbase : attributeBase o name X.env (eval o X.env) = eval o X.env := by rfl)
    (hfew : ((backTo cpos (starEach (e :: es) X.env)).all (fun x => !x.1) && (backToKw cpos (keywordEach [] X.env)).all (fun x => x.1.isSome)
      && decide ((e :: es).length + ([] : List Keyword).length + (if ([] : List Keyword).isEmpty then 0 else 1) < 30)) = true := by rfl)
    (hline : (apos.endLine == cpos.line) = true := by rfl) (hs : starEach (e :: es) X.env = (false, eval e X.env) :: starEach es X.env := by rfl) (hplain : (backTo cpos (starEach es X.env)).any (·.1) = false := by rfl) :
    QE X E (.Call (.Attribute o name apos) (e :: es) [] cpos) (dMtL f to t) := (pe_bm PySem.F.plainAttrs_list slot hty hm ho ha hbase hfew hline hs hplain).mono fun σ H Q h => by
  obtain ⟨a, S, G, hk, rfl, s, r, h⟩ := h
  refine ⟨a, S, G, hk, rfl, s, r, (out_bind h).imp ?_⟩
  rintro v _ ⟨b, d, G1, rfl, x, s1, q, -, h1⟩
  split at h1
  · rename_i hl
    have ty := isL_ty s1 q hl
    rw [x.k, hk] at ty
    refine ⟨ty, b, S, G1, x.k.trans hk, rfl, s1, r.mono x, (out_bindA h1).imp ?_⟩
    rintro vs _ ⟨c, ds, G2, rfl, y, s2, q2, -, h2⟩
    exact ⟨c, G2, d, ds, y.k.trans (x.k.trans hk), rfl, s2, q.mono y, q2, h2⟩
  · exact h1.elim
end
end DL
namespace DL
open PySem PySem.Spec L2
open PyProof.Rows hiding St
/-! ### isinstance -/
inductive Ty where | non | bl | int | str | tup | lst
def Ty.name : Ty → String
  | .non => "NoneType" | .bl => "bool" | .int => "int" | .str => "str" | .tup => "tuple" | .lst => "list"
def tyD (G : DH) : D → Option Ty
  | .non => some .non
  | .bl _ => some .bl
  | .int _ => some .int
  | .str _ => some .str
  | .tup _ => some .tup
  | .fl _ => some .lst
  | .ref i => match G[i]? with
    | some (.lst _) => some .lst
    | _ => none
  | .ty _ => none
def Ty.sub (t : Ty) : String → Option Bool
  | "int" => some (match t with | .int => true | .bl => true | _ => false)
  | "bool" => some (match t with | .bl => true | _ => false)
  | "str" => some (match t with | .str => true | _ => false)
  | "tuple" => some (match t with | .tup => true | _ => false)
  | "list" => some (match t with | .lst => true | _ => false)
  | _ => none
def fIsi (ds : List D) (G : DH) : R D := match ds with
  | [d, .ty T] => match tyD G d with
    | some t => match t.sub T with
      | some k => .ok (.bl k) G
      | none => .bad
    | none => .bad
  | _ => .bad
section
variable {prog : Program} {w : World} {A : Around} {E : Value → Shared → Prop} {s : Shared}
theorem isi_true {x : Value} {Tx T : String} {Q : Value → Shared → Prop} (hx : s.TypeIs x Tx) (hty : typeOf (.type T) = pure (.type "type")) (hsub : isSubtype (.type Tx) (.type T) = pure true) (h : Q (.bool true) s) :
    wpAny (model prog w) A (call (.builtin "isinstance") [x, .type T]) Q E s := call_isinstance (isinstance_true hty hsub) ⟨hx, h⟩
end
theorem ty_int : typeOf (.type "int") = pure (.type "type") := by with_unfolding_all rfl
theorem ty_bool : typeOf (.type "bool") = pure (.type "type") := by with_unfolding_all rfl
theorem ty_str : typeOf (.type "str") = pure (.type "type") := by with_unfolding_all rfl
theorem ty_tuple : typeOf (.type "tuple") = pure (.type "type") := by with_unfolding_all rfl
theorem ty_list : typeOf (.type "list") = pure (.type "type") := by with_unfolding_all rfl
theorem sb_NoneType_int : isSubtype (.type "NoneType") (.type "int") = pure false := by with_unfolding_all rfl
theorem sb_NoneType_bool : isSubtype (.type "NoneType") (.type "bool") = pure false := by with_unfolding_all rfl
theorem sb_NoneType_str : isSubtype (.type "NoneType") (.type "str") = pure false := by with_unfolding_all rfl
theorem sb_NoneType_tuple : isSubtype (.type "NoneType") (.type "tuple") = pure false := by with_unfolding_all rfl
theorem sb_NoneType_list : isSubtype (.type "NoneType") (.type "list") = pure false := by with_unfolding_all rfl
theorem sb_bool_int : isSubtype (.type "bool") (.type "int") = pure true := by with_unfolding_all rfl
theorem sb_bool_bool : isSubtype (.type "bool") (.type "bool") = pure true := by with_unfolding_all rfl
theorem sb_bool_str : isSubtype (.type "bool") (.type "str") = pure false := by with_unfolding_all rfl
theorem sb_bool_tuple : isSubtype (.type "bool") (.type "tuple") = pure false := by with_unfolding_all rfl
theorem sb_bool_list : isSubtype (.type "bool") (.type "list") = pure false := by with_unfolding_all rfl
theorem sb_int_int : isSubtype (.type "int") (.type "int") = pure true := by with_unfolding_all rfl
theorem sb_int_bool : isSubtype (.type "int") (.type "bool") = pure false := by with_unfolding_all rfl
theorem sb_int_str : isSubtype (.type "int") (.type "str") = pure false := by with_unfolding_all rfl
theorem sb_int_tuple : isSubtype (.type "int") (.type "tuple") = pure false := by with_unfolding_all rfl
theorem sb_int_list : isSubtype (.type "int") (.type "list") = pure false := by with_unfolding_all rfl
theorem sb_str_int : isSubtype (.type "str") (.type "int") = pure false := by with_unfolding_all rfl
theorem sb_str_bool : isSubtype (.type "str") (.type "bool") = pure false := by with_unfolding_all rfl
theorem sb_str_str : isSubtype (.type "str") (.type "str") = pure true := by with_unfolding_all rfl
theorem sb_str_tuple : isSubtype (.type "str") (.type "tuple") = pure false := by with_unfolding_all rfl
theorem sb_str_list : isSubtype (.type "str") (.type "list") = pure false := by with_unfolding_all rfl
theorem sb_tuple_int : isSubtype (.type "tuple") (.type "int") = pure false := by with_unfolding_all rfl
theorem sb_tuple_bool : isSubtype (.type "tuple") (.type "bool") = pure false := by with_unfolding_all rfl
theorem sb_tuple_str : isSubtype (.type "tuple") (.type "str") = pure false := by with_unfolding_all rfl
theorem sb_tuple_tuple : isSubtype (.type "tuple") (.type "tuple") = pure true := by with_unfolding_all rfl
theorem sb_tuple_list : isSubtype (.type "tuple") (.type "list") = pure false := by with_unfolding_all rfl
theorem sb_list_int : isSubtype (.type "list") (.type "int") = pure false := by with_unfolding_all rfl
theorem sb_list_bool : isSubtype (.type "list") (.type "bool") = pure false := by with_unfolding_all rfl
theorem sb_list_str : isSubtype (.type "list") (.type "str") = pure false := by with_unfolding_all rfl
theorem sb_list_tuple : isSubtype (.type "list") (.type "tuple") = pure false := by with_unfolding_all rfl
theorem sb_list_list : isSubtype (.type "list") (.type "list") = pure true := by with_unfolding_all rfl
section
variable {X : Cx} {E : XK}
theorem c_isi : CallR X (.builtin "isinstance") (lRn X.K E fIsi) := by
  intro pins s σ H vs us Q I rs h
  obtain ⟨a, G, ds, hk, rfl, sm, r, q⟩ := h
  unfold fIsi at q
  split at q
  · rename_i d T
    obtain ⟨v, v', rfl, h1, h2⟩ := reps2 r
    cases (show v' = V.ty T from h2)
    obtain ⟨u, u', rfl, ru, ru'⟩ : ∃ u u', us = [u, u'] ∧ RelV v u ∧ RelV (.ty T) u' := by
      cases rs with
      | cons p q => cases q with
        | cons p' q' => cases q'; exact ⟨_, _, rfl, p, p'⟩
    cases (show u' = Value.type T from ru')
    split at q
    · rename_i t ht
      split at q
      · rename_i k hk'
        have fin : ∀ {n : Nat}, EP X pins σ Q (.bool k) { s with toks := n } := fun {n} => ⟨.bl k, a.H, I.tok _, rfl, q a _ (Ext.refl a) sm rfl⟩
        have fin0 : EP X pins σ Q (.bool k) s := ⟨.bl k, a.H, I, rfl, q a _ (Ext.refl a) sm rfl⟩
        unfold Ty.sub at hk'
        split at hk'
        · cases d with
          | non =>
            cases ht
            cases hk'
            cases (show v = _ from h1)
            cases ru
            exact call_isinstance (isinstance_false_none (by decide) ty_int sb_NoneType_int) fin
          | bl b =>
            cases ht
            cases hk'
            cases (show v = _ from h1)
            cases ru
            exact isi_true (Tx := "bool") rfl ty_int sb_bool_int fin0
          | int b =>
            cases ht
            cases hk'
            cases (show v = _ from h1)
            obtain ⟨tk, rfl⟩ := ru
            exact isi_true (Tx := "int") (typeIs_int s _ _) ty_int sb_int_int fin0
          | str b =>
            cases ht
            cases hk'
            cases (show v = _ from h1)
            obtain ⟨tk, rfl⟩ := ru
            exact call_isinstance (isinstance_false_str (by decide) ty_int sb_str_int) fin
          | tup b =>
            cases ht
            cases hk'
            obtain ⟨p, ws, rfl, hq, _⟩ := h1
            cases ru
            rw [hk] at hq
            obtain ⟨its, _, pl, _⟩ := I.tuple hq
            exact call_isinstance (isinstance_false_tuple (by decide) ty_int sb_tuple_int) ⟨(let ⟨o, e, c, _⟩ := pl; ⟨o, e, c⟩), fin⟩
          | fl b =>
            cases ht
            cases hk'
            obtain ⟨p, ws, rfl, hq, _⟩ := h1
            cases ru
            have hq := hq.sq
            rw [hk] at hq
            obtain ⟨its, _, pl, _⟩ := I.list hq
            exact call_isinstance (isinstance_false_list (by decide) ty_int sb_list_int) ⟨(let ⟨o, e, c, _⟩ := pl.isList; ⟨o, e, c⟩), fin⟩
          | ref b =>
            unfold tyD at ht
            dsimp only at ht
            split at ht
            · rename_i xs hx
              cases ht
              cases hk'
              obtain ⟨ws, e1, _⟩ := sm.lst hx
              cases h1.2
              cases ru
              obtain ⟨its, _, pl, _⟩ := I.list (.of e1)
              exact call_isinstance (isinstance_false_list (by decide) ty_int sb_list_int) ⟨(let ⟨o, e, c, _⟩ := pl.isList; ⟨o, e, c⟩), fin⟩
            · cases ht
          | ty n => cases ht
        · cases d with
          | non =>
            cases ht
            cases hk'
            cases (show v = _ from h1)
            cases ru
            exact call_isinstance (isinstance_false_none (by decide) ty_bool sb_NoneType_bool) fin
          | bl b =>
            cases ht
            cases hk'
            cases (show v = _ from h1)
            cases ru
            exact isi_true (Tx := "bool") rfl ty_bool sb_bool_bool fin0
          | int b =>
            cases ht
            cases hk'
            cases (show v = _ from h1)
            obtain ⟨tk, rfl⟩ := ru
            exact call_isinstance (isinstance_false_int (by decide) ty_bool sb_int_bool) fin
          | str b =>
            cases ht
            cases hk'
            cases (show v = _ from h1)
            obtain ⟨tk, rfl⟩ := ru
            exact call_isinstance (isinstance_false_str (by decide) ty_bool sb_str_bool) fin
          | tup b =>
            cases ht
            cases hk'
            obtain ⟨p, ws, rfl, hq, _⟩ := h1
            cases ru
            rw [hk] at hq
            obtain ⟨its, _, pl, _⟩ := I.tuple hq
            exact call_isinstance (isinstance_false_tuple (by decide) ty_bool sb_tuple_bool) ⟨(let ⟨o, e, c, _⟩ := pl; ⟨o, e, c⟩), fin⟩
          | fl b =>
            cases ht
            cases hk'
            obtain ⟨p, ws, rfl, hq, _⟩ := h1
            cases ru
            have hq := hq.sq
            rw [hk] at hq
            obtain ⟨its, _, pl, _⟩ := I.list hq
            exact call_isinstance (isinstance_false_list (by decide) ty_bool sb_list_bool) ⟨(let ⟨o, e, c, _⟩ := pl.isList; ⟨o, e, c⟩), fin⟩
          | ref b =>
            unfold tyD at ht
            dsimp only at ht
            split at ht
            · rename_i xs hx
              cases ht
              cases hk'
              obtain ⟨ws, e1, _⟩ := sm.lst hx
              cases h1.2
              cases ru
              obtain ⟨its, _, pl, _⟩ := I.list (.of e1)
              exact call_isinstance (isinstance_false_list (by decide) ty_bool sb_list_bool) ⟨(let ⟨o, e, c, _⟩ := pl.isList; ⟨o, e, c⟩), fin⟩
            · cases ht
          | ty n => cases ht
        · cases d with
          | non =>
            cases ht
            cases hk'
            cases (show v = _ from h1)
            cases ru
            exact call_isinstance (isinstance_false_none (by decide) ty_str sb_NoneType_str) fin
          | bl b =>
            cases ht
            cases hk'
            cases (show v = _ from h1)
            cases ru
            exact call_isinstance (isinstance_false_bool (by decide) ty_str sb_bool_str) fin
          | int b =>
            cases ht
            cases hk'
            cases (show v = _ from h1)
            obtain ⟨tk, rfl⟩ := ru
            exact call_isinstance (isinstance_false_int (by decide) ty_str sb_int_str) fin
          | str b =>
            cases ht
            cases hk'
            cases (show v = _ from h1)
            obtain ⟨tk, rfl⟩ := ru
            exact isi_true (Tx := "str") (typeIs_str s _ _) ty_str sb_str_str fin0
          | tup b =>
            cases ht
            cases hk'
            obtain ⟨p, ws, rfl, hq, _⟩ := h1
            cases ru
            rw [hk] at hq
            obtain ⟨its, _, pl, _⟩ := I.tuple hq
            exact call_isinstance (isinstance_false_tuple (by decide) ty_str sb_tuple_str) ⟨(let ⟨o, e, c, _⟩ := pl; ⟨o, e, c⟩), fin⟩
          | fl b =>
            cases ht
            cases hk'
            obtain ⟨p, ws, rfl, hq, _⟩ := h1
            cases ru
            have hq := hq.sq
            rw [hk] at hq
            obtain ⟨its, _, pl, _⟩ := I.list hq
            exact call_isinstance (isinstance_false_list (by decide) ty_str sb_list_str) ⟨(let ⟨o, e, c, _⟩ := pl.isList; ⟨o, e, c⟩), fin⟩
          | ref b =>
            unfold tyD at ht
            dsimp only at ht
            split at ht
            · rename_i xs hx
              cases ht
              cases hk'
              obtain ⟨ws, e1, _⟩ := sm.lst hx
              cases h1.2
              cases ru
              obtain ⟨its, _, pl, _⟩ := I.list (.of e1)
              exact call_isinstance (isinstance_false_list (by decide) ty_str sb_list_str) ⟨(let ⟨o, e, c, _⟩ := pl.isList; ⟨o, e, c⟩), fin⟩
            · cases ht
          | ty n => cases ht
        · cases d with
          | non =>
            cases ht
            cases hk'
            cases (show v = _ from h1)
            cases ru
            exact call_isinstance (isinstance_false_none (by decide) ty_tuple sb_NoneType_tuple) fin
          | bl b =>
            cases ht
            cases hk'
            cases (show v = _ from h1)
            cases ru
            exact call_isinstance (isinstance_false_bool (by decide) ty_tuple sb_bool_tuple) fin
          | int b =>
            cases ht
            cases hk'
            cases (show v = _ from h1)
            obtain ⟨tk, rfl⟩ := ru
            exact call_isinstance (isinstance_false_int (by decide) ty_tuple sb_int_tuple) fin
          | str b =>
            cases ht
            cases hk'
            cases (show v = _ from h1)
            obtain ⟨tk, rfl⟩ := ru
            exact call_isinstance (isinstance_false_str (by decide) ty_tuple sb_str_tuple) fin
          | tup b =>
            cases ht
            cases hk'
            obtain ⟨p, ws, rfl, hq, _⟩ := h1
            cases ru
            rw [hk] at hq
            obtain ⟨its, _, pl, _⟩ := I.tuple hq
            exact isi_true (Tx := "tuple") pl.typeIs ty_tuple sb_tuple_tuple fin0
          | fl b =>
            cases ht
            cases hk'
            obtain ⟨p, ws, rfl, hq, _⟩ := h1
            cases ru
            have hq := hq.sq
            rw [hk] at hq
            obtain ⟨its, _, pl, _⟩ := I.list hq
            exact call_isinstance (isinstance_false_list (by decide) ty_tuple sb_list_tuple) ⟨(let ⟨o, e, c, _⟩ := pl.isList; ⟨o, e, c⟩), fin⟩
          | ref b =>
            unfold tyD at ht
            dsimp only at ht
            split at ht
            · rename_i xs hx
              cases ht
              cases hk'
              obtain ⟨ws, e1, _⟩ := sm.lst hx
              cases h1.2
              cases ru
              obtain ⟨its, _, pl, _⟩ := I.list (.of e1)
              exact call_isinstance (isinstance_false_list (by decide) ty_tuple sb_list_tuple) ⟨(let ⟨o, e, c, _⟩ := pl.isList; ⟨o, e, c⟩), fin⟩
            · cases ht
          | ty n => cases ht
        · cases d with
          | non =>
            cases ht
            cases hk'
            cases (show v = _ from h1)
            cases ru
            exact call_isinstance (isinstance_false_none (by decide) ty_list sb_NoneType_list) fin
          | bl b =>
            cases ht
            cases hk'
            cases (show v = _ from h1)
            cases ru
            exact call_isinstance (isinstance_false_bool (by decide) ty_list sb_bool_list) fin
          | int b =>
            cases ht
            cases hk'
            cases (show v = _ from h1)
            obtain ⟨tk, rfl⟩ := ru
            exact call_isinstance (isinstance_false_int (by decide) ty_list sb_int_list) fin
          | str b =>
            cases ht
            cases hk'
            cases (show v = _ from h1)
            obtain ⟨tk, rfl⟩ := ru
            exact call_isinstance (isinstance_false_str (by decide) ty_list sb_str_list) fin
          | tup b =>
            cases ht
            cases hk'
            obtain ⟨p, ws, rfl, hq, _⟩ := h1
            cases ru
            rw [hk] at hq
            obtain ⟨its, _, pl, _⟩ := I.tuple hq
            exact call_isinstance (isinstance_false_tuple (by decide) ty_list sb_tuple_list) ⟨(let ⟨o, e, c, _⟩ := pl; ⟨o, e, c⟩), fin⟩
          | fl b =>
            cases ht
            cases hk'
            obtain ⟨p, ws, rfl, hq, _⟩ := h1
            cases ru
            have hq := hq.sq
            rw [hk] at hq
            obtain ⟨its, _, pl, _⟩ := I.list hq
            exact isi_true (Tx := "list") pl.isList.typeIs ty_list sb_list_list fin0
          | ref b =>
            unfold tyD at ht
            dsimp only at ht
            split at ht
            · rename_i xs hx
              cases ht
              cases hk'
              obtain ⟨ws, e1, _⟩ := sm.lst hx
              cases h1.2
              cases ru
              obtain ⟨its, _, pl, _⟩ := I.list (.of e1)
              exact isi_true (Tx := "list") pl.isList.typeIs ty_list sb_list_list fin0
            · cases ht
          | ty n => cases ht
        · cases hk'
      · exact q.elim
    · exact q.elim
  · exact q.elim
end
end DL
namespace DL
open PySem PySem.Spec L2
open PyProof.Rows hiding St
def intsD : List D → Option (List Int)
  | [] => some []
  | .int i :: r => (intsD r).map (i :: ·)
  | _ => none
@[simp] theorem intsD_map (ns : List Int) : intsD (ns.map D.int) = some ns := by
  induction ns with
  | nil => rfl
  | cons n ns ih => simp [intsD, ih]
theorem intsD_eq : ∀ {xs : List D} {ns : List Int}, intsD xs = some ns → xs = ns.map D.int
  | [], ns, h => by cases h; rfl
  | .int i :: r, ns, h => by
    simp only [intsD, Option.map_eq_some_iff] at h
    obtain ⟨ms, h1, rfl⟩ := h
    rw [List.map_cons, intsD_eq h1]
  | .non :: r, ns, h => by simp [intsD] at h
  | .bl _ :: r, ns, h => by simp [intsD] at h
  | .str _ :: r, ns, h => by simp [intsD] at h
  | .ty _ :: r, ns, h => by simp [intsD] at h
  | .tup _ :: r, ns, h => by simp [intsD] at h
  | .fl _ :: r, ns, h => by simp [intsD] at h
  | .ref _ :: r, ns, h => by simp [intsD] at h
def fSum (ds : List D) (G : DH) : R D := match ds with
  | [d] => match seqOf d G with
    | some xs => match intsD xs with
      | some ns => .ok (.int ns.sum) G
      | none => .bad
    | none => .bad
  | _ => .bad
section
variable {X : Cx} {E : XK} {pins : List (Addr × Obj)} {σ : St} {s : Shared} {H : Hp}
/-- a walk over a list or tuple that is known -/
theorem walk_seq (I : Inv X pins σ H s) (hc : X.calm = true) {p : Addr} {vs : List V} (h : SqL X.K H p vs ∨ SqT X.K H p vs) {E' : Value → Shared → Prop} {Q : Value → Shared → Prop}
    (hQ : ∀ (it : Addr) (fp wr : List Addr) (its : List Value) (St : Nat → Heap → Prop) (s₂ : Shared), Vals vs its → Walks X.prog X.w X.A.in1 it fp wr its.toArray.size (fun i v => its.toArray[i]? = some v) St → St 0 s₂.heap → (∀ b ∈ fp, b < s₂.heap.objs.size) →
      (∀ h' tk, (∀ b o, b ∉ wr → s₂.heap.get? b = some o → h'.get? b = some o) → Inv X pins σ H { s₂ with heap := h', toks := tk }) → Q (.ref it) s₂) :
    wpAny (model X.prog X.w) X.A.in1 (pyIter (.ref p)) Q E' s := by
  have hh : X.A.in1.handled = none := I.ok.hd hc
  rcases h with h | h
  · obtain ⟨its, r, pl, hz⟩ := I.list h
    refine wpAny_pyIter_list pl.isList ?_
    have hp : p < s.heap.objs.size := by obtain ⟨o, e, _⟩ := pl.isList; exact Heap.lt_size e
    refine hQ _ _ _ its _ _ r (Walks.list hh _ p (Nat.ne_of_lt hp) its.toArray) ⟨⟨_, Heap.get?_push_size _ rfl, rfl, rfl⟩, ?_⟩ (fun b hb => ?_) fun h' tk kk => ?_
    · obtain ⟨o, e, c⟩ := pl.isList
      exact ⟨o, Heap.get?_push_of_some _ e, c⟩
    · show b < (s.heap.push _).objs.size
      rw [Heap.size_push]
      rcases List.mem_cons.mp hb with rfl | hb
      · exact Nat.lt_succ_self _
      · have e : b = p := by simpa using hb
        subst e; exact Nat.lt_succ_of_lt hp
    · refine I.kept fun b o e => kk b o (fun hb => ?_) (Heap.get?_push_of_some _ e)
      have e2 : b = s.heap.objs.size := by simpa using hb
      subst e2
      exact absurd (Heap.lt_size e) (Nat.lt_irrefl _)
  · obtain ⟨its, r, pl, hz⟩ := I.tuple h
    refine wpAny_pyIter_tuple (show s.heap.IsTuple p its.toArray from pl) ?_
    have hp : p < s.heap.objs.size := by obtain ⟨o, e, _⟩ := pl; exact Heap.lt_size e
    refine hQ _ _ _ its _ _ r (Walks.tuple hh _ p (Nat.ne_of_lt hp) its.toArray) ⟨⟨_, Heap.get?_push_size _ rfl, rfl, rfl⟩, ?_⟩ (fun b hb => ?_) fun h' tk kk => ?_
    · obtain ⟨o, e, c⟩ := pl
      exact ⟨o, Heap.get?_push_of_some _ e, c⟩
    · show b < (s.heap.push _).objs.size
      rw [Heap.size_push]
      rcases List.mem_cons.mp hb with rfl | hb
      · exact Nat.lt_succ_self _
      · have e : b = p := by simpa using hb
        subst e; exact Nat.lt_succ_of_lt hp
    · refine I.kept fun b o e => kk b o (fun hb => ?_) (Heap.get?_push_of_some _ e)
      have e2 : b = s.heap.objs.size := by simpa using hb
      subst e2
      exact absurd (Heap.lt_size e) (Nat.lt_irrefl _)
theorem preSum_list (ns : List Int) : ∀ n, n ≤ ns.length → preSum (fun i => ns.getD i 0) n = (ns.take n).sum
  | 0, _ => by simp [preSum]
  | n + 1, h => by
    have hn : n < ns.length := h
    rw [preSum, preSum_list ns n (by omega), List.take_succ_eq_append_getElem hn, List.sum_append]
    simp [hn]
theorem repsMap {a : Wd} : ∀ {ns : List Int} {vs : List V}, Reps a (ns.map D.int) vs → vs = ns.map V.int
  | [], vs, h => h
  | n :: ns, vs, h => by
    obtain ⟨v, r, e, h1, h2⟩ := h
    cases (show v = V.int n from h1)
    rw [e, repsMap h2]
    rfl
theorem c_sum (hc : X.calm = true) : CallR X (.builtin "sum") (lRn X.K E fSum) := by
  intro pins s σ H vs us Q I rs h
  obtain ⟨a, G, ds, hk, rfl, sm, r, q⟩ := h
  unfold fSum at q
  split at q
  · rename_i d
    obtain ⟨v, rfl, rv⟩ := reps1 r
    split at q
    · rename_i xs hs
      split at q
      · rename_i ns hn
        cases intsD_eq hn
        obtain ⟨p, ws, rfl, h1, r1⟩ := seq_rep sm rv hs
        cases repsMap r1
        rw [hk] at h1
        obtain ⟨u, rfl, ru⟩ := vals1 rs
        cases ru
        refine call_sum_walkG (walk_seq I hc h1 fun it fp wr its St s₂ hv W st hfp fin => ⟨it, fp, wr, its.toArray.size, _, St, fun i => ns.getD i 0, rfl, W, st, hfp, fun i w hw => ?_, fun h' tk t' kk => ?_⟩)
        · have hw' : its[i]? = some w := by simpa using hw
          have hl : i < (ns.map V.int).length := by rw [hv.length]; exact (List.getElem?_eq_some_iff.mp hw').1
          have hl' : i < ns.length := by simpa using hl
          obtain ⟨u, hu, ru⟩ := hv.get (i := i) (x := V.int ns[i]) (by simp [hl'])
          rw [hw'] at hu
          cases hu
          obtain ⟨t, rfl⟩ := ru
          exact ⟨t, by simp [hl']⟩
        · refine ⟨.int ns.sum, a.H, fin h' tk kk, ⟨t', ?_⟩, q a _ (Ext.refl a) sm rfl⟩
          have hl : its.toArray.size = ns.length := by rw [List.size_toArray, ← hv.length]; simp
          rw [hl, preSum_list ns ns.length (Nat.le_refl _), List.take_length]
      · exact q.elim
    · exact q.elim
  · exact q.elim
end
end DL
namespace DL
open PySem PySem.Spec L2
open PyProof.Rows hiding St
/-! ### an untracked young object becomes tracked -/
section
variable {X : Cx} {pins : List (Addr × Obj)} {σ : St} {H : Hp} {s : Shared}
theorem Inv_adopt {a : Addr} {o : HO} (I : Inv X pins σ H s) (hn : H a = none) (hy : X.s₀.heap.objs.size ≤ a) (hL : a ≠ X.env.locals) (hc : ∀ x c, X.env.cells.lookup x = some c → c ≠ a) (hp : ∀ p ∈ X.pn ++ pins, p.1 ≠ a)
    (new : ObjOk X.prog X.w (upd H a o) s.heap a o) : Inv X pins σ (upd H a o) s := by
  have ne : ∀ b u, H b = some u → b ≠ a := fun b u e z => by rw [z, hn] at e; cases e
  refine ⟨I.ok, I.os, I.bare, ⟨I.base.keep, I.base.slot, fun b ob q n hx => ?_, I.base.there, fun b xs q => ?_, fun b ob u q => ?_, fun b ps q => ?_⟩, I.loc, I.cell, ?_, fun x c e => ?_, fun p hp' => ?_, fun b u e => ?_, I.len⟩
  · rw [upd_ne (Nat.ne_of_lt (Nat.lt_of_lt_of_le (Heap.lt_size q) hy))]; exact I.base.free b ob q n hx
  · have := I.base.tups b xs q
    rw [upd_ne (ne _ _ this)]; exact this
  · have := I.base.frzs b ob u q
    rw [upd_ne (ne _ _ this)]; exact this
  · obtain ⟨more, this⟩ := I.base.tbls b ps q
    exact ⟨more, by rw [upd_ne (ne _ _ this)]; exact this⟩
  · rw [upd_ne (Ne.symm hL)]; exact I.free
  · rw [upd_ne (hc x c e)]; exact I.freeC x c e
  · obtain ⟨e1, e2, e3⟩ := I.pin p hp'
    exact ⟨e1, by rw [upd_ne (hp p hp')]; exact e2, e3⟩
  · by_cases hb : b = a
    · subst hb
      rw [upd_same] at e
      cases e
      exact new
    · rw [upd_ne hb] at e
      exact (I.hok b u e).stay (fun _ _ _ q => q) (fun c q => by rw [upd_ne (ne _ _ q)]; exact q) fun c xs q => by rw [upd_ne (ne _ _ q)]; exact q
end
/-! ### the closure of a comprehension -/
def clOf (env : Env) : List (Str × NameKind) → List (Str × Addr) → List (Str × Addr)
  | [], cs => cs
  | (n, k) :: r, cs => if (k == NameKind.free) = true then clOf env r ((n, (env.cells.lookup n).getD 0) :: cs) else clOf env r cs
theorem closureFor_eq {scope : Scope} {env : Env} (h : ∀ y ∈ scope.names, y.2 = .free → ∃ c, env.cells.lookup y.1 = some c) : closureFor scope env = pure (clOf env scope.names []) := by
  unfold closureFor
  obtain ⟨kind, names, g1, g2⟩ := scope
  have key : ∀ (names : List (Str × NameKind)) (cs : List (Str × Addr)), (∀ y ∈ names, y.2 = .free → ∃ c, env.cells.lookup y.1 = some c) →
      (forIn names cs (fun x r => match x with
        | (name, kind) => if (kind == NameKind.free) = true then (do let c ← cellOf env name; pure (ForInStep.yield ((name, c) :: r))) else pure (ForInStep.yield r)) : Sem (List (Str × Addr))) = pure (clOf env names cs) := by
    intro names
    induction names with
    | nil => intro cs _; rfl
    | cons y r ih =>
      intro cs hy
      obtain ⟨n, k⟩ := y
      rw [List.forIn_cons]
      by_cases hk : (k == NameKind.free) = true
      · obtain ⟨c, hc⟩ := hy (n, k) List.mem_cons_self (by simpa using hk)
        have e1 : cellOf env n = pure c := by unfold cellOf; rw [show env.cells.lookup n = some c from hc]
        have e2 : clOf env ((n, k) :: r) cs = clOf env r ((n, c) :: cs) := by
          rw [clOf, if_pos hk, show env.cells.lookup n = some c from hc]; rfl
        rw [e2, ← ih ((n, c) :: cs) fun y' hy' => hy y' (List.mem_cons_of_mem _ hy')]
        simp only [hk, if_true, e1]
        rfl
      · have e2 : clOf env ((n, k) :: r) cs = clOf env r cs := by rw [clOf, if_neg hk]
        rw [e2, ← ih cs fun y' hy' => hy y' (List.mem_cons_of_mem _ hy')]
        simp only [hk]
        rfl
  have := key names [] h
  exact congrArg (fun m : Sem (List (Str × Addr)) => m >>= fun r => pure r) this
theorem clOf_mem {env : Env} : ∀ {names : List (Str × NameKind)} {cs : List (Str × Addr)}, (∀ y ∈ names, y.2 = .free → ∃ c, env.cells.lookup y.1 = some c) → (∀ p ∈ cs, env.cells.lookup p.1 = some p.2) → ∀ p ∈ clOf env names cs, env.cells.lookup p.1 = some p.2
  | [], cs, _, hc, p, hp => hc p hp
  | (n, k) :: r, cs, hn, hc, p, hp => by
    rw [clOf] at hp
    split at hp
    · rename_i hk
      obtain ⟨c, e⟩ := hn (n, k) List.mem_cons_self (by simpa using hk)
      refine clOf_mem (fun y hy => hn y (List.mem_cons_of_mem _ hy)) (fun q hq => ?_) p hp
      rcases List.mem_cons.mp hq with rfl | hq
      · rw [show env.cells.lookup n = some c from e]; rfl
      · exact hc q hq
    · exact clOf_mem (fun y hy => hn y (List.mem_cons_of_mem _ hy)) hc p hp
theorem clOf_has {env : Env} {x : Str} : ∀ {names : List (Str × NameKind)} {cs : List (Str × Addr)}, ((x, .free) ∈ names ∨ ∃ c, (x, c) ∈ cs) → ∃ c, (x, c) ∈ clOf env names cs
  | [], cs, h => by
    rcases h with h | h
    · cases h
    · exact h
  | (n, k) :: r, cs, h => by
    rw [clOf]
    split
    · refine clOf_has ?_
      rcases h with h | ⟨c, h⟩
      · rcases List.mem_cons.mp h with e | h
        · cases e
          exact .inr ⟨_, List.mem_cons_self⟩
        · exact .inl h
      · exact .inr ⟨c, List.mem_cons_of_mem _ h⟩
    · rename_i hk
      refine clOf_has ?_
      rcases h with h | h
      · rcases List.mem_cons.mp h with e | h
        · cases e
          exact absurd rfl hk
        · exact .inl h
      · exact .inr h
theorem lookup_of_mem {x : Str} {c : Addr} : ∀ {l : List (Str × Addr)}, (x, c) ∈ l → ∃ d, l.lookup x = some d
  | [], h => by cases h
  | (y, d) :: l, h => by
    by_cases e : x = y
    · subst e; exact ⟨d, by simp⟩
    · rcases List.mem_cons.mp h with z | h
      · cases z; exact absurd rfl e
      · obtain ⟨d', q⟩ := lookup_of_mem h
        exact ⟨d', by rw [List.lookup_cons, beq_eq_false_iff_ne.mpr e]; exact q⟩
theorem relabel_lookup {scope : Scope} {env : Env} (x : Str) : (relabel scope env).names.lookup x = (scope.names.lookup x).map fun k => if (k == NameKind.free && env.scope.kind == .function && env.kindOf x == some .cell) = true then .cell else k := by
  unfold relabel
  generalize scope.names = l
  induction l with
  | nil => rfl
  | cons y r ih =>
    obtain ⟨n, k⟩ := y
    by_cases e : x = n
    · subst e
      simp only [List.map_cons]
      cases hc : (k == NameKind.free && env.scope.kind == ScopeKind.function && env.kindOf x == some NameKind.cell) <;>
        simp only [hc, if_true, List.lookup_cons, beq_self_eq_true, Option.map_some, Bool.false_eq_true, if_false]
    · have hb : (x == n) = false := beq_eq_false_iff_ne.mpr e
      simp only [List.map_cons]
      split
      · rw [List.lookup_cons, List.lookup_cons, hb]; exact ih
      · rw [List.lookup_cons, List.lookup_cons, hb]; exact ih
/-- the block's context -/
def blk (X : Cx) (N : List Str) (scope : Scope) (C : Addr) (s₀ : Shared) (H₀ : Hp) (ex : List Addr) : Cx where
  prog := X.prog
  w := X.w
  K := X.K
  mg := X.mg
  base := X.base
  A := X.A
  N := N
  s₀ := s₀
  H₀ := H₀
  env := compEnvC scope (clOf X.env scope.names []) C X.env
  outer := X.stack
  stack := X.stack
  ex := ex
  fn := fun _ => false
  calm := X.calm
  pn := []
  xe := fun _ _ => False
/-- what a comprehension's scope must be like -/
structure CompSc (X : Cx) (N : List Str) (scope : Scope) (nt : Nat) (caps : List Nat) : Prop where
  kind : scope.kind = .function
  names : ∀ y ∈ scope.names, y.2 = .local → scope.names.lookup y.1 = some .local
  nocell : ∀ y ∈ scope.names, y.2 ≠ .cell
  free : ∀ y ∈ scope.names, y.2 = .free → X.env.kindOf y.1 = some .cell ∨ X.env.kindOf y.1 = some .free
  nd : N.Nodup
  len : N.length = nt + caps.length
  cap : ∀ (k j : Nat), caps[k]? = some j → ∃ x, X.N[j]? = some x ∧ N[nt + k]? = some x ∧ scope.names.lookup x = some .free
section
variable {X : Cx} {pins : List (Addr × Obj)} {σ : St} {H : Hp} {s : Shared} {N : List Str} {scope : Scope} {nt : Nat} {caps : List Nat}
theorem CompSc.cells (c : CompSc X N scope nt caps) (ok : X.Ok) : ∀ y ∈ scope.names, y.2 = .free → ∃ c, X.env.cells.lookup y.1 = some c := fun y hy hk => ok.has y.1 (c.free y hy hk)
theorem CompSc.cl (c : CompSc X N scope nt caps) (ok : X.Ok) {x : Str} {d : Addr} (h : (clOf X.env scope.names []).lookup x = some d) : X.env.cells.lookup x = some d :=
  clOf_mem (c.cells ok) (fun p hp => by cases hp) (x, d) (PySem.mem_of_lookup h)
theorem blk_ok (c : CompSc X N scope nt caps) (I : Inv X pins σ H s) {fp : List Addr} (hf : ∀ b ∈ fp, FpOk X pins H b) {C : Addr} (hC : s.heap.objs.size ≤ C) (hCf : C ∉ fp) : (blk X N scope C s H fp).Ok where
  mod := I.ok.mod
  kind := c.kind
  glob := I.ok.glob
  blt := I.ok.blt
  above := hC
  inj := fun x y d h1 h2 => I.ok.inj x y d (c.cl I.ok h1) (c.cl I.ok h2)
  has := fun x h => by
    have h' : (relabel scope X.env).names.lookup x = some .cell ∨ (relabel scope X.env).names.lookup x = some .free := h
    rw [relabel_lookup] at h'
    have hfree : scope.names.lookup x = some .free := by
      cases e : scope.names.lookup x with
      | none => rw [e] at h'; rcases h' with h' | h' <;> cases h'
      | some k =>
        rw [e] at h'
        cases k with
        | free => rfl
        | cell => exact absurd rfl (c.nocell _ (PySem.mem_of_lookup e))
        | _ => rcases h' with h' | h' <;> (simp at h')
    obtain ⟨d, hd⟩ := clOf_has (env := X.env) (x := x) (names := scope.names) (cs := []) (.inl (PySem.mem_of_lookup hfree))
    exact lookup_of_mem hd
  cab := fun x d h => by cases h
  hd := I.ok.hd
  frames := I.ok.frames
  stk := .inl rfl
  exf := fun b hb => ⟨fun z => hCf (by rw [← show b = C from z]; exact hb), fun x d h => (hf b hb).2.2.2.2.1 x d (c.cl I.ok h)⟩
  bs := I.bs
  bsz := Nat.le_trans I.ok.bsz I.sz
  noex := fun b o e hb => by
    rcases (hf b hb).2.2.2.1 with h | h
    · exact I.ok.noex b o e h
    · exact absurd (Nat.lt_of_lt_of_le (Heap.lt_size (I.ok.bs b o e).1) h) (Nat.lt_irrefl _)
  exfs := fun b hb hz => by
    rcases List.mem_cons.mp (I.stkSub b hz) with z | z
    · exact (hf b hb).2.1 z
    · exact (hf b hb).2.2.1 z
  funs := I.stack
  frf := I.stkFree
end
end DL
namespace DL
open PySem PySem.Spec L2
open PyProof.Rows hiding St
/-! ### comprehensions -/
def compP (g : DG) (c : DB) (te : DE) (S : DSt) : List D → DH → R (List D)
  | [], G => .ok [] G
  | x :: xs, G => (g x S G).bind fun S1 G1 => (c S1 G1).bind fun k G2 =>
      if k = true then (te S1 G2).bind fun d G3 => (compP g c te S xs G3).bind fun ds G4 => .ok (d :: ds) G4 else compP g c te S xs G2
def compM (i : Nat) (g : DG) (c : DB) (te : DE) (S : DSt) : Nat → Nat → DH → R (List D)
  | 0, j, G => match G[i]? with
    | some (.lst xs) => if xs.length ≤ j then .ok [] G else .bad
    | _ => .bad
  | n + 1, j, G => match G[i]? with
    | some (.lst xs) => match xs[j]? with
      | some x => (g x S G).bind fun S1 G1 => (c S1 G1).bind fun k G2 =>
          if k = true then (te S1 G2).bind fun d G3 => (compM i g c te S n (j + 1) G3).bind fun ds G4 => .ok (d :: ds) G4 else compM i g c te S n (j + 1) G2
      | none => .ok [] G
    | _ => .bad
def compF (f : Nat → DH → Option (Option D)) (g : DG) (c : DB) (te : DE) (S : DSt) : Nat → Nat → DH → R (List D)
  | 0, j, G => match f j G with
    | some none => .ok [] G
    | _ => .bad
  | n + 1, j, G => match f j G with
    | some (some x) => (g x S G).bind fun S1 G1 => (c S1 G1).bind fun k G2 =>
          if k = true then (te S1 G2).bind fun d G3 => (compF f g c te S n (j + 1) G3).bind fun ds G4 => .ok (d :: ds) G4 else compF f g c te S n (j + 1) G2
    | some none => .ok [] G
    | none => .bad
def capS (nt : Nat) (caps : List Nat) (S : DSt) : DSt := List.replicate nt none ++ caps.map fun j => (S[j]?).join
def dComp (it : DI) (nt : Nat) (caps : List Nat) (g : DG) (c : DB) (te : DE) : DE := fun S G => (it S G).bind fun J G1 => (match J with
  | .pure xs => compP g c te (capS nt caps S) xs G1
  | .mt i => match G1[i]? with
    | some (.lst xs) => compM i g c te (capS nt caps S) xs.length 0 G1
    | _ => .bad
  | .fn n f => compF f g c te (capS nt caps S) n 0 G1).bind mkLst
def bTrue : DB := fun _ G => .ok true G
/-- a target stores into the first nt slots alone -/
def GK (nt : Nat) (g : DG) : Prop := ∀ d S G S1 G1, g d S G = .ok S1 G1 → ∀ i e, nt ≤ i → S[i]? = some (some e) → S1[i]? = some (some e)
def GKs (nt : Nat) (g : DGs) : Prop := ∀ d S G S1 G1, g d S G = .ok S1 G1 → ∀ i e, nt ≤ i → S[i]? = some (some e) → S1[i]? = some (some e)
theorem gk_name {nt i : Nat} (h : i < nt) : GK nt (gV i) := fun d S G S1 G1 e j x hj hx => by
  cases e
  rw [List.getElem?_set_ne (by omega)]
  exact hx
theorem gks_nil {nt : Nat} : GKs nt gNil' := fun d S G S1 G1 e j x hj hx => by
  cases d with
  | nil => cases e; exact hx
  | cons _ _ => cases e
theorem gks_cons {nt : Nat} {t : DG} {u : DGs} (h1 : GK nt t) (h2 : GKs nt u) : GKs nt (gCons' t u) := fun d S G S1 G1 e j x hj hx => by
  cases d with
  | nil => cases e
  | cons a r =>
    have e' : (t a S G).bind (fun S1 G1 => u r S1 G1) = .ok S1 G1 := e
    cases ht : t a S G with
    | ok S2 G2 => rw [ht] at e'; exact h2 _ _ _ _ _ e' j x hj (h1 _ _ _ _ _ ht j x hj hx)
    | err _ _ => rw [ht] at e'; cases e'
    | bad => rw [ht] at e'; cases e'
theorem gk_tup {nt n : Nat} {t : DGs} (h : GKs nt t) : GK nt (gTup' n t) := fun d S G S1 G1 e j x hj hx => by
  cases d with
  | tup ds =>
    unfold gTup' at e
    dsimp only at e
    split at e
    · exact h _ _ _ _ _ e j x hj hx
    · cases e
  | _ => cases e
theorem out_bindG {E : XK} {a : Wd} {r : R DSt} {f : DSt → DH → R D} {Q : VK} (h : out E a (r.bind f) Q) :
    outG E a r (fun σ H => ∃ (b : Wd) (S : DSt) (G : DH), b.H = H ∧ Ext a b ∧ Sim b G ∧ RepS b S σ ∧ r = .ok S G ∧ out E b (f S G) Q) := by
  cases r with
  | ok d G => exact fun b v x s q => ⟨b, d, G, rfl, x, s, q, rfl, out.mono x h⟩
  | err e G => exact h
  | bad => exact h
theorem R.bind_assoc {α β γ : Type} (r : R α) (f : α → DH → R β) (g : β → DH → R γ) : (r.bind f).bind g = r.bind fun a G => (f a G).bind g := by
  cases r <;> rfl
theorem out_bindI {E : XK} {a : Wd} {r : R ItD} {f : ItD → DH → R D} {Q : VK} (h : out E a (r.bind f) Q) :
    outI E a r (fun J H => ∃ (b : Wd) (d : ItD) (G : DH), b.H = H ∧ Ext a b ∧ Sim b G ∧ RepI b d J ∧ r = .ok d G ∧ out E b (f d G) Q) := by
  cases r with
  | ok d G => exact fun b v x s q => ⟨b, d, G, rfl, x, s, q, rfl, out.mono x h⟩
  | err e G => exact h
  | bad => exact h
section
variable {prog : Program} {w : World} {A : Around} {R' : Result → Shared → Prop} {s : Shared}
theorem compLoop_own {elt target iter : Expr} {ifs : List Expr} {scope : Scope} {pos : Pos} {it acc : Value} {env : Env} (I : Nat → Shared → Prop)
    (turn : ∀ n s, I n s → wpAny (model prog w) A (pyNext it) (fun r s₁ => match r with
      | none => R' (.ok .next) s₁
      | some v => wpAny (model prog w) A (letOwnedTupleGo target it v) (fun _ s₁ => wpAny (model prog w) A (assign target env v) (fun _ s₂ =>
          wpAny (model prog w) A (forIn ifs true fun c r => if r = true then do let ok ← isTrue c env (eval c env); pure (ForInStep.yield ok) else pure (ForInStep.yield r)) (fun ok s₃ =>
            if ok = true then wpAny (model prog w) A (eval elt env) (fun x s₄ =>
              wpAny (model prog w) A (call (.builtin "list.append") [acc, x]) (fun _ s₅ => ∃ m, m < n ∧ I m s₅) (fun _ _ => False) s₄) (fun _ _ => False) s₃
            else ∃ m, m < n ∧ I m s₃) (fun _ _ => False) s₂) (fun _ _ => False) s₁) (fun _ _ => False) s₁) (fun _ _ => False) s)
    (n : Nat) (h : I n s) :
    codeAny (model prog w) A (.compLoop (.ListComp elt [⟨target, iter, ifs, 0⟩] scope pos) 0 it acc env) R' s := by
  refine codeAny_loop rfl I (fun n s hI => ?_) n h
  show wpAny _ A ((compTurn (.ListComp elt [⟨target, iter, ifs, 0⟩] scope pos) 0 it acc env).onRaise (fun x => do noteFrame x env; theTreesLotGoes x)) _ _ s
  refine wpAny_noted ?_
  rw [compTurn_list]
  refine wpAny_mono ?_ (fun _ _ q => q) (fun _ _ (f : False) => f.elim)
  refine wpAny_bind (wpAny_standAt (wpAny_bind (wpAny_mono (turn n s hI) (fun r s₁ h₁ => ?_) fun _ _ h' => h')))
  cases r with
  | none => exact wpAny_pure h₁
  | some v =>
    refine wpAny_bind (wpAny_mono h₁ (fun _ s₂' h₁ => ?_) fun _ _ h' => h')
    refine wpAny_bind (wpAny_mono h₁ (fun _ s₂ h₂ => wpAny_bind (wpAny_mono h₂ (fun ok s₃ h₃ => ?_) fun _ _ h' => h')) fun _ _ h' => h')
    cases ok with
    | false => exact wpAny_pure ⟨rfl, h₃⟩
    | true =>
      exact wpAny_bind (wpAny_bind (wpAny_mono h₃ (fun x s₄ h₄ => wpAny_bind (wpAny_mono h₄ (fun _ s₅ h₅ => wpAny_pure (wpAny_pure ⟨rfl, h₅⟩)) fun _ _ h' => h')) fun _ _ h' => h'))
end
/-- the tests of a comprehension -/
def QTs (X : Cx) (E : XK) (ifs : List Expr) (t : DB) : Prop :=
  ∀ (pins : List (Addr × Obj)) (s : Shared) (σ : St) (H : Hp) (Q : Bool → Hp → Prop), Inv X pins σ H s → lB X.K E t σ H Q →
    wpAny (model X.prog X.w) X.A (forIn ifs true fun c r => if r = true then do let ok ← isTrue c X.env (eval c X.env); pure (ForInStep.yield ok) else pure (ForInStep.yield r)) (TP X pins σ Q) X.xe s
theorem qts_nil {X : Cx} {E : XK} : QTs X E [] bTrue := fun pins s σ H Q I h => by
  obtain ⟨a, S, G, hk, rfl, sm, r, h⟩ := h
  exact wpAny_tests_nil ⟨a.H, I, h a (Ext.refl a) sm⟩
section
variable {X : Cx} {E : XK} {N : List Str} {scope : Scope} {nt : Nat} {caps : List Nat} {tg elt iter : Expr} {ifs : List Expr} {pos : Pos} {it : DI} {g : DG} {c : DB} {te : DE}
theorem capS_rep {a : Wd} {S : DSt} {σ : St} (r : RepS a S σ) : RepS a (capS nt caps S) (List.replicate nt none ++ caps.map fun j => (σ[j]?).join) := by
  refine ⟨by simp [capS], fun i d h => ?_⟩
  unfold capS at h
  by_cases hi : i < nt
  · rw [List.getElem?_append_left (by simpa using hi), List.getElem?_replicate] at h
    split at h <;> cases h
  · rw [List.getElem?_append_right (by simpa using hi), List.getElem?_map] at h
    rw [List.getElem?_append_right (by simpa using hi), List.getElem?_map]
    rw [List.length_replicate] at h ⊢
    cases e : caps[i - nt]? with
    | none => rw [e] at h; cases h
    | some j =>
      rw [e] at h
      have h1 : (S[j]?).join = some d := by simpa using h
      have h2 : S[j]? = some (some d) := by
        cases q : S[j]? with
        | none => rw [q] at h1; cases h1
        | some o =>
          rw [q] at h1
          have h1' : o = some d := h1
          rw [h1']
      obtain ⟨v, ev, rv⟩ := r.get j d h2
      exact ⟨v, by simp [ev], rv⟩
theorem capS_none {S : DSt} {i : Nat} {d : D} (h : (capS nt caps S)[i]? = some (some d)) : nt ≤ i := by
  unfold capS at h
  by_cases hi : i < nt
  · rw [List.getElem?_append_left (by simpa using hi), List.getElem?_replicate] at h
    split at h <;> cases h
  · omega
/-- the core: the block runs, at its end the list's object and the frame of the block -/
theorem comp_core (hc : X.calm = true) (cs : CompSc X N scope nt caps)
    (hg : ∀ C s₀ H₀ ex, QG (blk X N scope C s₀ H₀ ex) E0 tg g) (gk : GK nt g) (hts : ∀ C s₀ H₀ ex, QTs (blk X N scope C s₀ H₀ ex) E0 ifs c) (he : ∀ C s₀ H₀ ex, QE (blk X N scope C s₀ H₀ ex) E0 elt te)
    {pins : List (Addr × Obj)} {σ : St} {s : Shared} {a : Wd} {S : DSt} {G : DH} {J : It} {d : ItD} {i0 : Addr} {fp : List Addr} {tn : Nat → Heap → Prop} (I : Inv X pins σ a.H s) (hk : a.K = X.K) (sm : Sim a G) (rS : RepS a S σ)
    (T : Turn X.prog X.w X.K tg J fp i0 tn) (t0 : tn 0 s.heap) (hf : ∀ b ∈ fp, FpOk X pins a.H b) (rJ : RepI a d J) {Q : VK}
    (h : out E0 a ((match d with
      | .pure xs => compP g c te (capS nt caps S) xs G
      | .mt i => match G[i]? with
        | some (.lst xs) => compM i g c te (capS nt caps S) xs.length 0 G
        | _ => .bad
      | .fn n f => compF f g c te (capS nt caps S) n 0 G).bind mkLst) Q)
    {RR : Value → Addr → Result → Shared → Prop} {E' : Value → Shared → Prop}
    (hRR : ∀ (D C : Addr) (s' : Shared) (b : Wd) (vs : List V), Inv X pins σ (upd b.H D (.lst vs)) s' → b.H D = none → s.heap.objs.size ≤ C → D ≠ C → (∃ m, s'.heap.Ns C m) → b.H C = none → Q (.ref D) (upd b.H D (.lst vs)) → RR (.ref D) C (.ok .next) s') :
    wpAny (model X.prog X.w) X.A (newList []) (fun acc s₃ => wpAny (model X.prog X.w) X.A (newFunctionEnv scope X.env.globals (clOf X.env scope.names []) [] X.env.qual none .none (some X.env)) (fun cenv s₄ =>
      codeAny (model X.prog X.w) X.A (.compStart (.ListComp elt [⟨tg, iter, ifs, 0⟩] scope pos) 0 (.ref i0) acc { cenv with scope := relabel scope X.env }) (RR acc cenv.locals) s₄) E' s₃) E' s := by
  refine wpAny_newObj_type (wpAny_newFunctionEnv cs.nocell (by intro y hy; simp at hy) (fun h₁ hns₁ hsb₁ => ?_) cs.kind)
  dsimp only at hns₁ hsb₁ ⊢
  generalize hH2 : s.heap.push { cls := .type "list", dict := none, data := .seq ([] : List Value).toArray } = H2 at hns₁ hsb₁ ⊢
  have hC : H2.objs.size = s.heap.objs.size + 1 := by rw [← hH2, Heap.size_push]
  have hDC : s.heap.objs.size ≠ H2.objs.size := by rw [hC]; exact Nat.ne_of_lt (Nat.lt_succ_self _)
  have hCle : s.heap.objs.size ≤ H2.objs.size := by rw [hC]; exact Nat.le_succ _
  have fpOld : ∀ b ∈ fp, b < s.heap.objs.size := fun b hb => by obtain ⟨o, e, _⟩ := T.obj 0 _ t0 b hb; exact Heap.lt_size e
  have hDf : s.heap.objs.size ∉ fp := fun hm => Nat.lt_irrefl _ (fpOld _ hm)
  have hCf : H2.objs.size ∉ fp := fun hm => by have := fpOld _ hm; rw [hC] at this; exact Nat.lt_irrefl _ (Nat.lt_of_succ_lt this)
  have old : ∀ b o, s.heap.get? b = some o → h₁.get? b = some o := fun b o e =>
    hsb₁.extBut b o (by rw [hC]; exact Nat.ne_of_lt (Nat.lt_succ_of_lt (Heap.lt_size e))) (Heap.get?_push_of_some _ (hH2 ▸ Heap.get?_push_of_some _ e))
  have hacc : h₁.PlainList s.heap.objs.size ([] : List Value).toArray := ⟨_, hsb₁.extBut _ _ hDC (Heap.get?_push_of_some _ (hH2 ▸ Heap.get?_push_size _ rfl))⟩
  generalize hCe : H2.objs.size = C at *
  generalize hDe : s.heap.objs.size = Dd at *
  let B := blk X N scope C s a.H fp
  have okB : B.Ok := blk_ok cs I hf (by rw [hDe]; exact hCle) hCf
  let σ0 : St := List.replicate nt none ++ caps.map fun j => (σ[j]?).join
  -- the state at the block's entry
  have start : ∀ tk, Inv B [] σ0 a.H { s with heap := h₁, toks := tk } := fun tk => by
    refine ⟨okB, rfl, I.bare, Un.kept old, ⟨_, hns₁, fun i x v e1 e2 e3 => ?_⟩, fun x d' e => ?_, I.hok.fresh (by rw [hDe]; exact hCle), fun x d' e => ?_, fun p hp => ?_, I.hok.kept old, ?_⟩
    · have hi : nt ≤ i := by
        by_cases hi : i < nt
        · have e2' : σ0[i]? = some (some v) := e2
          rw [List.getElem?_append_left (by simpa using hi), List.getElem?_replicate] at e2'
          split at e2' <;> cases e2'
        · omega
      have e2' : σ0[i]? = some (some v) := e2
      rw [List.getElem?_append_right (by simpa using hi), List.getElem?_map, List.length_replicate] at e2'
      cases ej : caps[i - nt]? with
      | none => rw [ej] at e2'; cases e2'
      | some j =>
        rw [ej] at e2'
        have h1 : (σ[j]?).join = some v := by simpa using e2'
        have h2 : σ[j]? = some (some v) := by
          cases q : σ[j]? with
          | none => rw [q] at h1; cases h1
          | some o =>
            rw [q] at h1
            have h1' : o = some v := h1
            rw [h1']
        obtain ⟨y, ey, en, ek⟩ := cs.cap (i - nt) j ej
        have exy : x = y := by
          have : nt + (i - nt) = i := by omega
          rw [this] at en
          have e1' : N[i]? = some x := e1
          rw [e1'] at en
          exact Option.some.inj en
        subst exy
        have kx := cs.free (x, .free) (PySem.mem_of_lookup ek) rfl
        have vis : Vis X.env.scope x := by
          rcases kx with kx | kx
          · exact .inr (.inl kx)
          · exact .inr (.inr kx)
        obtain ⟨m, hn, hl⟩ := I.loc
        obtain ⟨u, ru, lk⟩ := hl j x v ey h2 vis
        refine ⟨u, ru, ?_⟩
        rcases lk with ⟨k1, _⟩ | ⟨k1, c1, ec, hcell⟩
        · rcases kx with kx | kx
          · rw [k1] at kx; cases kx
          · rw [k1] at kx; cases kx
        · refine .inr ⟨?_, c1, ?_, ?_⟩
          · show (relabel scope X.env).names.lookup x = some .cell ∨ (relabel scope X.env).names.lookup x = some .free
            rw [relabel_lookup, ek]
            simp only [Option.map_some]
            split
            · exact .inl rfl
            · exact .inr rfl
          · obtain ⟨d1, hd1⟩ := clOf_has (env := X.env) (x := x) (names := scope.names) (cs := []) (.inl (PySem.mem_of_lookup ek))
            obtain ⟨d2, hd2⟩ := lookup_of_mem hd1
            have := cs.cl I.ok hd2
            rw [ec] at this
            cases this
            exact hd2
          · obtain ⟨o, e, dd⟩ := hcell
            exact ⟨o, old _ _ e, dd⟩
    · obtain ⟨v, o, e', dd⟩ := I.cell x d' (cs.cl I.ok e)
      exact ⟨v, o, old _ _ e', dd⟩
    · exact I.freeC x d' (cs.cl I.ok e)
    · exact absurd hp (by simp [B, blk])
    · show σ0.length = N.length
      rw [cs.len]
      simp [σ0]
  have rS0 : RepS a (capS nt caps S) σ0 := capS_rep rS
  have aD : a.H Dd = none := I.hok.fresh (by rw [hDe]; exact Nat.le_refl _)
  have young : ∀ b ∈ fp, b ≠ C := fun b hb z => hCf (z ▸ hb)
  have fpB : ∀ {H' : Hp} {ps : List (Addr × Obj)}, (∀ b ∈ fp, H' b = none) → (∀ p ∈ ps, p.1 ∉ fp) → ∀ b ∈ fp, FpOk B ps H' b := fun {H' ps} hn hps b hb =>
    ⟨hn b hb, young b hb, okB.exfs b hb, .inl hb, fun x d' e => (hf b hb).2.2.2.2.1 x d' (cs.cl I.ok e), fun p hp z => by
      have hp' : p ∈ ps := by simpa [B, blk] using hp
      exact hps p hp' (z ▸ hb)⟩
  have nstk : Dd ∉ frs X.stack := fun z => by
    rcases List.mem_cons.mp (I.stkSub Dd z) with z | z
    · have := I.lt
      rw [hDe, ← z] at this
      exact Nat.lt_irrefl _ this
    · exact I.nofs (by rw [hDe]; exact Nat.le_refl _) z
  have pinD : ∀ {σ' : St} {H' : Hp} {s' : Shared} {its : List Value} {nD : Nat}, Inv B [] σ' H' s' → s'.heap.get? Dd = some { cls := .type "list", data := .seq its.toArray nD } → H' Dd = none → Inv B [(Dd, { cls := .type "list", data := .seq its.toArray nD })] σ' H' s' := fun {σ' H' s' its nD} J e n =>
    J.pins_of fun p hp => by
      have ep : p = (Dd, { cls := .type "list", data := .seq its.toArray nD }) := by simpa using hp
      subst ep
      exact ⟨e, n, hDC, nstk, fun v' z => by cases z⟩
  -- the end of the loop: back in the frame
  have fin : ∀ (s' : Shared) (b : Wd) (σ' : St) (its : List Value) (ds : List D) (G' : DH), Inv B [] σ' b.H s' → Ext a b → Sim b G' → s'.heap.PlainList Dd its.toArray → b.H Dd = none → (∃ vs, Vals vs its ∧ Reps b ds vs) → out E0 b (mkLst ds G') Q → RR (.ref Dd) C (.ok .next) s' := by
    intro s' b σ' its ds G' IB x sb pl hD ⟨vs, hv, rv⟩ hq
    have hz : ds.length ≤ 1000000 := by
      unfold mkLst at hq
      split at hq
      · assumption
      · exact hq.elim
    have Ix : Inv X pins σ b.H s' := I.call' IB.os IB.base IB.hok IB.bare fun b hb => ⟨(hf b hb).2.2.2.1, (hf b hb).2.1, (hf b hb).2.2.2.2.1, (hf b hb).2.2.2.2.2⟩
    obtain ⟨n, eD⟩ := pl
    have ylt : ∀ {q : Addr} {o : Obj}, s.heap.get? q = some o → q ≠ Dd := fun e z => by rw [z, ← hDe] at e; exact absurd (Heap.lt_size e) (Nat.lt_irrefl _)
    have Ia : Inv X pins σ (upd b.H Dd (.lst vs)) s' := by
      refine Inv_adopt Ix hD (by rw [← hDe]; exact I.sz) ?_ (fun y c' ec => ?_) (fun p hp => ?_) ⟨?_, its, n, hv, eD⟩
      · rw [← hDe]; exact Nat.ne_of_gt I.lt
      · obtain ⟨v, o, e, _⟩ := I.cell y c' ec
        exact ylt e
      · exact ylt (I.pin p hp).1
      · rw [← rv.length]; exact Nat.le_trans hz size6
    refine hRR Dd C s' b vs Ia hD hCle hDC (let ⟨m, hn, _⟩ := IB.loc; ⟨m, hn⟩) IB.free ?_
    unfold mkLst at hq
    rw [if_pos hz] at hq
    exact new_lst sb rv hq Dd hD
  -- one turn, the item x at hand
  have turnX : ∀ (n : Nat) (P : Nat → Shared → Prop) (rest : DH → R (List D)) (s1 : Shared) (b : Wd) (G1 : DH) (σ1 : St) (its : List Value) (acc : List D) (u : Value) (v : V) (x : D) (i : Nat), Inv B [] σ1 b.H s1 → Ext a b → Sim b G1 → RepS b (capS nt caps S) σ1 → tn i s1.heap → (∀ q ∈ fp, b.H q = none) →
      s1.heap.PlainList Dd its.toArray → b.H Dd = none → (∃ vs, Vals vs its ∧ Reps b acc vs) → RelV v u → Rep b x v →
      out E0 b (((g x (capS nt caps S) G1).bind fun S1 G1 => (c S1 G1).bind fun k G2 => if k = true then (te S1 G2).bind fun d G3 => (rest G3).bind fun ds G4 => .ok (d :: ds) G4 else rest G2).bind fun ds G => mkLst (acc ++ ds) G) Q →
      (∀ (s2 : Shared) (b2 : Wd) (G2 : DH) (σ2 : St) (its2 : List Value) (acc2 : List D), Inv B [] σ2 b2.H s2 → Ext a b2 → Sim b2 G2 → RepS b2 (capS nt caps S) σ2 → tn i s2.heap → (∀ q ∈ fp, b2.H q = none) →
        s2.heap.PlainList Dd its2.toArray → b2.H Dd = none → (∃ vs, Vals vs its2 ∧ Reps b2 acc2 vs) → out E0 b2 ((rest G2).bind fun ds G => mkLst (acc2 ++ ds) G) Q → ∃ m, m < n ∧ P m s2) →
      wpAny (model X.prog X.w) X.A (assign tg B.env u) (fun _ s₂ =>
          wpAny (model X.prog X.w) X.A (forIn ifs true fun c r => if r = true then do let ok ← isTrue c B.env (eval c B.env); pure (ForInStep.yield ok) else pure (ForInStep.yield r)) (fun ok s₃ =>
            if ok = true then wpAny (model X.prog X.w) X.A (eval elt B.env) (fun x s₄ =>
              wpAny (model X.prog X.w) X.A (call (.builtin "list.append") [.ref Dd, x]) (fun _ s₅ => ∃ m, m < n ∧ P m s₅) (fun _ _ => False) s₄) (fun _ _ => False) s₃
            else ∃ m, m < n ∧ P m s₃) (fun _ _ => False) s₂) (fun _ _ => False) s1 := by
    intro n P rest s1 b G1 σ1 its acc u v x i I1 x1 sb rSb t1 hfp pl hD hacc' ru rx hq next
    rw [R.bind_assoc] at hq
    -- pins: the list that grows, the iterator's objects
    obtain ⟨nD, eD⟩ := id pl
    let pinD : List (Addr × Obj) := [(Dd, { cls := .type "list", data := .seq its.toArray nD })]
    have pinOk : ∀ {σ' : St} {H' : Hp} {s' : Shared}, Inv B (pinD ++ pinsAt fp s1.heap) σ' H' s' → s'.heap.PlainList Dd its.toArray ∧ H' Dd = none ∧ tn i s'.heap ∧ ∀ q ∈ fp, H' q = none := fun {σ' H' s'} J => by
      have p1 := J.pin (Dd, { cls := .type "list", data := .seq its.toArray nD }) (List.mem_append_right _ (List.mem_append_left _ (by simp [pinD])))
      refine ⟨⟨nD, p1.1⟩, p1.2.1, T.keep _ _ _ t1 fun q hq' o e => (J.pin (q, o) (List.mem_append_right _ (List.mem_append_right _ (mem_pinsAt hq' e)))).1, fun q hq' => ?_⟩
      obtain ⟨o, e, _⟩ := T.obj _ _ t1 q hq'
      exact (J.pin (q, o) (List.mem_append_right _ (List.mem_append_right _ (mem_pinsAt hq' e)))).2.1
    have I2 : Inv B (pinD ++ pinsAt fp s1.heap) σ1 b.H s1 := I1.pins_of fun p hp => by
      rcases List.mem_append.mp hp with hp | hp
      · have e : p = (Dd, { cls := .type "list", data := .seq its.toArray nD }) := by simpa [pinD] using hp
        subst e
        refine ⟨eD, hD, hDC, fun z => ?_, fun v' z => by cases z⟩
        exact nstk z
      · obtain ⟨hb, e⟩ := of_pinsAt hp
        obtain ⟨f0, f1, f2, _⟩ := fpB (ps := []) hfp (fun p hp => by cases hp) p.1 hb
        obtain ⟨o, e', dd⟩ := T.obj _ _ t1 p.1 hb
        rw [e] at e'
        cases e'
        exact ⟨e, f0, f1, f2, dd⟩
    refine thn (hg C s a.H fp _ s1 σ1 b.H v u _ I2 ru ⟨b, capS nt caps S, G1, x, x1.k.trans hk, rfl, sb, rSb, rx, (out_bindG hq).imp fun _ _ z => z⟩) ?_
    rintro _ s2 ⟨σ2, H2', J2, b2, S2, G2, rfl, y2, sb2, rS2, eg, hq2⟩
    rw [R.bind_assoc] at hq2
    have rS2' : RepS b2 (capS nt caps S) σ2 := ⟨by
      have h1 := J2.len
      have h2 : σ1.length = N.length := I1.len
      rw [rSb.len, h2]
      exact h1.symm, fun j e' hj => rS2.get j e' (gk _ _ _ _ _ eg j e' (capS_none hj) hj)⟩
    refine thn (hts C s a.H fp _ s2 σ2 b2.H _ J2 ⟨b2, S2, G2, y2.k.trans (x1.k.trans hk), rfl, sb2, rS2, (out_bindB hq2).imp fun _ _ z => z⟩) ?_
    rintro k s3 ⟨H3, J3, b3, G3, rfl, y3, sb3, _, hq3⟩
    cases k with
    | false =>
      obtain ⟨p1, p2, p3, p4⟩ := pinOk J3
      have Jn : Inv B [] σ2 b3.H s3 := J3.pins_of fun p hp => by cases hp
      obtain ⟨vs, hv, rv⟩ := hacc'
      exact next s3 b3 G3 σ2 its acc Jn (x1.trans (y2.trans y3)) sb3 (rS2'.mono y3) p3 p4 p1 p2 ⟨vs, hv, (rv.mono y2).mono y3⟩ hq3
    | true =>
      have hq3' : out E0 b3 (((te S2 G3).bind fun d G3 => (rest G3).bind fun ds G4 => .ok (d :: ds) G4).bind fun ds G => mkLst (acc ++ ds) G) Q := hq3
      rw [R.bind_assoc] at hq3'
      refine thn (he C s a.H fp _ s3 σ2 b3.H _ J3 ⟨b3, S2, G3, y3.k.trans (y2.k.trans (x1.k.trans hk)), rfl, sb3, rS2.mono y3, (out_bind hq3').imp fun _ _ z => z⟩) ?_
      rintro w s4 ⟨vw, H4, J4, rw', b4, d4, G4, rfl, y4, sb4, q4, _, hq4⟩
      obtain ⟨p1, p2, p3, p4⟩ := pinOk J4
      rw [R.bind_assoc] at hq4
      have hq4' : out E0 b4 ((rest G4).bind fun ds G => mkLst ((acc ++ [d4]) ++ ds) G) Q := by
        have e : (fun (ds : List D) (G : DH) => (R.ok (d4 :: ds) G).bind fun ds G => mkLst (acc ++ ds) G) = fun ds G => mkLst ((acc ++ [d4]) ++ ds) G := by
          funext ds G
          simp
        rw [← e]
        exact hq4
      obtain ⟨vs, hv, rv⟩ := hacc'
      have hsz : its.toArray.size ≤ sizeLine := by
        -- the whole list is short
        have : acc.length ≤ 1000000 := by
          cases hr : rest G4 with
          | ok ds G5 =>
            rw [hr] at hq4'
            have hq5 : out E0 b4 (mkLst ((acc ++ [d4]) ++ ds) G5) Q := hq4'
            unfold mkLst at hq5
            split at hq5
            · rename_i hl
              simp at hl
              omega
            · exact hq5.elim
          | err e' G5 => rw [hr] at hq4'; exact hq4'.elim
          | bad => rw [hr] at hq4'; exact hq4'.elim
        rw [List.size_toArray, ← hv.length, ← rv.length]
        exact Nat.le_trans this size6
      refine wpAny_list_append_plain p1 (fun h' hpl hsb => ?_) hsz
      have Jn : Inv B [] σ2 b4.H s4 := J4.pins_of fun p hp => by cases hp
      have J5 : Inv B [] σ2 b4.H { s4 with heap := h' } := by
        refine Jn.turned (it := Dd) (t' := s4.toks) (fun q o hq' e => (hsb.2 q hq').trans e) p2 hDC (.inr (by show s.heap.objs.size ≤ Dd; rw [hDe]; exact Nat.le_refl _)) (fun y c' ec => ?_) (fun p hp => absurd hp (by simp [B, blk]))
        obtain ⟨v', o, e, _⟩ := I.cell y c' (cs.cl I.ok ec)
        intro z
        rw [z, ← hDe] at e
        exact absurd (Heap.lt_size e) (Nat.lt_irrefl _)
      refine next _ b4 G4 σ2 (its ++ [w]) (acc ++ [d4]) J5 (x1.trans (y2.trans (y3.trans y4))) sb4 ((rS2'.mono y3).mono y4) (T.keep _ _ _ p3 fun q hq' o e => (hsb.2 q (fun z => hDf (z ▸ hq'))).trans e) p4 (by simpa using hpl) p2 ⟨vs ++ [vw], hv.append (.cons rw' .nil), (((rv.mono y2).mono y3).mono y4).append (Reps.cons q4 Reps.nil)⟩ hq4'
  -- the loop
  have loop : ∀ s₃ : Shared, s₃ = { s with heap := h₁, toks := s.toks + ([] : List (Str × Value)).length } →
      codeAny (model X.prog X.w) X.A (.compLoop (.ListComp elt [⟨tg, iter, ifs, 0⟩] scope pos) 0 (.ref i0) (.ref Dd) B.env) (RR (.ref Dd) C) s₃ := by
    rintro s₃ rfl
    have t1 : tn 0 h₁ := T.keep _ _ _ t0 fun q _ o e => old q o e
    have fp0 : ∀ q ∈ fp, a.H q = none := fun q hq => (hf q hq).1
    cases d with
    | pure xs =>
      obtain ⟨vs, rv, walk⟩ := rJ
      refine compLoop_own (fun m s' => ∃ (i : Nat) (b : Wd) (G' : DH) (σ' : St) (its : List Value) (acc : List D), m = vs.length - i ∧ i ≤ vs.length ∧ Inv B [] σ' b.H s' ∧ Ext a b ∧ Sim b G' ∧ RepS b (capS nt caps S) σ' ∧ tn i s'.heap ∧ (∀ q ∈ fp, b.H q = none) ∧ s'.heap.PlainList Dd its.toArray ∧ b.H Dd = none ∧ (∃ vs, Vals vs its ∧ Reps b acc vs) ∧
        out E0 b ((compP g c te (capS nt caps S) (xs.drop i) G').bind fun ds G => mkLst (acc ++ ds) G) Q) ?_ vs.length ⟨0, a, G, σ0, [], [], rfl, Nat.zero_le _, start _, Ext.refl a, sm, rS0, t1, fp0, hacc, aD, ⟨[], .nil, rfl⟩, by simpa using h⟩
      rintro m s' ⟨i, b, G', σ', its, acc, rfl, hi, IB, x, sb, rSb, ti, hfp, pl, hD, hac, hq⟩
      by_cases hl : i < vs.length
      · have e1 : vs[i]? = some vs[i] := List.getElem?_eq_getElem hl
        obtain ⟨d1, e2, rd⟩ := rv.get' e1
        have hd : xs.drop i = d1 :: xs.drop (i + 1) := by
          have hlx : i < xs.length := (List.getElem?_eq_some_iff.mp e2).1
          rw [List.drop_eq_getElem_cons hlx]
          congr 1
          exact (List.getElem?_eq_some_iff.mp e2).2
        rw [hd] at hq
        obtain ⟨go, yl⟩ := (walk b x i).1 _ e1
        obtain ⟨nD, eD⟩ := pl
        refine thn (T.item B rfl rfl rfl hc i _ s' σ' b.H _ (pinD IB eD hD) (fpB hfp (fun p hp => by
          have ep : p = (Dd, { cls := .type "list", data := .seq its.toArray nD }) := by simpa using hp
          subst ep
          exact hDf)) ti go) ?_
        rintro r s1 ⟨u, rfl, hgo⟩
        refine thn hgo ?_
        rintro _ s2 ⟨v, H', I2, ru, y, t2, hfp2⟩
        obtain ⟨rfl, rfl⟩ := yl v H' y
        have pD := (I2.pin (Dd, { cls := .type "list", data := .seq its.toArray nD }) (List.mem_append_right _ (by simp))).1
        refine turnX _ _ (fun G3 => compP g c te (capS nt caps S) (xs.drop (i + 1)) G3) s2 b G' σ' its acc u _ d1 (i + 1) (I2.pins_of fun p hp => by cases hp) x sb rSb t2 hfp2 ⟨nD, pD⟩ hD hac ru (rd.mono x) hq ?_
        · intro s3 b3 G3 σ3 its3 acc3 a1 a2 a3 a4 a5 a6 a7 a8 a9 a10
          exact ⟨vs.length - (i + 1), by omega, i + 1, b3, G3, σ3, its3, acc3, rfl, hl, a1, a2, a3, a4, a5, a6, a7, a8, a9, a10⟩
      · have e : i = vs.length := by omega
        have hd : xs.drop i = [] := by rw [List.drop_eq_nil_iff, rv.length]; omega
        rw [hd] at hq
        have hq' : out E0 b (mkLst (acc ++ []) G') Q := hq
        rw [List.append_nil] at hq'
        obtain ⟨nD, eD⟩ := pl
        refine thn (T.done B rfl rfl rfl hc i _ s' σ' b.H _ (pinD IB eD hD) (fpB hfp (fun p hp => by
          have ep : p = (Dd, { cls := .type "list", data := .seq its.toArray nD }) := by simpa using hp
          subst ep
          exact hDf)) ti ((walk b x i).2 (by omega))) ?_
        rintro r s1 ⟨rfl, I2⟩
        have pD := (I2.pin (Dd, { cls := .type "list", data := .seq its.toArray nD }) (List.mem_append_right _ (by simp))).1
        exact fin s1 b σ' its acc G' (I2.pins_of fun p hp => by cases hp) x sb ⟨nD, pD⟩ hD hac hq'
    | mt k =>
      obtain ⟨hkn, walk⟩ := rJ
      dsimp only at h
      split at h
      · rename_i xs0 hx0
        refine compLoop_own (fun m s' => ∃ (i : Nat) (b : Wd) (G' : DH) (σ' : St) (its : List Value) (acc : List D), Inv B [] σ' b.H s' ∧ Ext a b ∧ Sim b G' ∧ RepS b (capS nt caps S) σ' ∧ tn i s'.heap ∧ (∀ q ∈ fp, b.H q = none) ∧ s'.heap.PlainList Dd its.toArray ∧ b.H Dd = none ∧ (∃ vs, Vals vs its ∧ Reps b acc vs) ∧
          out E0 b ((compM k g c te (capS nt caps S) m i G').bind fun ds G => mkLst (acc ++ ds) G) Q) ?_ xs0.length ⟨0, a, G, σ0, [], [], start _, Ext.refl a, sm, rS0, t1, fp0, hacc, aD, ⟨[], .nil, rfl⟩, by simpa using h⟩
        rintro m s' ⟨i, b, G', σ', its, acc, IB, x, sb, rSb, ti, hfp, pl, hD, hac, hq⟩
        obtain ⟨nD, eD⟩ := pl
        have I0 := pinD IB eD hD
        have f0 := fpB (ps := [(Dd, { cls := .type "list", data := .seq its.toArray nD })]) hfp (fun p hp => by
          have ep : p = (Dd, { cls := .type "list", data := .seq its.toArray nD }) := by simpa using hp
          subst ep
          exact hDf)
        -- the walk stops here
        have stop : J.stop i b.H → out E0 b (mkLst acc G') Q → wpAny (model X.prog X.w) X.A (pyNext (.ref i0)) (fun r s₁ => match r with
            | none => RR (.ref Dd) C (.ok .next) s₁
            | some v => wpAny (model X.prog X.w) X.A (letOwnedTupleGo tg (.ref i0) v) (fun _ s₁ => wpAny (model X.prog X.w) X.A (assign tg B.env v) (fun _ s₂ =>
              wpAny (model X.prog X.w) X.A (forIn ifs true fun c r => if r = true then do let ok ← isTrue c B.env (eval c B.env); pure (ForInStep.yield ok) else pure (ForInStep.yield r)) (fun ok s₃ =>
                if ok = true then wpAny (model X.prog X.w) X.A (eval elt B.env) (fun x s₄ =>
                  wpAny (model X.prog X.w) X.A (call (.builtin "list.append") [.ref Dd, x]) (fun _ s₅ => ∃ m', m' < m ∧ ∃ (i : Nat) (b : Wd) (G' : DH) (σ' : St) (its : List Value) (acc : List D), Inv B [] σ' b.H s₅ ∧ Ext a b ∧ Sim b G' ∧ RepS b (capS nt caps S) σ' ∧ tn i s₅.heap ∧ (∀ q ∈ fp, b.H q = none) ∧ s₅.heap.PlainList Dd its.toArray ∧ b.H Dd = none ∧ (∃ vs, Vals vs its ∧ Reps b acc vs) ∧
                    out E0 b ((compM k g c te (capS nt caps S) m' i G').bind fun ds G => mkLst (acc ++ ds) G) Q) (fun _ _ => False) s₄) (fun _ _ => False) s₃
                else ∃ m', m' < m ∧ ∃ (i : Nat) (b : Wd) (G' : DH) (σ' : St) (its : List Value) (acc : List D), Inv B [] σ' b.H s₃ ∧ Ext a b ∧ Sim b G' ∧ RepS b (capS nt caps S) σ' ∧ tn i s₃.heap ∧ (∀ q ∈ fp, b.H q = none) ∧ s₃.heap.PlainList Dd its.toArray ∧ b.H Dd = none ∧ (∃ vs, Vals vs its ∧ Reps b acc vs) ∧
                    out E0 b ((compM k g c te (capS nt caps S) m' i G').bind fun ds G => mkLst (acc ++ ds) G) Q) (fun _ _ => False) s₂) (fun _ _ => False) s₁) (fun _ _ => False) s₁) (fun _ _ => False) s' := by
          intro st hq'
          refine thn (T.done B rfl rfl rfl hc i _ s' σ' b.H _ I0 f0 ti st) ?_
          rintro r s1 ⟨rfl, I2⟩
          have pD := (I2.pin (Dd, { cls := .type "list", data := .seq its.toArray nD }) (List.mem_append_right _ (by simp))).1
          exact fin s1 b σ' its acc G' (I2.pins_of fun p hp => by cases hp) x sb ⟨nD, pD⟩ hD hac hq'
        cases m with
        | zero =>
          unfold compM at hq
          split at hq
          · rename_i xs hx
            obtain ⟨vs, e1, rv⟩ := sb.lst hx
            split at hq
            · rename_i hl
              exact stop ((walk b x vs e1 i).2 (by rw [← rv.length]; exact hl)) (by have hq' : out E0 b (mkLst (acc ++ []) G') Q := hq; rw [List.append_nil] at hq'; exact hq')
            · exact hq.elim
          · exact hq.elim
        | succ m =>
          unfold compM at hq
          split at hq
          · rename_i xs hx
            obtain ⟨vs, e1, rv⟩ := sb.lst hx
            split at hq
            · rename_i d1 hd1
              obtain ⟨v1, ev, rd⟩ := rv.get hd1
              obtain ⟨go, yl⟩ := (walk b x vs e1 i).1 v1 ev
              refine thn (T.item B rfl rfl rfl hc i _ s' σ' b.H _ I0 f0 ti go) ?_
              rintro r s1 ⟨u, rfl, hgo⟩
              refine thn hgo ?_
              rintro _ s2 ⟨v, H', I2, ru, y, t2, hfp2⟩
              obtain ⟨rfl, rfl⟩ := yl v H' y
              have pD := (I2.pin (Dd, { cls := .type "list", data := .seq its.toArray nD }) (List.mem_append_right _ (by simp))).1
              refine turnX _ _ (fun G3 => compM k g c te (capS nt caps S) m (i + 1) G3) s2 b G' σ' its acc u _ d1 (i + 1) (I2.pins_of fun p hp => by cases hp) x sb rSb t2 hfp2 ⟨nD, pD⟩ hD hac ru rd hq ?_
              intro s3 b3 G3 σ3 its3 acc3 a1 a2 a3 a4 a5 a6 a7 a8 a9 a10
              exact ⟨m, Nat.lt_succ_self _, i + 1, b3, G3, σ3, its3, acc3, a1, a2, a3, a4, a5, a6, a7, a8, a9, a10⟩
            · rename_i hd1
              have hl : xs.length ≤ i := List.getElem?_eq_none_iff.mp hd1
              exact stop ((walk b x vs e1 i).2 (by rw [← rv.length]; exact hl)) (by have hq' : out E0 b (mkLst (acc ++ []) G') Q := hq; rw [List.append_nil] at hq'; exact hq')
          · exact hq.elim
      · exact h.elim
    | fn n0 f =>
      have walk : ∀ b : Wd, Ext a b → ∀ G, Sim b G → ∀ i, (∀ d, f i G = some (some d) → J.go i b.H ∧ ∀ x H', J.yld i b.H x H' → ∃ c : Wd, c.H = H' ∧ Ext b c ∧ Sim c G ∧ Rep c d x) ∧ (f i G = some none → J.stop i b.H) := rJ
      dsimp only at h
      refine compLoop_own (fun m s' => ∃ (i : Nat) (b : Wd) (G' : DH) (σ' : St) (its : List Value) (acc : List D), Inv B [] σ' b.H s' ∧ Ext a b ∧ Sim b G' ∧ RepS b (capS nt caps S) σ' ∧ tn i s'.heap ∧ (∀ q ∈ fp, b.H q = none) ∧ s'.heap.PlainList Dd its.toArray ∧ b.H Dd = none ∧ (∃ vs, Vals vs its ∧ Reps b acc vs) ∧
        out E0 b ((compF f g c te (capS nt caps S) m i G').bind fun ds G => mkLst (acc ++ ds) G) Q) ?_ n0 ⟨0, a, G, σ0, [], [], start _, Ext.refl a, sm, rS0, t1, fp0, hacc, aD, ⟨[], .nil, rfl⟩, by simpa using h⟩
      rintro m s' ⟨i, b, G', σ', its, acc, IB, x, sb, rSb, ti, hfp, pl, hD, hac, hq⟩
      obtain ⟨nD, eD⟩ := pl
      have I0 := pinD IB eD hD
      have f0 := fpB (ps := [(Dd, { cls := .type "list", data := .seq its.toArray nD })]) hfp (fun p hp => by
        have ep : p = (Dd, { cls := .type "list", data := .seq its.toArray nD }) := by simpa using hp
        subst ep
        exact hDf)
      -- the walk stops here
      have stop : J.stop i b.H → out E0 b (mkLst acc G') Q → wpAny (model X.prog X.w) X.A (pyNext (.ref i0)) (fun r s₁ => match r with
          | none => RR (.ref Dd) C (.ok .next) s₁
          | some v => wpAny (model X.prog X.w) X.A (letOwnedTupleGo tg (.ref i0) v) (fun _ s₁ => wpAny (model X.prog X.w) X.A (assign tg B.env v) (fun _ s₂ =>
            wpAny (model X.prog X.w) X.A (forIn ifs true fun c r => if r = true then do let ok ← isTrue c B.env (eval c B.env); pure (ForInStep.yield ok) else pure (ForInStep.yield r)) (fun ok s₃ =>
              if ok = true then wpAny (model X.prog X.w) X.A (eval elt B.env) (fun x s₄ =>
                wpAny (model X.prog X.w) X.A (call (.builtin "list.append") [.ref Dd, x]) (fun _ s₅ => ∃ m', m' < m ∧ ∃ (i : Nat) (b : Wd) (G' : DH) (σ' : St) (its : List Value) (acc : List D), Inv B [] σ' b.H s₅ ∧ Ext a b ∧ Sim b G' ∧ RepS b (capS nt caps S) σ' ∧ tn i s₅.heap ∧ (∀ q ∈ fp, b.H q = none) ∧ s₅.heap.PlainList Dd its.toArray ∧ b.H Dd = none ∧ (∃ vs, Vals vs its ∧ Reps b acc vs) ∧
                  out E0 b ((compF f g c te (capS nt caps S) m' i G').bind fun ds G => mkLst (acc ++ ds) G) Q) (fun _ _ => False) s₄) (fun _ _ => False) s₃
              else ∃ m', m' < m ∧ ∃ (i : Nat) (b : Wd) (G' : DH) (σ' : St) (its : List Value) (acc : List D), Inv B [] σ' b.H s₃ ∧ Ext a b ∧ Sim b G' ∧ RepS b (capS nt caps S) σ' ∧ tn i s₃.heap ∧ (∀ q ∈ fp, b.H q = none) ∧ s₃.heap.PlainList Dd its.toArray ∧ b.H Dd = none ∧ (∃ vs, Vals vs its ∧ Reps b acc vs) ∧
                  out E0 b ((compF f g c te (capS nt caps S) m' i G').bind fun ds G => mkLst (acc ++ ds) G) Q) (fun _ _ => False) s₂) (fun _ _ => False) s₁) (fun _ _ => False) s₁) (fun _ _ => False) s' := by
        intro st hq'
        refine thn (T.done B rfl rfl rfl hc i _ s' σ' b.H _ I0 f0 ti st) ?_
        rintro r s1 ⟨rfl, I2⟩
        have pD := (I2.pin (Dd, { cls := .type "list", data := .seq its.toArray nD }) (List.mem_append_right _ (by simp))).1
        exact fin s1 b σ' its acc G' (I2.pins_of fun p hp => by cases hp) x sb ⟨nD, pD⟩ hD hac hq'
      cases m with
      | zero =>
        unfold compF at hq
        split at hq
        · rename_i hf
          exact stop ((walk b x G' sb i).2 hf) (by have hq' : out E0 b (mkLst (acc ++ []) G') Q := hq; rw [List.append_nil] at hq'; exact hq')
        · exact hq.elim
      | succ m =>
        unfold compF at hq
        split at hq
        · rename_i d1 hf
          obtain ⟨go, yl⟩ := (walk b x G' sb i).1 d1 hf
          refine thn (T.item B rfl rfl rfl hc i _ s' σ' b.H _ I0 f0 ti go) ?_
          rintro r s1 ⟨u, rfl, hgo⟩
          refine thn hgo ?_
          rintro _ s2 ⟨v, H', I2, ru, y, t2, hfp2⟩
          obtain ⟨cc, rfl, xx, ss, rd⟩ := yl v H' y
          have pD := I2.pin (Dd, { cls := .type "list", data := .seq its.toArray nD }) (List.mem_append_right _ (by simp))
          obtain ⟨vs1, hv1, rv1⟩ := hac
          refine turnX _ _ (fun G3 => compF f g c te (capS nt caps S) m (i + 1) G3) s2 cc G' σ' its acc u _ d1 (i + 1) (I2.pins_of fun p hp => by cases hp) (x.trans xx) ss (rSb.mono xx) t2 hfp2 ⟨nD, pD.1⟩ pD.2.1 ⟨vs1, hv1, rv1.mono xx⟩ ru rd (out.mono xx hq) ?_
          intro s3 b3 G3 σ3 its3 acc3 a1 a2 a3 a4 a5 a6 a7 a8 a9 a10
          exact ⟨m, Nat.lt_succ_self _, i + 1, b3, G3, σ3, its3, acc3, a1, a2, a3, a4, a5, a6, a7, a8, a9, a10⟩
        · rename_i hf
          exact stop ((walk b x G' sb i).2 hf) (by have hq' : out E0 b (mkLst (acc ++ []) G') Q := hq; rw [List.append_nil] at hq'; exact hq')
        · exact hq.elim
  exact codeAny_compStart_list (loop _ rfl) (T.self _ 0 _ _ _ (T.keep _ _ _ t0 fun q _ o e => old q o e) (loop _ rfl))
end
end DL
namespace DL
open PySem PySem.Spec L2
open PyProof.Rows hiding St
section
variable {X : Cx} {N : List Str} {scope : Scope} {nt : Nat} {caps : List Nat} {tg elt iter : Expr} {ifs : List Expr} {pos : Pos} {it : DI} {g : DG} {c : DB} {te : DE}
/-- the block's frame is let go -/
theorem letGo {pins : List (Addr × Obj)} {σ : St} {H : Hp} {s2 s' : Shared} {h' : Heap} {C : Addr} {t' : Nat} {σ2 : St} {H2 : Hp} (I2 : Inv X pins σ2 H2 s2) (Ia : Inv X pins σ H s') (hC : s2.heap.objs.size ≤ C) (hn : H C = none) (hsb : Heap.SameBut C s'.heap h') : Inv X pins σ H { s' with heap := h', toks := t' } := by
  have young : ∀ {b : Addr} {o : Obj}, s2.heap.get? b = some o → b ≠ C := fun e z => by rw [z] at e; exact absurd (Nat.lt_of_lt_of_le (Heap.lt_size e) hC) (Nat.lt_irrefl _)
  refine Ia.turned (it := C) (fun b o hb e => (hsb.2 b hb).trans e) hn (Nat.ne_of_gt (Nat.lt_of_lt_of_le I2.lt hC)) (.inr (Nat.le_trans I2.sz hC)) (fun x c' e => ?_) fun p hp => ?_
  · obtain ⟨v, o, e', _⟩ := I2.cell x c' e
    exact young e'
  · exact young (I2.pin p hp).1
theorem qe_comp (hc : X.calm = true) (cs : CompSc X N scope nt caps) (hi : QI X E0 tg iter it)
    (hg : ∀ C s₀ H₀ ex, QG (blk X N scope C s₀ H₀ ex) E0 tg g) (gk : GK nt g) (hts : ∀ C s₀ H₀ ex, QTs (blk X N scope C s₀ H₀ ex) E0 ifs c) (he : ∀ C s₀ H₀ ex, QE (blk X N scope C s₀ H₀ ex) E0 elt te)
    (hs : ∀ x, foldedSetIterable iter X.env x = pure x := by intro _; rfl) : QE X E0 (.ListComp elt [⟨tg, iter, ifs, 0⟩] scope pos) (dComp it nt caps g c te) := by
  intro pins s σ H Q I h
  obtain ⟨a, S, G, hk, rfl, sm, r, h⟩ := h
  rw [eval_ListComp]
  refine wpAny_comprehension_free (use := none) rfl hs (closureFor_eq (cs.cells I.ok)) cs.kind cs.names (thn (hi pins s σ a.H _ I ⟨a, S, G, hk, rfl, sm, r, (out_bindI h).imp fun _ _ z => z⟩) fun xv s1 h1 => thn h1 fun itv s2 h2 => ?_)
  obtain ⟨i0, fp, tn, J, H2, rfl, I2, T, t0, f2, b, d, G1, rfl, x, sb, rJ, _, h1⟩ := h2
  refine comp_core hc cs hg gk hts he I2 (x.k.trans hk) sb (r.mono x) T t0 f2 rJ h1 (RR := fun acc C => compPost (model X.prog X.w) X.A X.xe none (EP X pins σ Q) acc C) ?_
  intro D C s' b vs Ia hD hCle hDC ⟨m, hn⟩ hCn hq
  refine ⟨m, hn, fun h' hsb => ⟨.ref D, _, letGo I2 Ia hCle ?_ hsb, rfl, hq⟩⟩
  rw [upd_ne (Ne.symm hDC)]; exact hCn
/-- name = [..] -/
theorem qs_setComp (i : Nat) {y : Str} {py spos : Pos} (hc : X.calm = true) (hN : X.N.Nodup) (cs : CompSc X N scope nt caps) (hi : QI X E0 tg iter it)
    (hg : ∀ C s₀ H₀ ex, QG (blk X N scope C s₀ H₀ ex) E0 tg g) (gk : GK nt g) (hts : ∀ C s₀ H₀ ex, QTs (blk X N scope C s₀ H₀ ex) E0 ifs c) (he : ∀ C s₀ H₀ ex, QE (blk X N scope C s₀ H₀ ex) E0 elt te)
    (hy : X.N[i]? = some y := by rfl) (hx : Loc X.env.scope y := by first | exact Or.inl rfl | exact Or.inr rfl) (hf : X.fn y = true ∨ X.env.scope.names.lookup y = some .local := by first | exact .inl rfl | exact .inr rfl | assumption)
    (hsw : swapsWith (.ListComp elt [⟨tg, iter, ifs, 0⟩] scope pos) (some (.Name y py)) spos.line X.env = pure true := by rfl)
    (hs : ∀ x, foldedSetIterable iter X.env x = pure x := by intro _; rfl) : QS X E0 (.Assign [.Name y py] (.ListComp elt [⟨tg, iter, ifs, 0⟩] scope pos) spos) (sAs (dComp it nt caps g c te) (gV i)) := by
  intro pins s σ H W I h
  obtain ⟨a, S, G, hk, rfl, sm, r, h⟩ := h
  have h0 := outS_toS h
  rw [exec_Assign_Name_used _ _ _ _ hsw]
  refine wpAny_bind (wpAny_standAt (wpAny_bind ?_))
  show wpAny _ X.A (do let _ ← comprehension (.ListComp elt [⟨tg, iter, ifs, 0⟩] scope pos) scope X.env _ (newList []) false (eval iter X.env) (some (assign (.Name y py) X.env))) _ _ s
  refine wpAny_bind (wpAny_mono (wpAny_comprehension_free (use := some (assign (.Name y py) X.env)) (Q := fun _ s' => SP X pins W .next s') rfl hs (closureFor_eq (cs.cells I.ok)) cs.kind cs.names
    (thn (hi pins s σ a.H _ I ⟨a, S, G, hk, rfl, sm, r, (out_bindI h0).imp fun _ _ z => z⟩) fun xv s1 h1 => thn h1 fun itv s2 h2 => ?_)) (fun _ s' hq => wpAny_pure (wpAny_pure hq)) fun _ _ e => e)
  obtain ⟨i0, fp, tn, J, H2, rfl, I2, T, t0, f2, b, d, G1, rfl, x, sb, rJ, _, h1⟩ := h2
  refine comp_core hc cs hg gk hts he I2 (x.k.trans hk) sb (r.mono x) T t0 f2 rJ h1 (RR := fun acc C => compPost (model X.prog X.w) X.A X.xe (some (assign (.Name y py) X.env)) (fun _ s' => SP X pins W .next s') acc C) ?_
  intro D C s' b' vs Ia hD hCle hDC ⟨m, hn⟩ hCn hq
  show wpAny _ X.A (assign (.Name y py) X.env (.ref D)) _ _ _
  refine wpAny_assign_Name (store_ok2 Ia hN hy hx (v := .ref D) rfl (fun s'' I'' hch => ?_) hf)
  obtain ⟨a', hsb', ha'⟩ := hch
  have hCa : C ≠ a' := by
    rintro rfl
    rcases ha' with rfl | ha'
    · exact absurd (Nat.lt_of_lt_of_le I2.lt hCle) (Nat.lt_irrefl _)
    · obtain ⟨v, o, e', _⟩ := I2.cell _ _ ha'
      exact absurd (Nat.lt_of_lt_of_le (Heap.lt_size e') hCle) (Nat.lt_irrefl _)
  refine ⟨m, hn.sameBut hsb' hCa, fun h' hsb => ⟨_, _, letGo I2 I'' hCle ?_ hsb, ?_⟩⟩
  · rw [upd_ne (Ne.symm hDC)]; exact hCn
  · obtain ⟨b3, d3, G3, e3, x3, s3, q3, _, h3⟩ := hq
    rw [← e3]
    exact h3 b3 _ (Ext.refl b3) s3 ((r.mono x3).set i q3)
end
end DL
namespace DL
open PySem PySem.Spec L2
open PyProof.Rows hiding St
def isNon : D → Bool
  | .non => true
  | _ => false
def opIs : D → D → DH → R D
  | d, .non, G => .ok (.bl (isNon d)) G
  | _, _, _ => .bad
def opIsNot : D → D → DH → R D
  | d, .non, G => .ok (.bl (!isNon d)) G
  | _, _, _ => .bad
section
variable {X : Cx} {E : XK} {a b : Expr} {ta tb : DE} {pos : Pos}
theorem qe_ty {x : Str} {n : String} (hg : Gl X x) (hm : X.mg x = none) (hv : bootBuiltins x = some (.type n)) (hn : x ≠ "__name__" := by decide) (hd : (x == ("__debug__" : Str)) = false := by decide) : QE X E (.Name x pos) (dC (.ty n)) :=
  (pe_bltn (v := .ty n) hg hm hv rfl hn hd).mono fun σ H Q h => lE_ok h fun _ _ => rfl
theorem isNon_rep {a : Wd} {d : D} {x : V} (rd : Rep a d x) : decide (x = V.non) = isNon d := by
  cases d with
  | non => rw [show x = V.non from rd]; rfl
  | bl _ => rw [show x = V.bl _ from rd]; rfl
  | int _ => rw [show x = V.int _ from rd]; rfl
  | str _ => rw [show x = V.str _ from rd]; rfl
  | ty _ => rw [show x = V.ty _ from rd]; rfl
  | tup _ => obtain ⟨p, vs, rfl, _⟩ := rd; rfl
  | fl _ => obtain ⟨p, vs, rfl, _⟩ := rd; rfl
  | ref _ => rw [rd.2]; rfl
theorem o_isnot : OpR X (compareOp .IsNot) (lR2 X.K E opIsNot) := opII op_notN fun a G d e x y Q hk s rd re q => by
  cases e with
  | non => exact ⟨re, by rw [isNon_rep rd]; cases d <;> exact q a _ (Ext.refl a) s rfl⟩
  | _ => cases d <;> exact q.elim
end
/-! ### a module's facts -/
theorem boot_isinstance' : bootBuiltins "isinstance" = some (.builtin "isinstance") := by decide +kernel
theorem boot_sum' : bootBuiltins "sum" = some (.builtin "sum") := by decide +kernel
theorem boot_max' : bootBuiltins "max" = some (.builtin "max") := by decide +kernel
theorem boot_min' : bootBuiltins "min" = some (.builtin "min") := by decide +kernel
theorem boot_len' : bootBuiltins "len" = some (.builtin "len") := by decide +kernel
theorem boot_int' : bootBuiltins "int" = some (.type "int") := by decide +kernel
theorem boot_bool' : bootBuiltins "bool" = some (.type "bool") := by decide +kernel
theorem boot_list' : bootBuiltins "list" = some (.type "list") := by decide +kernel
end DL
namespace DL
open PySem PySem.Spec L2
open PyProof.Rows hiding St
def kLocal : NameKind → Bool | .local => true | _ => false
def kCell : NameKind → Bool | .cell => true | _ => false
def kFree : NameKind → Bool | .free => true | _ => false
def isK (p : NameKind → Bool) : Option NameKind → Bool | some k => p k | none => false
theorem kLocal_eq {k : NameKind} (h : kLocal k = true) : k = .local := by cases k <;> first | rfl | cases h
theorem kCell_eq {k : NameKind} (h : kCell k = true) : k = .cell := by cases k <;> first | rfl | cases h
theorem kFree_eq {k : NameKind} (h : kFree k = true) : k = .free := by cases k <;> first | rfl | cases h
theorem isK_eq {p : NameKind → Bool} {k : NameKind} (hp : ∀ k', p k' = true → k' = k) {o : Option NameKind} (h : isK p o = true) : o = some k := by
  cases o with
  | none => cases h
  | some k' => rw [hp _ h]
def compOk (dn : List (Str × NameKind)) (N0 N : List Str) (names : List (Str × NameKind)) (nt : Nat) (caps : List Nat) : Bool :=
  names.all (fun y => (!kLocal y.2 || isK kLocal (names.lookup y.1)) && !kCell y.2 && (!kFree y.2 || isK kCell (dn.lookup y.1) || isK kFree (dn.lookup y.1))) && decide N.Nodup && decide (N.length = nt + caps.length) &&
  (List.range caps.length).all fun k => match caps[k]? with
    | some j => match N0[j]? with
      | some x => decide (N[nt + k]? = some x) && isK kFree (names.lookup x)
      | none => false
    | none => true
theorem compSc {X : Cx} {N0 N : List Str} {scope : Scope} {nt : Nat} {caps : List Nat} {dn : List (Str × NameKind)} (hk : scope.kind = .function := by rfl) (hdn : ∀ x, X.env.kindOf x = dn.lookup x := by intro _; rfl) (hN : X.N = N0 := by rfl)
    (h : compOk dn N0 N scope.names nt caps = true := by decide +kernel) : CompSc X N scope nt caps := by
  unfold compOk at h
  rw [Bool.and_eq_true, Bool.and_eq_true, Bool.and_eq_true] at h
  obtain ⟨⟨⟨h1, h2⟩, h3⟩, h4⟩ := h
  rw [List.all_eq_true] at h1 h4
  have key := fun (y : Str × NameKind) (hy : y ∈ scope.names) => (by
    have := h1 y hy
    rw [Bool.and_eq_true, Bool.and_eq_true] at this
    exact this : ((!kLocal y.2 || isK kLocal (scope.names.lookup y.1)) = true ∧ (!kCell y.2) = true) ∧ (!kFree y.2 || isK kCell (dn.lookup y.1) || isK kFree (dn.lookup y.1)) = true)
  refine ⟨hk, fun y hy hl => ?_, fun y hy hl => ?_, fun y hy hl => ?_, of_decide_eq_true h2, of_decide_eq_true h3, fun k j hj => ?_⟩
  · have := (key y hy).1.1
    rw [hl] at this
    exact isK_eq (p := kLocal) (fun _ h => kLocal_eq h) (by have t : (false || isK kLocal (scope.names.lookup y.1)) = true := this; simpa using t)
  · have := (key y hy).1.2
    rw [hl] at this
    exact absurd this (by decide)
  · have := (key y hy).2
    rw [hl, Bool.or_eq_true] at this
    rw [hdn]
    rcases this with h | h
    · exact .inl (isK_eq (p := kCell) (fun _ h => kCell_eq h) (by have t : (false || isK kCell (dn.lookup y.1)) = true := h; simpa using t))
    · exact .inr (isK_eq (p := kFree) (fun _ h => kFree_eq h) h)
  · have hk' : k < caps.length := (List.getElem?_eq_some_iff.mp hj).1
    have := h4 k (List.mem_range.mpr hk')
    rw [hj] at this
    dsimp only at this
    cases e : N0[j]? with
    | none => rw [e] at this; cases this
    | some x =>
      rw [e] at this
      dsimp only at this
      rw [Bool.and_eq_true] at this
      exact ⟨x, by rw [hN]; exact e, of_decide_eq_true this.1, isK_eq (p := kFree) (fun _ h => kFree_eq h) this.2⟩
end DL
namespace DL
open PySem PySem.Spec L2
open PyProof.Rows hiding St
/-! ### lists that are not written any more become values -/
section
variable {X : Cx} {pins : List (Addr × Obj)} {σ : St} {H : Hp} {s : Shared}
theorem inv_freeze {p : Addr} {xs : List V} (I : Inv X pins σ H s) (h : H p = some (.lst xs)) : ∃ o, Inv X pins σ (upd H p (.frz o (.lst xs))) s := by
  obtain ⟨hl, its, n, r, e⟩ := I.hok p _ h
  have nt : ∀ b (u : HO), H b = some u → u ≠ .lst xs → b ≠ p := fun b u q d z => by subst z; rw [h] at q; exact d (Option.some.inj q).symm
  refine ⟨_, I.un (t' := s.toks) (H' := upd H p (.frz { cls := .type "list", data := .seq its.toArray n } (.lst xs))) ⟨fun b o q _ _ _ => q, fun b o q _ _ _ => ⟨o.slots, q⟩, fun b o q z _ => ?_, fun b o q _ => ⟨o, q⟩, fun b ys q => ?_, fun b o u q => ?_, fun b ps q => ⟨#[], ?_⟩⟩ ?_⟩
  · rw [upd_ne (fun z' => by subst z'; rw [h] at z; cases z)]; exact z
  · rw [upd_ne (nt b _ q (by intro z; cases z))]; exact q
  · rw [upd_ne (nt b _ q (by intro z; cases z))]; exact q
  · rw [upd_ne (nt b _ q (by intro z; cases z)), Array.append_empty]; exact q
  · intro b u q
    by_cases hb : b = p
    · subst hb
      rw [upd_same] at q
      cases q
      exact ⟨e, hl, its, n, r, e⟩
    · rw [upd_ne hb] at q
      exact (I.hok b u q).stay (fun c v _ z => z) (fun c z => by rw [upd_ne (nt c _ z (by intro z; cases z))]; exact z) fun c ys z => by rw [upd_ne (nt c _ z (by intro z; cases z))]; exact z
/-- H' is H with some lists frozen -/
def Fz (P : Addr → Prop) (H H' : Hp) : Prop := ∀ p, (H' p = H p ∧ (∀ vs, H p = some (.lst vs) → ¬ P p)) ∨ ∃ o vs, P p ∧ H p = some (.lst vs) ∧ H' p = some (.frz o (.lst vs))
theorem freeze_all (I : Inv X pins σ H s) (m : Nat → Addr) (n : Nat) : ∀ k : Nat, ∃ H', Inv X pins σ H' s ∧ Fz (fun p => ∃ i, n ≤ i ∧ i < n + k ∧ p = m i) H H'
  | 0 => ⟨H, I, fun p => .inl ⟨rfl, fun _ _ ⟨i, h1, h2, _⟩ => by omega⟩⟩
  | k + 1 => by
    obtain ⟨H', I', F⟩ := freeze_all I m n k
    have keep : (∀ vs, H' (m (n + k)) ≠ some (.lst vs)) → Fz (fun p => ∃ i, n ≤ i ∧ i < n + (k + 1) ∧ p = m i) H H' := fun no p => by
      rcases F p with ⟨e, z⟩ | ⟨o, vs, ⟨i, h1, h2, h3⟩, e1, e2⟩
      · refine .inl ⟨e, fun vs e1 ⟨i, h1, h2, h3⟩ => ?_⟩
        by_cases hi : i < n + k
        · exact z vs e1 ⟨i, h1, hi, h3⟩
        · have : i = n + k := by omega
          subst this
          subst h3
          exact no vs (e.trans e1)
      · exact .inr ⟨o, vs, ⟨i, h1, by omega, h3⟩, e1, e2⟩
    cases hH : H' (m (n + k)) with
    | none => exact ⟨H', I', keep fun vs z => by rw [hH] at z; cases z⟩
    | some u =>
      cases u with
      | lst vs =>
        obtain ⟨o, I2⟩ := inv_freeze I' hH
        refine ⟨_, I2, fun p => ?_⟩
        by_cases hp : p = m (n + k)
        · subst hp
          rcases F (m (n + k)) with ⟨e, z⟩ | ⟨o', vs', _, e1, e2⟩
          · exact .inr ⟨o, vs, ⟨n + k, by omega, by omega, rfl⟩, e.symm.trans hH, upd_same⟩
          · rw [hH] at e2; cases e2
        · rcases F p with ⟨e, z⟩ | ⟨o', vs', ⟨i, h1, h2, h3⟩, e1, e2⟩
          · refine .inl ⟨by rw [upd_ne hp]; exact e, fun vs' e1 ⟨i, h1, h2, h3⟩ => ?_⟩
            by_cases hi : i < n + k
            · exact z vs' e1 ⟨i, h1, hi, h3⟩
            · have : i = n + k := by omega
              subst this
              exact hp h3
          · exact .inr ⟨o', vs', ⟨i, h1, by omega, h3⟩, e1, by rw [upd_ne hp]; exact e2⟩
      | _ => exact ⟨H', I', keep fun vs z => by rw [hH] at z; cases z⟩
end
def mapO (f : D → Option D) : List D → Option (List D)
  | [] => some []
  | d :: r => match f d, mapO f r with
    | some d', some r' => some (d' :: r')
    | _, _ => none
/-- a value whose lists from n on are values -/
def frzD (G : DH) (n : Nat) : Nat → D → Option D
  | 0, _ => none
  | k + 1, d => if bel n d = true then some d else match d with
    | .ref i => match G[i]? with
      | some (.lst xs) => (mapO (frzD G n k) xs).map .fl
      | _ => none
    | .tup xs => (mapO (frzD G n k) xs).map .tup
    | .fl xs => (mapO (frzD G n k) xs).map .fl
    | _ => none
open Classical in
noncomputable def freeze (G : DH) (r : R D) : R D := match r with
  | .ok d G' => if G'.take G.length = G then (match frzD G' G.length 9 d with
      | some d' => .ok d' G
      | none => .ok d G') else .ok d G'
  | r => r
noncomputable def dFrz (t : DE) : DE := fun S G => freeze G (t S G)
/-- c is b with fewer objects and some lists frozen -/
structure CutF (b c : Wd) (n : Nat) : Prop where
  k : c.K = b.K
  n : c.n = n
  m : c.m = b.m
  tup : ∀ p xs, b.H p = some (.tup xs) → c.H p = some (.tup xs)
  frz : ∀ p o u, b.H p = some (.frz o u) → c.H p = some (.frz o u)
theorem CutF.sqT {b c : Wd} {n : Nat} (x : CutF b c n) {p : Addr} {xs : List V} (h : SqT b.K b.H p xs) : SqT c.K c.H p xs := by
  rcases h with (h | ⟨o, h⟩) | h
  · exact .inl (.inl (x.tup _ _ h))
  · exact .inl (.inr ⟨o, x.frz _ _ _ h⟩)
  · exact .inr (by rw [x.k]; exact h)
theorem CutF.fzL {b c : Wd} {n : Nat} (x : CutF b c n) {p : Addr} {xs : List V} (h : FzL b.K b.H p xs) : FzL c.K c.H p xs := by
  rcases h with ⟨o, h⟩ | h
  · exact .inl ⟨o, x.frz _ _ _ h⟩
  · exact .inr (by rw [x.k]; exact h)
mutual
theorem Rep.cutF {b c : Wd} {n : Nat} (x : CutF b c n) : ∀ {d : D} {v : V}, Rep b d v → bel n d = true → Rep c d v
  | .non, _, h, _ => h
  | .bl _, _, h, _ => h
  | .int _, _, h, _ => h
  | .str _, _, h, _ => h
  | .ty _, _, h, _ => h
  | .tup ds, v, h, q => by
    obtain ⟨p, vs, e, t, r⟩ := h
    simp only [DL.bel] at q
    exact ⟨p, vs, e, x.sqT t, Reps.cutF x r q⟩
  | .fl ds, v, h, q => by
    obtain ⟨p, vs, e, t, r⟩ := h
    simp only [DL.bel] at q
    exact ⟨p, vs, e, x.fzL t, Reps.cutF x r q⟩
  | .ref i, v, h, q => by
    obtain ⟨l, e⟩ := h
    simp only [DL.bel] at q
    have q' := of_decide_eq_true q
    exact ⟨by rw [x.n]; exact q', by rw [x.m]; exact e⟩
theorem Reps.cutF {b c : Wd} {n : Nat} (x : CutF b c n) : ∀ {ds : List D} {vs : List V}, Reps b ds vs → bels n ds = true → Reps c ds vs
  | [], _, h, _ => h
  | d :: ds, vs, h, q => by
    obtain ⟨v, r, e, h1, h2⟩ := h
    simp only [DL.bels, Bool.and_eq_true] at q
    exact ⟨v, r, e, Rep.cutF x h1 q.1, Reps.cutF x h2 q.2⟩
end
theorem mapO_rep {b c : Wd} {f : D → Option D} (hf : ∀ d d' v, f d = some d' → Rep b d v → Rep c d' v) : ∀ {ds ds' : List D} {vs : List V}, mapO f ds = some ds' → Reps b ds vs → Reps c ds' vs
  | [], ds', vs, e, h => by cases e; exact h
  | d :: ds, ds', vs, e, h => by
    obtain ⟨v, r, rfl, h1, h2⟩ := h
    unfold mapO at e
    split at e
    · rename_i d' r' e1 e2
      cases e
      exact ⟨v, r, rfl, hf _ _ _ e1 h1, mapO_rep hf e2 h2⟩
    · cases e
theorem frzD_rep {b c : Wd} {G' : DH} {n : Nat} (s : Sim b G') (x : CutF b c n) (hz : ∀ i, n ≤ i → i < b.n → ∀ vs, b.H (b.m i) = some (.lst vs) → ∃ o, c.H (b.m i) = some (.frz o (.lst vs))) : ∀ (k : Nat) (d d' : D) (v : V), frzD G' n k d = some d' → Rep b d v → Rep c d' v
  | 0, d, d', v, e, h => by cases e
  | k + 1, d, d', v, e, h => by
    have ih := frzD_rep s x hz k
    unfold frzD at e
    split at e
    · rename_i hb
      cases e
      exact h.cutF x hb
    · rename_i hb
      cases d with
      | ref i =>
        dsimp only at e
        split at e
        · rename_i xs hx
          rw [Option.map_eq_some_iff] at e
          obtain ⟨ys, e1, rfl⟩ := e
          obtain ⟨vs, e2, r2⟩ := s.obj i _ hx
          obtain ⟨il, rfl⟩ := h
          have hi : n ≤ i := by
            simp only [DL.bel, decide_eq_true_eq] at hb
            omega
          obtain ⟨o, e3⟩ := hz i hi il vs e2
          exact ⟨_, vs, rfl, .inl ⟨o, e3⟩, mapO_rep ih e1 r2⟩
        · cases e
      | tup xs =>
        dsimp only at e
        rw [Option.map_eq_some_iff] at e
        obtain ⟨ys, e1, rfl⟩ := e
        obtain ⟨p, vs, rfl, t, r⟩ := h
        exact ⟨p, vs, rfl, x.sqT t, mapO_rep ih e1 r⟩
      | fl xs =>
        dsimp only at e
        rw [Option.map_eq_some_iff] at e
        obtain ⟨ys, e1, rfl⟩ := e
        obtain ⟨p, vs, rfl, t, r⟩ := h
        exact ⟨p, vs, rfl, x.fzL t, mapO_rep ih e1 r⟩
      | _ => cases e
theorem freeze_core {X : Cx} {pins : List (Addr × Obj)} {σ : St} {sh : Shared} {a b : Wd} {G G' : DH} (s : Sim a G) (hG : G'.take G.length = G) (x : Ext a b) (sb : Sim b G') (I : Inv X pins σ b.H sh) :
    ∃ c : Wd, Inv X pins σ c.H sh ∧ Ext a c ∧ Sim c G ∧ CutF b c a.n ∧ ∀ (k : Nat) (d d' : D) (v : V), frzD G' G.length k d = some d' → Rep b d v → Rep c d' v := by
  have hlen : ∀ i o, G[i]? = some o → G'[i]? = some o := fun i o e => by
    have hi : i < G.length := (List.getElem?_eq_some_iff.mp e).1
    rw [← hG, List.getElem?_take_of_lt hi] at e
    exact e
  obtain ⟨H', I', F⟩ := freeze_all I b.m a.n (b.n - a.n)
  have hbn : a.n + (b.n - a.n) = b.n := by have := x.n; omega
  rw [hbn] at F
  have ct : ∀ p (u : HO), (∀ vs, u ≠ .lst vs) → b.H p = some u → H' p = some u := fun p u nu e => by
    rcases F p with ⟨e1, _⟩ | ⟨o, vs, _, e1, _⟩
    · exact e1.trans e
    · rw [e] at e1
      exact absurd (Option.some.inj e1) (nu vs)
  have cc : CutF b ⟨b.K, a.n, b.m, H'⟩ a.n := ⟨rfl, rfl, rfl, fun p xs e => ct p _ (by intro _ z; cases z) e, fun p o u e => ct p _ (by intro _ z; cases z) e⟩
  have old : ∀ i, i < a.n → H' (b.m i) = b.H (b.m i) := fun i hi => by
    rcases F (b.m i) with ⟨e1, _⟩ | ⟨o, vs, ⟨j, h1, h2, h3⟩, e1, e2⟩
    · exact e1
    · have := sb.inj i j (Nat.lt_of_lt_of_le hi x.n) h2 h3
      omega
  refine ⟨⟨b.K, a.n, b.m, H'⟩, I', ⟨x.k, Nat.le_refl _, x.m, fun p xs e => cc.tup p xs (x.tup p xs e), fun p o u e => cc.frz p o u (x.frz p o u e)⟩, ⟨s.len, fun i j hi hj => sb.inj i j (Nat.lt_of_lt_of_le hi x.n) (Nat.lt_of_lt_of_le hj x.n), fun i o e => ?_, fun i hi => ?_⟩, cc, fun k d d' v hd rb => ?_⟩
  · show ORep ⟨b.K, a.n, b.m, H'⟩ o (H' (b.m i))
    rw [old i (s.lt e)]
    have q := sb.obj i o (hlen i o e)
    have lb := (s.obj i o e).belO
    cases o with
    | lst ds => obtain ⟨vs, e1, r1⟩ := q; exact ⟨vs, e1, r1.cutF cc lb⟩
    | dct kvs => obtain ⟨us, e1, k1, r1⟩ := q; exact ⟨us, e1, k1, r1.cutF cc lb⟩
    | gone => trivial
  · show H' (b.m i) ≠ none
    rw [old i hi]
    exact sb.tr i (Nat.lt_of_lt_of_le hi x.n)
  · rw [s.len] at hd
    refine frzD_rep sb cc (fun i h1 h2 vs e => ?_) k d d' v hd rb
    rcases F (b.m i) with ⟨e1, z⟩ | ⟨o, vs', _, e1, e2⟩
    · exact absurd ⟨i, h1, h2, rfl⟩ (z vs e)
    · rw [e] at e1; cases e1; exact ⟨o, e2⟩
/-- what is wanted of a value whose lists may be frozen -/
theorem frz_post {X : Cx} {E : XK} {a : Wd} {G : DH} {r : R D} {Q : VK} (s : Sim a G) (h : out E a (freeze G r) Q) :
    out E a r fun v H => ∀ (pins : List (Addr × Obj)) (σ : St) (sh : Shared), Inv X pins σ H sh → ∃ H', Inv X pins σ H' sh ∧ Q v H' := by
  cases r with
  | err e G' => exact h
  | bad => exact h
  | ok d G' =>
    intro b v x sb rb pins σ sh I
    unfold freeze at h
    dsimp only at h
    split at h
    · rename_i hG
      split at h
      · rename_i d' hd
        obtain ⟨c, Ic, xc, sc, cc, hr⟩ := freeze_core s hG x sb I
        exact ⟨c.H, Ic, h c v xc sc (hr _ _ _ _ hd rb)⟩
      · exact ⟨_, I, h b v x sb rb⟩
    · exact ⟨_, I, h b v x sb rb⟩
theorem qe_frz {X : Cx} {E : XK} {e : Expr} {t : DE} (ha : QE X E e t) : QE X E e (dFrz t) := fun pins s σ H Q I h => by
  obtain ⟨a, S, G, hk, rfl, sm, r, h⟩ := h
  refine thn (ha pins s σ a.H _ I ⟨a, S, G, hk, rfl, sm, r, frz_post (X := X) sm h⟩) fun u s' ⟨v, H', I', rv, q⟩ => ?_
  obtain ⟨H2, I2, q2⟩ := q pins σ s' I'
  exact ⟨v, H2, I2, rv, q2⟩
end DL
namespace DL
open PySem PySem.Spec L2
open PyProof.Rows hiding St
/-! ### running the functions over plain data, step by step -/
section
variable {S : DSt} {G : DH}
@[simp] theorem ev_V {i : Nat} : dV i S G = (match S[i]? with | some (some d) => .ok d G | _ => .bad) := id rfl
@[simp] theorem ev_C {d : D} : dC d S G = .ok d G := id rfl
@[simp] theorem ev_Op {f : D → D → DH → R D} {a b : DE} : dOp f a b S G = (a S G).bind fun x G1 => (b S G1).bind fun y G2 => f x y G2 := id rfl
@[simp] theorem ev_Nil : dNil S G = .ok [] G := id rfl
@[simp] theorem ev_Cons {a : DE} {r : DA} : dCons a r S G = (a S G).bind fun x G1 => (r S G1).bind fun xs G2 => .ok (x :: xs) G2 := id rfl
@[simp] theorem ev_Fn {f : List D → DH → R D} {t : DA} : dFn f t S G = (t S G).bind f := id rfl
@[simp] theorem ev_Tidy {t : DE} : dTidy t S G = tidy G (t S G) := id rfl
@[simp] theorem ev_Frz {t : DE} : dFrz t S G = freeze G (t S G) := id rfl
@[simp] theorem ev_asB {k : Bool} : asB (.bl k) G = .ok k G := id rfl
@[simp] theorem ev_Tst {t : DE} : dTst t S G = (t S G).bind asB := id rfl
@[simp] theorem ev_Or {t u : DB} : dOr t u S G = (t S G).bind fun k G1 => if k = true then .ok true G1 else u S G1 := id rfl
@[simp] theorem ev_Not {t : DB} : dNot t S G = (t S G).bind fun k G1 => .ok (!k) G1 := id rfl
@[simp] theorem ev_AndV {t u : DE} : dAndV t u S G = (t S G).bind fun x G1 => (asB x G1).bind fun k G2 => if k = true then u S G2 else .ok (.bl false) G2 := id rfl
@[simp] theorem ev_OrV {t u : DE} : dOrV t u S G = (t S G).bind fun x G1 => (asB x G1).bind fun k G2 => if k = true then .ok (.bl true) G2 else u S G2 := id rfl
@[simp] theorem ev_Chain {f g : D → D → DH → R D} {a b c : DE} : dChain f g a b c S G = (a S G).bind fun x G1 => (b S G1).bind fun y G2 => (f x y G2).bind fun z G3 => (asB z G3).bind fun k G4 =>
  if k = true then (c S G4).bind fun w G5 => g y w G5 else .ok (.bl false) G4 := id rfl
@[simp] theorem ev_sNx : sNx S G = .nx S G := id rfl
/-- a statement, then the rest -/
def SR.then (r : SR) (u : DS) : SR := match r with
  | .nx S1 G1 => u S1 G1
  | r => r
@[simp] theorem ev_sSeq {t u : DS} : sSeq t u S G = (t S G).then u := id rfl
@[simp] theorem then_nx {u : DS} : (SR.nx S G).then u = u S G := id rfl
@[simp] theorem then_rt {u : DS} {d : D} : (SR.rt d G).then u = .rt d G := id rfl
@[simp] theorem ev_sEx {t : DE} : sEx t S G = (t S G).toS fun _ G1 => .nx S G1 := id rfl
@[simp] theorem ev_sRt {t : DE} : sRt t S G = (t S G).toS fun d G1 => .rt d G1 := id rfl
@[simp] theorem ev_sIf {c : DB} {t u : DS} : sIf c t u S G = (c S G).toS fun k G1 => if k = true then t S G1 else u S G1 := id rfl
@[simp] theorem ev_sAs {t : DE} {g : DG} : sAs t g S G = (t S G).toS fun d G1 => (g d S G1).toS fun S2 G2 => .nx S2 G2 := id rfl
@[simp] theorem ev_sFor {it : DI} {g : DG} {b : DS} : sFor it g b S G = (it S G).toS fun J G1 => (match J with
  | .pure xs => forP g b xs S G1
  | .mt i => match G1[i]? with
    | some (.lst xs) => forM i g b xs.length 0 S G1
    | _ => .bad
  | .fn n f => forF f g b n 0 S G1) := id rfl
@[simp] theorem ev_iSeq {t : DE} : iSeq t S G = (t S G).bind itSeq := id rfl
@[simp] theorem ev_iRng {f : List D → DH → R ItD} {t : DA} : iRng f t S G = (t S G).bind f := id rfl
@[simp] theorem ev_gV {i : Nat} {d : D} : gV i d S G = .ok (S.set i (some d)) G := id rfl
@[simp] theorem ev_gNil : gNil' [] S G = .ok S G := id rfl
@[simp] theorem ev_gCons {t : DG} {u : DGs} {d : D} {r : List D} : gCons' t u (d :: r) S G = (t d S G).bind fun S1 G1 => u r S1 G1 := id rfl
@[simp] theorem ev_gTup {n : Nat} {t : DGs} {ds : List D} : gTup' n t (.tup ds) S G = if ds.length = n then t ds S G else .bad := id rfl
@[simp] theorem ev_gIx {o i : DE} {v : D} : gIx o i v S G = (o S G).bind fun o G1 => (i S G1).bind fun i G2 => (setIx o i v G2).bind fun _ G3 => .ok S G3 := id rfl
@[simp] theorem ev_MtL {f : D → List D → DH → R D} {o : DE} {t : DA} : dMtL f o t S G = (o S G).bind fun x G1 => if isL x G1 = true then (t S G1).bind fun xs G2 => f x xs G2 else .bad := id rfl
@[simp] theorem ev_Comp {it : DI} {nt : Nat} {caps : List Nat} {g : DG} {c : DB} {te : DE} : dComp it nt caps g c te S G = (it S G).bind fun J G1 => (match J with
  | .pure xs => compP g c te (capS nt caps S) xs G1
  | .mt i => match G1[i]? with
    | some (.lst xs) => compM i g c te (capS nt caps S) xs.length 0 G1
    | _ => .bad
  | .fn n f => compF f g c te (capS nt caps S) n 0 G1).bind mkLst := id rfl
@[simp] theorem aft_nx {k : DSt → DH → SR} : aft (.nx S G) k = k S G := id rfl
theorem forP_nil {g : DG} {b : DS} : forP g b [] S G = .nx S G := id rfl
theorem forP_cons {g : DG} {b : DS} {x : D} {xs : List D} : forP g b (x :: xs) S G = (g x S G).toS fun S1 G1 => aft (b S1 G1) (forP g b xs) := id rfl
theorem compP_cons {g : DG} {c : DB} {te : DE} {x : D} {xs : List D} : compP g c te S (x :: xs) G = (g x S G).bind fun S1 G1 => (c S1 G1).bind fun k G2 =>
      if k = true then (te S1 G2).bind fun d G3 => (compP g c te S xs G3).bind fun ds G4 => .ok (d :: ds) G4 else compP g c te S xs G2 := id rfl
/-- the end of a def's run -/
def SR.ret (r : SR) : R D := match r with
  | .nx _ G' => .ok .non G'
  | .rt d G' => .ok d G'
  | .err x G' => .err x G'
  | _ => .bad
@[simp] theorem ret_rt {d : D} : (SR.rt d G).ret = .ok d G := id rfl
theorem ev_run {np nl : Nat} {b : DS} {ds : List D} : runF np nl b ds G = if ds.length = np then tidy G (b (ds.map some ++ List.replicate nl none) G).ret else .bad := id rfl
end
/-! values without refs -/
section
variable {n : Nat} {G : DH}
@[simp] theorem bel_bl {b : Bool} : bel n (.bl b) = true := by simp [DL.bel]
@[simp] theorem bel_int {b : Int} : bel n (.int b) = true := by simp [DL.bel]
@[simp] theorem bel_tup {b : List D} : bel n (.tup b) = bels n b := by simp [DL.bel]
@[simp] theorem bel_fl {b : List D} : bel n (.fl b) = bels n b := by simp [DL.bel]
@[simp] theorem bel_ref {b : Nat} : bel n (.ref b) = decide (b < n) := by simp [DL.bel]
@[simp] theorem bels_nil : bels n [] = true := by simp [DL.bels]
@[simp] theorem bels_cons {d : D} {ds : List D} : bels n (d :: ds) = (bel n d && bels n ds) := by simp [DL.bels]
theorem bels_iff {ds : List D} : bels n ds = true ↔ ∀ d ∈ ds, bel n d = true := by
  induction ds with
  | nil => simp
  | cons d ds ih => simp [ih]
theorem bels_map {α : Type} {f : α → D} {xs : List α} (h : ∀ x ∈ xs, bel n (f x) = true) : bels n (xs.map f) = true := by
  rw [bels_iff]
  intro d hd
  obtain ⟨x, hx, rfl⟩ := List.mem_map.mp hd
  exact h x hx
/-! the old objects are there -/
theorem tidy_same {d : D} (h : bel G.length d = true) : tidy G (.ok d G) = .ok d G := by
  unfold tidy
  simp [h]
theorem tidy_pure {d : D} {L : DH} (h : bel G.length d = true) : tidy G (.ok d (G ++ L)) = .ok d G := by
  unfold tidy
  simp [h]
theorem tidy_new {ds : List D} (L : DH) {k : Nat} (hk : L[k]? = some (.lst ds)) (h : bels G.length ds = true) : tidy G (.ok (.ref (G.length + k)) (G ++ L)) = .ok (.ref G.length) (G ++ [.lst ds]) := by
  unfold tidy
  have e : (G ++ L)[G.length + k]? = some (.lst ds) := by rw [List.getElem?_append_right (by omega)]; simpa using hk
  simp [e, belO, h]
theorem tidy_new0 {ds : List D} {L : DH} (h : bels G.length ds = true) : tidy G (.ok (.ref G.length) (G ++ .lst ds :: L)) = .ok (.ref G.length) (G ++ [.lst ds]) := tidy_new (.lst ds :: L) (k := 0) rfl h
theorem mapO_bel {n : Nat} {G' : DH} {k : Nat} : ∀ {ds : List D}, bels n ds = true → mapO (frzD G' n (k + 1)) ds = some ds
  | [], _ => rfl
  | d :: ds, h => by
    simp only [bels_cons, Bool.and_eq_true] at h
    unfold mapO
    rw [mapO_bel h.2]
    simp [frzD, h.1]
theorem freeze_new {ds : List D} (L : DH) {k : Nat} (hk : L[k]? = some (.lst ds)) (h : bels G.length ds = true) : freeze G (.ok (.ref (G.length + k)) (G ++ L)) = .ok (.fl ds) G := by
  unfold freeze
  have e : (G ++ L)[G.length + k]? = some (.lst ds) := by rw [List.getElem?_append_right (by omega)]; simpa using hk
  have m : frzD (G ++ L) G.length 9 (.ref (G.length + k)) = some (.fl ds) := by
    unfold frzD
    simp [e, mapO_bel h]
  simp [m]
theorem freeze_new0 {ds : List D} {L : DH} (h : bels G.length ds = true) : freeze G (.ok (.ref G.length) (G ++ .lst ds :: L)) = .ok (.fl ds) G := freeze_new (.lst ds :: L) (k := 0) rfl h
/-! the heap -/
theorem hp_get (L : DH) (k : Nat) : (G ++ L)[G.length + k]? = L[k]? := by rw [List.getElem?_append_right (by omega)]; simp
theorem hp_get0 (L : DH) : (G ++ L)[G.length]? = L[0]? := hp_get L 0
theorem hp_set (L : DH) (k : Nat) (o : DO) : (G ++ L).set (G.length + k) o = G ++ L.set k o := by rw [List.set_append_right _ _ (by omega)]; simp
theorem hp_set0 (L : DH) (o : DO) : (G ++ L).set G.length o = G ++ L.set 0 o := hp_set L 0 o
theorem rngD_zero {lo : Int} : rngD lo 0 = [] := id rfl
theorem rngD_succ {lo : Int} {n : Nat} : rngD lo (n + 1) = .int lo :: rngD (lo + 1) n := by
  unfold rngD
  rw [List.range_succ_eq_map, List.map_cons, List.map_map]
  congr 1
  · simp
  · apply List.map_congr_left
    intro k _
    simp only [Function.comp]
    congr 1
    omega
end
/-! operations -/
section
variable {G : DH} {i j : Int} {x y : Str} {k l : Bool}
@[simp] theorem ev_add : opAdd (.int i) (.int j) G = .ok (.int (i + j)) G := id rfl
@[simp] theorem ev_ip : ipAdd (.int i) (.int j) G = .ok (.int (i + j)) G := id rfl
@[simp] theorem ev_sub : opSub (.int i) (.int j) G = .ok (.int (i - j)) G := id rfl
theorem log2_small {n : Nat} (h : n < 10 ^ 100) : n.log2 < 9000 := by
  by_cases hn : n = 0
  · subst hn; decide
  · rw [Nat.log2_lt hn]
    exact Nat.lt_trans h (by decide)
@[simp] theorem ev_divO {n : Nat} [NeZero n] (h : n < 10 ^ 100) : opDiv (.int i) (.int (no_index (OfNat.ofNat n))) G = .ok (.int (i / OfNat.ofNat n)) G :=
  if_pos ⟨Int.ofNat_lt.mpr (Nat.pos_of_ne_zero (NeZero.ne n)), log2_small h⟩
@[simp] theorem ev_mod : opMod (.int i) (.int j) G = if 0 < j then .ok (.int (i % j)) G else .bad := id rfl
@[simp] theorem ev_pow : opPow (.int i) (.int j) G = if 0 ≤ j ∧ j ≤ 1000000 ∧ i.natAbs < 18446744073709551616 then .ok (.int (i ^ j.toNat)) G else .bad := id rfl
@[simp] theorem ev_lt : opLt (.int i) (.int j) G = .ok (.bl (decide (i < j))) G := id rfl
@[simp] theorem ev_le : opLe (.int i) (.int j) G = .ok (.bl (decide (i ≤ j))) G := id rfl
@[simp] theorem ev_gt : opGt (.int i) (.int j) G = .ok (.bl (decide (j < i))) G := id rfl
@[simp] theorem ev_ge : opGe (.int i) (.int j) G = .ok (.bl (decide (j ≤ i))) G := id rfl
@[simp] theorem ev_eq : opEq (.int i) (.int j) G = .ok (.bl (decide (i = j))) G := id rfl
@[simp] theorem ev_ne : opNe (.int i) (.int j) G = .ok (.bl (!decide (i = j))) G := id rfl
@[simp] theorem ev_isnot {d : D} : opIsNot d .non G = .ok (.bl (!isNon d)) G := by cases d <;> exact id rfl
@[simp] theorem isNon_non : isNon .non = true := id rfl
@[simp] theorem isNon_int : isNon (.int i) = false := id rfl
@[simp] theorem ev_max : fMax [.int i, .int j] G = .ok (.int (max i j)) G := by
  show R.ok (D.int (if j > i then j else i)) G = _
  congr 2
  split <;> omega
@[simp] theorem ev_min : fMin [.int i, .int j] G = .ok (.int (min i j)) G := by
  show R.ok (D.int (if j < i then j else i)) G = _
  congr 2
  split <;> omega
@[simp] theorem ev_seqF {ds : List D} : seqOf (.fl ds) G = some ds := id rfl
@[simp] theorem ev_seqR {n : Nat} : seqOf (.ref n) G = (match G[n]? with | some (.lst xs) => some xs | _ => none) := id rfl
@[simp] theorem ev_lenF {ds : List D} : fLen [.fl ds] G = .ok (.int ds.length) G := id rfl
@[simp] theorem ev_ixT {ds : List D} : opIx (.tup ds) (.int i) G = (match atI ds i with | some v => .ok v G | none => .bad) := id rfl
@[simp] theorem ev_ixF {ds : List D} : opIx (.fl ds) (.int i) G = (match atI ds i with | some v => .ok v G | none => .bad) := id rfl
@[simp] theorem ev_ixR {n : Nat} : opIx (.ref n) (.int i) G = (match G[n]? with | some (.lst xs) => (match atI xs i with | some v => .ok v G | none => .bad) | _ => .bad) := by
  unfold opIx
  simp only [ev_seqR]
  cases G[n]? with
  | none => rfl
  | some o => cases o <;> rfl
theorem ixN_nat {n k : Nat} (h : k < n) : ixN n (k : Int) = some k := by
  unfold ixN
  rw [if_pos (by omega), if_pos (by omega)]
  simp
theorem atI_get' {α : Type} {xs : List α} {k : Nat} {d : α} (h : xs[k]? = some d) : atI xs (k : Int) = some d := by
  unfold atI
  rw [ixN_nat (List.getElem?_eq_some_iff.mp h).1]
  exact h
theorem atI_of {α : Type} {xs : List α} {j : Int} {k : Nat} {d : α} (e : j = k) (h : xs[k]? = some d) : atI xs j = some d := by
  subst e
  exact atI_get' h
@[simp] theorem atI_0 {α : Type} {a : α} {xs : List α} : atI (a :: xs) 0 = some a := atI_of (k := 0) rfl rfl
@[simp] theorem atI_1 {α : Type} {a b : α} {xs : List α} : atI (a :: b :: xs) 1 = some b := atI_of (k := 1) rfl rfl
@[simp] theorem atI_2 {α : Type} {a b c : α} {xs : List α} : atI (a :: b :: c :: xs) 2 = some c := atI_of (k := 2) rfl rfl
@[simp] theorem atI_3 {α : Type} {a b c d : α} {xs : List α} : atI (a :: b :: c :: d :: xs) 3 = some d := atI_of (k := 3) rfl rfl
@[simp] theorem ev_mkTup {ds : List D} : mkTup ds G = if ds.length ≤ 1000000 then .ok (.tup ds) G else .bad := id rfl
@[simp] theorem ev_mkLst {ds : List D} : mkLst ds G = if ds.length ≤ 1000000 then .ok (.ref G.length) (G ++ [.lst ds]) else .bad := id rfl
@[simp] theorem ev_itF {ds : List D} : itSeq (.fl ds) G = .ok (.pure ds) G := id rfl
@[simp] theorem ev_rng1 : rng1 [.int j] G = if inR j then .ok (.pure (rngD 0 j.toNat)) G else .bad := id rfl
theorem inR_of (h0 : -1000000000 ≤ i) (h : i ≤ 1000000000) : inR i := ⟨by omega, by omega⟩
@[simp] theorem ev_isLR {n : Nat} : isL (.ref n) G = (match G[n]? with | some (.lst _) => true | _ => false) := id rfl
@[simp] theorem ev_app {n : Nat} {d : D} : mAppend (.ref n) [d] G = (match G[n]? with | some (.lst xs) => if xs.length < 1000000 then .ok .non (G.set n (.lst (xs ++ [d]))) else .bad | _ => .bad) := id rfl
@[simp] theorem ev_setIx {n : Nat} {d : D} : setIx (.ref n) (.int i) d G = (match G[n]? with | some (.lst xs) => (match ixN xs.length i with | some j => .ok .non (G.set n (.lst (xs.set j d))) | none => .bad) | _ => .bad) := id rfl
@[simp] theorem ev_sumF {ks : List Int} : fSum [.fl (ks.map D.int)] G = .ok (.int ks.sum) G := by simp [fSum]
@[simp] theorem ev_isiI {d : D} : fIsi [d, .ty "int"] G = (match tyD G d with | some .int => .ok (.bl true) G | some .bl => .ok (.bl true) G | some _ => .ok (.bl false) G | none => .bad) := by
  unfold fIsi
  dsimp only
  cases tyD G d with
  | none => rfl
  | some t => cases t <;> rfl
@[simp] theorem ev_isiB {d : D} : fIsi [d, .ty "bool"] G = (match tyD G d with | some .bl => .ok (.bl true) G | some _ => .ok (.bl false) G | none => .bad) := by
  unfold fIsi
  dsimp only
  cases tyD G d with
  | none => rfl
  | some t => cases t <;> rfl
@[simp] theorem ev_isiL {d : D} : fIsi [d, .ty "list"] G = (match tyD G d with | some .lst => .ok (.bl true) G | some _ => .ok (.bl false) G | none => .bad) := by
  unfold fIsi
  dsimp only
  cases tyD G d with
  | none => rfl
  | some t => cases t <;> rfl
@[simp] theorem ty_int' : tyD G (.int i) = some .int := id rfl
end
/-! two ways that meet again -/
section
variable {c : Prop} [Decidable c]
@[simp] theorem ite_ok {α : Type} {a b : α} {G : DH} : (if c then R.ok a G else R.ok b G) = R.ok (if c then a else b) G := by split <;> rfl
end
end DL
namespace DL
open PySem PySem.Spec L2
open PyProof.Rows hiding St
/-! ### dicts -/
def valD (kvs : List (Key × D)) (k : Key) : Option D := (kvs.find? fun kv => decide (kv.1 = k)).map (·.2)
def putD (kvs : List (Key × D)) (k : Key) (v : D) : List (Key × D) :=
  if (kvs.any fun kv => decide (kv.1 = k)) = true then kvs.map (fun kv => if kv.1 = k then (kv.1, v) else kv) else kvs ++ [(k, v)]
def keyD : D → Option Key
  | .int i => some (.inl i)
  | .str x => some (.inr x)
  | _ => none
def dctOf (d : D) (G : DH) : Option (List (Key × D)) := match d with
  | .ref i => match G[i]? with
    | some (.dct kvs) => some kvs
    | _ => none
  | _ => none
theorem RepKV.nil {a : Wd} : RepKV a [] [] := ⟨rfl, rfl⟩
theorem RepKV.cons {a : Wd} {k : Key} {d : D} {kvs : List (Key × D)} {us : List (Key × V)} (h : RepKV a ((k, d) :: kvs) us) : ∃ v r, us = (k, v) :: r ∧ Rep a d v ∧ RepKV a kvs r := by
  obtain ⟨h1, v, r, h2, h3, h4⟩ := h
  cases us with
  | nil => cases h2
  | cons p us =>
    obtain ⟨q, w⟩ := p
    simp only [List.map_cons, List.cons.injEq] at h1 h2
    obtain ⟨rfl, h1⟩ := h1
    obtain ⟨rfl, rfl⟩ := h2
    exact ⟨w, us, rfl, h3, h1, h4⟩
theorem RepKV.mk {a : Wd} {k : Key} {d : D} {v : V} {kvs : List (Key × D)} {us : List (Key × V)} (h : Rep a d v) (r : RepKV a kvs us) : RepKV a ((k, d) :: kvs) ((k, v) :: us) :=
  ⟨by simp only [List.map_cons, r.1], Reps.cons h r.2⟩
theorem RepKV.val {a : Wd} {k : Key} : ∀ {kvs : List (Key × D)} {us : List (Key × V)}, RepKV a kvs us → (valD kvs k = none ∧ valV us k = none) ∨ ∃ d v, valD kvs k = some d ∧ valV us k = some v ∧ Rep a d v
  | [], us, h => by
    obtain ⟨h1, _⟩ := h
    have : us = [] := List.map_eq_nil_iff.mp h1.symm
    subst this
    exact .inl ⟨rfl, rfl⟩
  | (q, d) :: kvs, us, h => by
    obtain ⟨v, r, rfl, h1, h2⟩ := RepKV.cons h
    by_cases e : q = k
    · exact .inr ⟨d, v, by simp [valD, List.find?_cons, e], by simp [valV, List.find?_cons, e], h1⟩
    · rcases RepKV.val (k := k) h2 with ⟨e1, e2⟩ | ⟨d', v', e1, e2, e3⟩
      · exact .inl ⟨by simpa [valD, List.find?_cons, e] using e1, by simpa [valV, List.find?_cons, e] using e2⟩
      · exact .inr ⟨d', v', by simpa [valD, List.find?_cons, e] using e1, by simpa [valV, List.find?_cons, e] using e2, e3⟩
theorem RepKV.any {a : Wd} {k : Key} : ∀ {kvs : List (Key × D)} {us : List (Key × V)}, RepKV a kvs us → (kvs.any fun kv => decide (kv.1 = k)) = us.any fun kv => decide (kv.1 = k)
  | [], us, h => by
    obtain ⟨h1, _⟩ := h
    have : us = [] := List.map_eq_nil_iff.mp h1.symm
    subst this
    rfl
  | (q, d) :: kvs, us, h => by
    obtain ⟨v, r, rfl, h1, h2⟩ := RepKV.cons h
    simp only [List.any_cons, RepKV.any (k := k) h2]
theorem RepKV.repl {a : Wd} {k : Key} {d : D} {v : V} (hv : Rep a d v) : ∀ {kvs : List (Key × D)} {us : List (Key × V)}, RepKV a kvs us → RepKV a (kvs.map fun kv => if kv.1 = k then (kv.1, d) else kv) (us.map fun kv => if kv.1 = k then (kv.1, v) else kv)
  | [], us, h => by
    obtain ⟨h1, _⟩ := h
    have : us = [] := List.map_eq_nil_iff.mp h1.symm
    subst this
    exact RepKV.nil
  | (q, e) :: kvs, us, h => by
    obtain ⟨w, r, rfl, h1, h2⟩ := RepKV.cons h
    simp only [List.map_cons]
    by_cases hq : q = k
    · rw [if_pos hq, if_pos hq]; exact RepKV.mk hv (RepKV.repl hv h2)
    · rw [if_neg hq, if_neg hq]; exact RepKV.mk h1 (RepKV.repl hv h2)
theorem RepKV.put {a : Wd} {k : Key} {d : D} {v : V} {kvs : List (Key × D)} {us : List (Key × V)} (h : RepKV a kvs us) (hv : Rep a d v) : RepKV a (putD kvs k d) (putK us k v) := by
  unfold putD putK
  rw [RepKV.any (k := k) h]
  split
  · exact RepKV.repl hv h
  · exact ⟨by simp [h.1], by
      have := Reps.append h.2 (Reps.cons hv (Reps.nil))
      simpa using this⟩
theorem RepKV.len {a : Wd} {kvs : List (Key × D)} {us : List (Key × V)} (h : RepKV a kvs us) : kvs.length = us.length := by
  have := congrArg List.length h.1
  simpa using this
theorem Sim.dct {a : Wd} {G : DH} {d : D} {x : V} {kvs : List (Key × D)} (s : Sim a G) (r : Rep a d x) (h : dctOf d G = some kvs) : ∃ i us, d = .ref i ∧ i < a.n ∧ x = .ref (a.m i) ∧ G[i]? = some (.dct kvs) ∧ a.H (a.m i) = some (.dK us) ∧ RepKV a kvs us := by
  cases d with
  | ref i =>
    unfold dctOf at h
    dsimp only at h
    split at h
    · rename_i ks hi
      cases h
      obtain ⟨us, e1, r1⟩ := s.obj i _ hi
      exact ⟨i, us, rfl, r.1, r.2, hi, e1, r1⟩
    · cases h
  | _ => cases h
section
variable {X : Cx} {E : XK}
end
/-! running -/
section
variable {S : DSt} {G : DH} {n : Nat} {kvs : List (Key × D)}
end
end DL
namespace DL
open PySem PySem.Spec L2
open PyProof.Rows hiding St
/-! ### == of plain values -/
/-- no bools, no refs, at most n deep -/
def okD : Nat → D → Bool
  | 0, _ => false
  | _ + 1, .non => true
  | _ + 1, .int _ => true
  | _ + 1, .str _ => true
  | n + 1, .tup ds => ds.all (okD n)
  | n + 1, .fl ds => ds.all (okD n)
  | _ + 1, _ => false
theorem okD_mono : ∀ {n m : Nat} {d : D}, okD n d = true → n ≤ m → okD m d = true
  | 0, _, _, h, _ => by cases h
  | n + 1, 0, _, _, h => by omega
  | n + 1, m + 1, d, h, hm => by
    cases d with
    | tup ds =>
      simp only [okD, List.all_eq_true] at h ⊢
      exact fun x hx => okD_mono (h x hx) (by omega)
    | fl ds =>
      simp only [okD, List.all_eq_true] at h ⊢
      exact fun x hx => okD_mono (h x hx) (by omega)
    | _ => first | rfl | (simp [okD] at h)
theorem eqZ_dec {f : D → D → Option Bool} {P : D → Prop} (hf : ∀ x y, P x → P y → ∃ b, f x y = some b ∧ (b = true ↔ x = y)) : ∀ {xs ys : List D}, (∀ x ∈ xs, P x) → (∀ y ∈ ys, P y) →
    ∃ b, eqZ f xs ys = some b ∧ (b = true ↔ xs.take ys.length = ys.take xs.length)
  | [], ys, _, _ => ⟨true, by cases ys <;> rfl, by simp⟩
  | x :: xs, [], _, _ => ⟨true, rfl, by simp⟩
  | x :: xs, y :: ys, hx, hy => by
    obtain ⟨b, e1, h1⟩ := hf x y (hx x (by simp)) (hy y (by simp))
    obtain ⟨c, e2, h2⟩ := eqZ_dec hf (fun z hz => hx z (List.mem_cons_of_mem _ hz)) (fun z hz => hy z (List.mem_cons_of_mem _ hz))
    refine ⟨b && c, by simp [eqZ, e1, e2], ?_⟩
    simp [h1, h2]
theorem eqD_dec {G : DH} : ∀ (n : Nat) (d e : D), okD n d = true → okD n e = true → ∃ b, eqD n G d e = some b ∧ (b = true ↔ d = e)
  | 0, d, e, h, _ => by cases h
  | n + 1, d, e, h1, h2 => by
    have ih := eqD_dec (G := G) n
    cases d with
    | bl _ => simp [okD] at h1
    | ty _ => simp [okD] at h1
    | ref _ => simp [okD] at h1
    | tup xs =>
      cases e with
      | bl _ => simp [okD] at h2
      | ty _ => simp [okD] at h2
      | ref _ => simp [okD] at h2
      | tup ys =>
        simp only [okD, List.all_eq_true] at h1 h2
        obtain ⟨b, e1, h3⟩ := eqZ_dec ih (fun x hx => h1 x hx) (fun x hx => h2 x hx)
        refine ⟨b && xs.length == ys.length, by simp [eqD, view, e1], ?_⟩
        simp only [Bool.and_eq_true, h3, beq_iff_eq, D.tup.injEq]
        constructor
        · rintro ⟨e, hl⟩
          rw [← hl, List.take_length] at e
          rw [e, hl, List.take_length]
        · rintro rfl
          exact ⟨rfl, rfl⟩
      | _ => exact ⟨false, by simp [eqD, view], by simp⟩
    | fl xs =>
      cases e with
      | bl _ => simp [okD] at h2
      | ty _ => simp [okD] at h2
      | ref _ => simp [okD] at h2
      | fl ys =>
        simp only [okD, List.all_eq_true] at h1 h2
        by_cases hl : xs.length = ys.length
        · obtain ⟨b, e1, h3⟩ := eqZ_dec ih (fun x hx => h1 x hx) (fun x hx => h2 x hx)
          refine ⟨b, by simp [eqD, view, hl, e1], ?_⟩
          rw [h3, ← hl, List.take_length, hl, List.take_length]
          simp
        · exact ⟨false, by simp [eqD, view, hl], by simp; rintro rfl; exact hl rfl⟩
      | _ => exact ⟨false, by simp [eqD, view], by simp⟩
    | non => cases e <;> first | (simp [okD] at h2; done) | exact ⟨_, rfl, by simp [eqV]⟩
    | int i => cases e <;> first | (simp [okD] at h2; done) | exact ⟨_, rfl, by simp [eqV]⟩
    | str i => cases e <;> first | (simp [okD] at h2; done) | exact ⟨_, rfl, by simp [eqV]⟩
open Classical in
theorem ev_eqP {d e : D} {G : DH} (h1 : okD 30 d = true) (h2 : okD 30 e = true) : opEq d e G = .ok (.bl (decide (d = e))) G := by
  obtain ⟨b, e1, h⟩ := eqD_dec (G := G) 30 d e h1 h2
  unfold opEq
  rw [e1]
  cases b with
  | true => simp [h.mp rfl]
  | false => simp [show ¬ d = e from fun z => Bool.false_ne_true (h.mpr z)]
theorem ev_eqSame {d : D} {G : DH} (h1 : okD 30 d = true) : opEq d d G = .ok (.bl true) G := by rw [ev_eqP h1 h1]; simp
theorem okD_tup {n : Nat} {ds : List D} (h : ∀ d ∈ ds, okD n d = true) : okD (n + 1) (.tup ds) = true := by simpa [okD] using h
theorem okD_fl {n : Nat} {ds : List D} (h : ∀ d ∈ ds, okD n d = true) : okD (n + 1) (.fl ds) = true := by simpa [okD] using h
end DL
namespace DL
open PySem PySem.Spec L2
open PyProof.Rows hiding St
/-! ### slices -/
def optI (t : Option DE) (S : DSt) (G : DH) : R (Option Int) := match t with
  | none => .ok none G
  | some t => (t S G).bind fun d G1 => match d with
    | .int i => .ok (some i) G1
    | _ => .bad
section
variable {X : Cx} {E : XK}
/-- the parts of a slice -/
def outO (E : XK) (a : Wd) (r : R (Option Int)) (Q : Option Int → Hp → Prop) : Prop := match r with
  | .ok k G => ∀ (b : Wd), Ext a b → Sim b G → Q k b.H
  | .err x G => XOk E a x G
  | .bad => False
def QO (X : Cx) (E : XK) (e : Option Expr) (t : Option DE) : Prop := PO X e (fun σ H Q => ∃ (a : Wd) (S : DSt) (G : DH), a.K = X.K ∧ a.H = H ∧ Sim a G ∧ RepS a S σ ∧ outO E a (optI t S G) Q)
theorem _root_.L2.PO.mono {e : Option Expr} {t t' : TO} (h : PO X e t) (w : ∀ σ H Q, t' σ H Q → t σ H Q) : PO X e t' := fun pins s σ H Q I q => h pins s σ H Q I (w σ H Q q)
theorem outO.imp {a : Wd} {r : R (Option Int)} {Q Q' : Option Int → Hp → Prop} (h : outO E a r Q) (w : ∀ v H, Q v H → Q' v H) : outO E a r Q' := by
  cases r with
  | ok d G => exact fun b x s => w _ _ (h b x s)
  | err e G => exact h
  | bad => exact h
/-! ### methods of texts -/
section
variable {name : Str} {id : String} {f : D → List D → DH → R D} {o e : Expr} {es : List Expr} {to : DE} {t : DA} {apos cpos : Pos}
end
end
/-! running -/
section
variable {S : DSt} {G : DH}
end
end DL
namespace DL
open PySem PySem.Spec L2
open PyProof.Rows hiding St
open Builtin.Str
/-! ### texts, sign by sign -/
section
variable (p : Nat → Bool) (m : Nat)
end
/-! ### comprehensions whose parts leave the objects as they are -/
def CStep (g : DG) (c : DB) (te : DE) (S : DSt) (G : DH) (x : D) (r : Option D) : Prop :=
  ∃ S1, g x S G = .ok S1 G ∧ ((c S1 G = .ok false G ∧ r = none) ∨ (c S1 G = .ok true G ∧ ∃ d, te S1 G = .ok d G ∧ r = some d))
theorem compP_ok {g : DG} {c : DB} {te : DE} {S : DSt} {G : DH} {F : D → Option D} : ∀ {xs : List D}, (∀ x ∈ xs, CStep g c te S G x (F x)) → compP g c te S xs G = .ok (xs.filterMap F) G
  | [], _ => rfl
  | x :: xs, h => by
    obtain ⟨S1, h1, h2⟩ := h x (by simp)
    have ih := compP_ok (fun y hy => h y (List.mem_cons_of_mem _ hy))
    rw [compP_cons, h1]
    rcases h2 with ⟨h2, h3⟩ | ⟨h2, d, h3, h4⟩
    · simp [h2, h3, ih, List.filterMap_cons]
    · simp [h2, h3, h4, ih, List.filterMap_cons]
end DL
/-! walks of pairs: enumerate, zip (of lists and tuples, however many), at the model's level -/
namespace DL
open PySem PySem.Spec L2
open PyProof.Rows hiding St
/-- a thing walked: the list or the tuple at an address -/
inductive Src where
  | l (a : Addr)
  | t (a : Addr)
def Src.itn : Src → String
  | .l _ => "list_iterator"
  | .t _ => "tuple_iterator"
def Src.adr : Src → Addr
  | .l a => a
  | .t a => a
/-- an iterator over it, k items on -/
def Src.it (h : Heap) (p : Addr) (k : Nat) (sr : Src) : Prop := ∃ o, h.get? p = some o ∧ o.cls = .type sr.itn ∧ o.data = .fields #[.ref sr.adr, .int k 0]
/-- its items -/
def Src.val (h : Heap) (xs : Array Value) : Src → Prop
  | .l a => h.IsList a xs
  | .t a => h.IsTuple a xs
theorem Src.it.at {sr : Src} {h h' : Heap} {p : Addr} {k : Nat} (x : sr.it h p k) (e : ∀ o, h.get? p = some o → h'.get? p = some o) : sr.it h' p k := let ⟨o, ho, r⟩ := x; ⟨o, e o ho, r⟩
theorem Src.val.at {sr : Src} {h h' : Heap} {xs : Array Value} (x : sr.val h xs) (e : ∀ o, h.get? sr.adr = some o → h'.get? sr.adr = some o) : sr.val h' xs := by
  cases sr with
  | l a => obtain ⟨o, ho, r⟩ := x; exact ⟨o, e o ho, r⟩
  | t a => obtain ⟨o, ho, r⟩ := x; exact ⟨o, e o ho, r⟩
theorem Src.it.lt {sr : Src} {h : Heap} {p : Addr} {k : Nat} (x : sr.it h p k) : p < h.objs.size := let ⟨_, ho, _⟩ := x; Heap.lt_size ho
section
variable {prog : Program} {w : World} {A : Around} {E : Value → Shared → Prop} {s : Shared}
theorem Src.val.obj {sr : Src} {h : Heap} {xs : Array Value} (x : sr.val h xs) : ∃ o n, h.get? sr.adr = some o ∧ o.data = .seq xs n := by
  cases sr with
  | l a => obtain ⟨o, ho, _, n, hd⟩ := x; exact ⟨o, n, ho, hd⟩
  | t a => obtain ⟨o, ho, _, n, hd⟩ := x; exact ⟨o, n, ho, hd⟩
theorem Src.next_item {sr : Src} {p : Addr} {k : Nat} {xs : Array Value} {x : Value} {Q : Value → Shared → Prop} (hit : sr.it s.heap p k) (hv : sr.val s.heap xs) (hx : xs[k]? = some x)
    (hQ : ∀ h', sr.it h' p (k + 1) → Heap.SameBut p s.heap h' → Q x { s with heap := h' }) : wpAny (model prog w) A (Builtin.SmallTypes.nextOf (.ref p)) Q E s := by
  cases sr with
  | l a => exact wpAny_nextOf_list_item (show s.heap.IsListIter p a k from hit) hv hx hQ
  | t a =>
    obtain ⟨o, ho, hc, hd⟩ := id hit
    obtain ⟨ol, hol, _, nl, hdl⟩ := hv
    have hT : s.TypeIs (.ref p) "tuple_iterator" := ⟨o, ho, hc⟩
    unfold Builtin.SmallTypes.nextOf
    refine wpAny_bind (wpAny_callSpecial?_slot (name := Str.ofString "__next__") hT PySem.F.slot_tuple_iterator_next (wpAny_call_entry PySem.F.slot_tuple_iterator_next hT PySem.F.entry_tuple_iterator_next ?_ (PySem.F.args_tuple_iterator_next_1 _)))
    refine wpAny_bind (m := field (.ref p) 0) (wpAny_field ho hd (x := .ref a) rfl ?_)
    show wpAny _ _ (if (Value.ref a == Value.none) = true then _ else (field (.ref p) 1 >>= _)) _ _ s
    rw [if_neg (show ¬ ((Value.ref a == Value.none) = true) from Bool.false_ne_true)]
    refine wpAny_bind (m := field (.ref p) 1) (wpAny_field ho hd (x := .int k 0) rfl (wpAny_bind (m := seqItems? (.ref a)) (wpAny_seqItems hol hdl ?_)))
    simp only [Int.toNat_natCast, hx]
    refine wpAny_bind (wpAny_setField ho hd (by simp) (wpAny_pure ⟨x, rfl, wpAny_pure (hQ _ ⟨_, Heap.get?_update_self _ ho (Obj.isFreed_of_fields (Obj.data_mapFields hd _)), (Obj.cls_mapFields ..).trans hc, ?_⟩ (Heap.SameBut.update ..))⟩))
    rw [Obj.data_mapFields hd]; simp [rawInt, Src.adr]
theorem Src.next_end {sr : Src} {p : Addr} {k : Nat} {xs : Array Value} {Q : Value → Shared → Prop} (hh : A.handled = none) (hit : sr.it s.heap p k) (hv : sr.val s.heap xs) (hx : xs[k]? = none)
    (hE : ∀ h' e, Heap.ExtBut p s.heap h' → (∃ o, h'.get? e = some o ∧ o.cls = .type "StopIteration") → E (.ref e) { s with heap := h' }) : wpAny (model prog w) A (Builtin.SmallTypes.nextOf (.ref p)) Q E s := by
  cases sr with
  | l a => exact wpAny_nextOf_list_end hh (show s.heap.IsListIter p a k from hit) hv hx hE
  | t a =>
    obtain ⟨o, ho, hc, hd⟩ := id hit
    obtain ⟨ol, hol, _, nl, hdl⟩ := hv
    have hT : s.TypeIs (.ref p) "tuple_iterator" := ⟨o, ho, hc⟩
    unfold Builtin.SmallTypes.nextOf
    refine wpAny_bind (wpAny_callSpecial?_slot (name := Str.ofString "__next__") hT PySem.F.slot_tuple_iterator_next (wpAny_call_entry PySem.F.slot_tuple_iterator_next hT PySem.F.entry_tuple_iterator_next ?_ (PySem.F.args_tuple_iterator_next_1 _)))
    refine wpAny_bind (m := field (.ref p) 0) (wpAny_field ho hd (x := .ref a) rfl ?_)
    show wpAny _ _ (if (Value.ref a == Value.none) = true then _ else (field (.ref p) 1 >>= _)) _ _ s
    rw [if_neg (show ¬ ((Value.ref a == Value.none) = true) from Bool.false_ne_true)]
    refine wpAny_bind (m := field (.ref p) 1) (wpAny_field ho hd (x := .int k 0) rfl (wpAny_bind (m := seqItems? (.ref a)) (wpAny_seqItems hol hdl ?_)))
    simp only [Int.toNat_natCast, hx]
    refine wpAny_bind (wpAny_rule (wpAny_bind (wpAny_setField ho hd (by simp) (wpAny_bind (m := newExc (.type "StopIteration") []) ?_))))
    simp only [newExc, newTuple]
    refine wpAny_bind (wpAny_newObj_type (wpAny_bind (m := firstArgMember _ _) (wpAny_of_eq (a := Value.none) (by first | rfl | (simp only [firstArgMember]; rfl)) (wpAny_newObj_type ?_ (by size_fits)))) (by size_fits))
    simp only [raiseNew]
    refine wpAny_bind (wpAny_handled ?_)
    first | rw [show A.in1.handled = none from hh] | rw [hh]
    exact wpAny_bind (wpAny_pure (wpAny_throw (hE _ _ (((Heap.SameBut.update ..).extBut.push _).push _) ⟨_, Heap.get?_push_size _ rfl, rfl⟩)))
theorem Src.iter {sr : Src} {xs : Array Value} {Q : Value → Shared → Prop} (hv : sr.val s.heap xs)
    (hQ : Q (.ref s.heap.objs.size) { s with heap := s.heap.push { cls := .type sr.itn, data := .fields #[.ref sr.adr, .int 0 0] } }) : wpAny (model prog w) A (pyIter (.ref sr.adr)) Q E s := by
  cases sr with
  | l a => exact wpAny_pyIter_list hv hQ
  | t a => exact wpAny_pyIter_tuple hv hQ
end
/-! ### enumerate -/
/-- fields: the tuple handed out, .., the iterator, the next number, the number given at the first, the item last told -/
abbrev En (h : Heap) (e it : Addr) (f0 : Value) (i : Int) (g old : Value) : Prop :=
  h.get? e = some { cls := .type "enumerate", dict := none, data := .fields #[f0, .bool false, .ref it, rawInt i, g, old], slots := #[] }
/-- a number given at the first -/
def Gv (i : Int) (g : Value) : Prop := g = .none ∨ ∃ t, g = .int i t
section
variable {prog : Program} {w : World} {A : Around} {E : Value → Shared → Prop} {s : Shared}
theorem en_next {sr : Src} {e it : Addr} {k : Nat} {i : Int} {xs : Array Value} {x g old : Value} {Q : Value → Shared → Prop} (he : En s.heap e it .none i g old) (hg : Gv i g) (hit : sr.it s.heap it k) (hv : sr.val s.heap xs) (hx : xs[k]? = some x) (hne : e ≠ it)
    (hQ : ∀ h' t tk, En h' e it (rawInt s.heap.objs.size) (i + 1) .none x → sr.it h' it (k + 1) → h'.get? s.heap.objs.size = some { cls := .type "tuple", data := .seq #[.int i t, x] } → h'.objs.size = s.heap.objs.size + 1 →
      (∀ b o, b ≠ e → b ≠ it → s.heap.get? b = some o → h'.get? b = some o) → Q (.ref s.heap.objs.size) { s with heap := h', toks := tk }) :
    wpAny (model prog w) A (Builtin.«enumerate.__next__» ⟨[.ref e], []⟩) (fun fin s' => ∃ v, fin = .done (.ret v) ∧ Q v s') E s := by
  obtain ⟨hp, gg, d, tk, os⟩ := s
  refine wpAny_bind (m := field (.ref e) 2) (wpAny_field he rfl (x := .ref it) rfl (wpAny_bind (m := Builtin.SmallTypes.nextOf (.ref it)) (Src.next_item hit hv hx fun h₁ hit₁ hs₁ => ?_)))
  have he₁ : En h₁ e it .none i g old := (hs₁.2 e hne).trans he
  have k₁ : ∀ b o, b ≠ e → b ≠ it → hp.get? b = some o → h₁.get? b = some o := fun b o _ hb q => hs₁.extBut b o hb q
  have z₁ : h₁.objs.size = hp.objs.size := hs₁.1
  refine wpAny_bind (m := field (.ref e) 3) (wpAny_field he₁ rfl (x := rawInt i) rfl ?_)
  refine wpAny_bind (m := field (.ref e) 4) (wpAny_field he₁ rfl (x := g) rfl ?_)
  have rest : ∀ (t : Tok) (tk' : Nat), wpAny (model prog w) A (do
      setField (.ref e) 3 (rawInt (i + 1)); setField (.ref e) 4 .none
      let result ← newTuple [.int i t, x]
      if ← Builtin.SmallTypes.ownedTupleIsFree (.ref e) then
        rule "enumerate.__next__.owned-tuple-again"
        let old ← field (.ref e) 5
        setField (.ref e) 5 x
        Builtin.SmallTypes.ownedTupleHandOut (.ref e) result
        PySem.letGo [old] [result]
      ret result) (fun fin s' => ∃ v, fin = .done (.ret v) ∧ Q v s') E ⟨h₁, gg, d, tk', os⟩ := by
    intro t tk'
    refine wpAny_bind (wpAny_setField_rec he₁ (by simp) fun h₂ he₂ hs₂ => ?_)
    refine wpAny_bind (wpAny_setField_rec he₂ (by simp) fun h₃ he₃ hs₃ => ?_)
    replace he₃ : En h₃ e it .none (i + 1) .none old := he₃
    have z₃ : h₃.objs.size = hp.objs.size := by rw [hs₃.1]; show h₂.objs.size = _; rw [hs₂.1]; exact z₁
    have k₃ : ∀ b o, b ≠ e → b ≠ it → hp.get? b = some o → h₃.get? b = some o := fun b o h1 h2 q => hs₃.extBut b o h1 (hs₂.extBut b o h1 (k₁ b o h1 h2 q))
    have i₃ : sr.it h₃ it (k + 1) := (hit₁.at fun o q => hs₂.extBut it o (Ne.symm hne) q).at fun o q => hs₃.extBut it o (Ne.symm hne) q
    refine wpAny_bind (wpAny_newTuple ?_)
    generalize hh₄ : h₃.push { cls := .type "tuple", data := .seq [Value.int i t, x].toArray } = h₄
    have he₄ : En h₄ e it .none (i + 1) .none old := by rw [← hh₄]; exact Heap.get?_push_of_some _ he₃
    have ht₄ : h₄.get? hp.objs.size = some { cls := .type "tuple", data := .seq #[.int i t, x] } := by rw [← hh₄, ← z₃]; exact Heap.get?_push_size _ rfl
    have z₄ : h₄.objs.size = hp.objs.size + 1 := by rw [← hh₄, Heap.size_push, z₃]
    have k₄ : ∀ b o, b ≠ e → b ≠ it → hp.get? b = some o → h₄.get? b = some o := fun b o h1 h2 q => by rw [← hh₄]; exact Heap.get?_push_of_some _ (k₃ b o h1 h2 q)
    have i₄ : sr.it h₄ it (k + 1) := i₃.at fun o q => by rw [← hh₄]; exact Heap.get?_push_of_some _ q
    have ez : e < hp.objs.size := Heap.lt_size he
    refine wpAny_bind (m := Builtin.SmallTypes.ownedTupleIsFree (.ref e)) ?_
    unfold Builtin.SmallTypes.ownedTupleIsFree
    refine wpAny_bind (wpAny_field he₄ rfl (x := .none) rfl (wpAny_pure ?_))
    simp only [if_true]
    refine wpAny_bind (wpAny_rule (wpAny_bind (wpAny_field he₄ rfl (x := old) rfl (wpAny_bind (wpAny_setField_rec he₄ (by simp) fun h₅ he₅ hs₅ => ?_)))))
    replace he₅ : En h₅ e it .none (i + 1) .none x := he₅
    refine wpAny_bind (m := Builtin.SmallTypes.ownedTupleHandOut _ _) ?_
    unfold Builtin.SmallTypes.ownedTupleHandOut
    refine wpAny_bind (wpAny_setField_rec he₅ (by simp) fun h₆ he₆ hs₆ => ?_)
    refine wpAny_setField_rec he₆ (by simp) fun h₇ he₇ hs₇ => ?_
    refine wpAny_bind (wpAny_letGo (wpAny_pure ⟨_, rfl, ?_⟩))
    have up : ∀ b o, b ≠ e → h₄.get? b = some o → h₇.get? b = some o := fun b o hb q => hs₇.extBut b o hb (hs₆.extBut b o hb (hs₅.extBut b o hb q))
    show Q (.ref h₃.objs.size) _
    rw [z₃]
    rw [z₃] at he₇
    exact hQ h₇ t tk' he₇ (i₄.at fun o q => up it o (Ne.symm hne) q) (up _ _ (Nat.ne_of_gt ez) ht₄) (by rw [hs₇.1]; show h₆.objs.size = _; rw [hs₆.1]; show h₅.objs.size = _; rw [hs₅.1]; exact z₄) fun b o h1 h2 q => up b o h1 (k₄ b o h1 h2 q)
  rcases hg with rfl | ⟨t, rfl⟩
  · exact wpAny_bind (m := mkInt i) (wpAny_mkInt (rest tk (tk + 1)))
  · exact wpAny_bind (m := (pure (Value.int i t) : Sem Value)) (wpAny_pure (rest t tk))
theorem en_item {sr : Src} {e it : Addr} {k : Nat} {i : Int} {xs : Array Value} {x g old : Value} {Q : Option Value → Shared → Prop} (he : En s.heap e it .none i g old) (hg : Gv i g) (hit : sr.it s.heap it k) (hv : sr.val s.heap xs) (hx : xs[k]? = some x) (hne : e ≠ it)
    (hQ : ∀ h' t tk, En h' e it (rawInt s.heap.objs.size) (i + 1) .none x → sr.it h' it (k + 1) → h'.get? s.heap.objs.size = some { cls := .type "tuple", data := .seq #[.int i t, x] } → h'.objs.size = s.heap.objs.size + 1 →
      (∀ b o, b ≠ e → b ≠ it → s.heap.get? b = some o → h'.get? b = some o) → Q (some (.ref s.heap.objs.size)) { s with heap := h', toks := tk }) :
    wpAny (model prog w) A (pyNext (.ref e)) Q E s := by
  have hT : s.TypeIs (.ref e) "enumerate" := ⟨_, he, rfl⟩
  unfold pyNext
  exact wpAny_bind (wpAny_attempt (wpAny_callSpecial?_slot (name := Str.ofString "__next__") hT PySem.F.slot_enumerate_next
    (wpAny_call_entry PySem.F.slot_enumerate_next hT PySem.F.entry_enumerate_next (en_next he hg hit hv hx hne fun h' t tk a1 a2 a3 a4 a5 => wpAny_pure (hQ h' t tk a1 a2 a3 a4 a5)) (PySem.F.args_enumerate_next_1 _))))
theorem en_end {sr : Src} {e it : Addr} {k : Nat} {i : Int} {xs : Array Value} {g old : Value} {Q : Option Value → Shared → Prop} (hh : A.handled = none) (he : En s.heap e it .none i g old) (hit : sr.it s.heap it k) (hv : sr.val s.heap xs) (hx : xs[k]? = none)
    (hQ : ∀ h', Heap.ExtBut it s.heap h' → Q none { s with heap := h' }) : wpAny (model prog w) A (pyNext (.ref e)) Q E s := by
  have hT : s.TypeIs (.ref e) "enumerate" := ⟨_, he, rfl⟩
  unfold pyNext
  refine wpAny_bind (wpAny_attempt (wpAny_callSpecial?_slot (name := Str.ofString "__next__") hT PySem.F.slot_enumerate_next
    (wpAny_call_entry PySem.F.slot_enumerate_next hT PySem.F.entry_enumerate_next (wpAny_bind (m := field (.ref e) 2) (wpAny_field he rfl (x := .ref it) rfl (wpAny_bind (m := Builtin.SmallTypes.nextOf (.ref it)) (Src.next_end hh hit hv hx fun h' x he' hx' => ?_)))) (PySem.F.args_enumerate_next_1 _))))
  obtain ⟨o, ho, hc⟩ := hx'
  exact wpAny_bind (wpAny_isInstance (T := "StopIteration") (b := true) ⟨o, ho, hc⟩ isSubtype_stop (wpAny_pure (hQ _ he')))
theorem en_go {elts : List Expr} {x1} {pos : Pos} {e it a : Addr} {i : Int} {g old : Value} {Q : Unit → Shared → Prop} (he : En s.heap e it (rawInt a) i g old)
    (hQ : ∀ h', En h' e it .none i g old → Heap.SameBut e s.heap h' → Q () { s with heap := h' }) : wpAny (model prog w) A (letOwnedTupleGo (.Tuple elts x1 pos) (.ref e) (.ref a)) Q E s := by
  unfold letOwnedTupleGo
  refine wpAny_bind (wpAny_load he ?_)
  dsimp only
  rw [if_pos (by simp)]
  exact wpAny_bind (wpAny_rule (wpAny_setField_rec he (by simp) fun h' he' hs' => hQ h' he' hs'))
theorem en_self {e it : Addr} {f0 : Value} {i : Int} {g old : Value} {Q : Value → Shared → Prop} (he : En s.heap e it f0 i g old) (h : Q (.ref e) s) : wpAny (model prog w) A (pyIter (.ref e)) Q E s := by
  have hT : s.TypeIs (.ref e) "enumerate" := ⟨_, he, rfl⟩
  exact wpAny_pyIter_slot hT PySem.F.slot_enumerate_iter (wpAny_call_entry PySem.F.slot_enumerate_iter hT PySem.F.entry_enumerate_iter (wpAny_pure ⟨_, rfl, "enumerate", _, hT, PySem.F.slot_enumerate_next.lookup, h⟩) (PySem.F.args_enumerate_iter_1 _))
end
end DL
namespace DL
open PySem PySem.Spec L2
open PyProof.Rows hiding St
/-! ### zip -/
abbrev Tp (h : Heap) (T : Addr) (xs : List Value) : Prop := h.get? T = some { cls := .type "tuple", data := .seq xs.toArray }
/-- the items drawn in this turn -/
inductive Drw (h : Heap) (i : Nat) : List (Src × Addr) → List Value → Prop where
  | nil : Drw h i [] []
  | cons {sr p r x us xs} (hit : Src.it h p i sr) (hv : sr.val h xs) (hx : xs[i]? = some x) (t : Drw h i r us) : Drw h i ((sr, p) :: r) (x :: us)
theorem Drw.length {h : Heap} {i : Nat} {l : List (Src × Addr)} {us : List Value} (d : Drw h i l us) : us.length = l.length := by
  induction d with
  | nil => rfl
  | cons _ _ _ _ ih => simp [ih]
section
variable {prog : Program} {w : World} {A : Around} {E : Value → Shared → Prop} {s : Shared}
theorem up_seq {T : Addr} {xs : List Value} {x : Value} {k : Nat} {Q : Unit → Shared → Prop} (hT : Tp s.heap T xs) (hz : xs.length ≤ 1000000)
    (h : ∀ h', Tp h' T (xs.set k x) → Heap.SameBut T s.heap h' → Q () { s with heap := h' }) : wpAny (model prog w) A (updateSeq T (·.setIfInBounds k x)) Q E s := by
  have h1 : xs.toArray.size ≤ sizeLine := by rw [List.size_toArray]; exact Nat.le_trans hz size6
  refine wpAny_updateSeq hT rfl (h _ ?_ (Heap.SameBut.update ..)) h1 (by rw [Array.size_setIfInBounds]; exact Nat.le_succ_of_le h1)
  show (s.heap.update T _).get? T = _
  rw [Heap.get?_update_self _ hT rfl]
  simp [Obj.mapSeq]
/-- what a turn of zip does with one iterator -/
def ZS (prog : Program) (w : World) (A : Around) (E : Value → Shared → Prop) (z TO p : Addr) (k : Nat) (R : Shared → Prop) (s : Shared) : Prop :=
  wpAny (model prog w) A (Builtin.SmallTypes.nextOf (.ref p)) (fun x s1 => ∃ os, Tp s1.heap TO os ∧ os.length ≤ 1000000 ∧ ∀ h', Tp h' TO (os.set k x) → Heap.SameBut TO s1.heap h' → R { s1 with heap := h' })
    (fun e s' => wpAny (model prog w) A (setField (.ref z) 0 .none) (fun _ s'' => E e s'') E s') s
theorem z_step {z TO p : Addr} {k i : Nat} {sr : Src} {xs : Array Value} {x : Value} {os : List Value} {Q : Shared → Prop} (hTO : Tp s.heap TO os) (hz : os.length ≤ 1000000) (hit : sr.it s.heap p i) (hv : sr.val s.heap xs) (hx : xs[i]? = some x)
    (h : ∀ h', Tp h' TO (os.set k x) → sr.it h' p (i + 1) → (∀ b o, b ≠ TO → b ≠ p → s.heap.get? b = some o → h'.get? b = some o) → h'.objs.size = s.heap.objs.size → Q { s with heap := h' }) : ZS prog w A E z TO p k Q s := by
  have hne : TO ≠ p := fun e => by
    obtain ⟨o, ho, hc, _⟩ := hit
    rw [← e, hTO] at ho
    cases ho
    cases sr <;> (simp [Src.itn] at hc)
  refine Src.next_item hit hv hx fun h₁ it₁ sb₁ => ⟨os, sb₁.extBut _ _ hne hTO, hz, fun h₂ t₂ sb₂ => ?_⟩
  exact h h₂ t₂ (it₁.at fun o e => sb₂.extBut _ _ (Ne.symm hne) e) (fun b o b1 b2 e => sb₂.extBut b o b1 (sb₁.extBut b o b2 e)) (by rw [sb₂.1]; show h₁.objs.size = _; rw [sb₁.1])
theorem z_loop {z TO : Addr} {i : Nat} {body : Value × Nat → Option Fin × PUnit → Sem (ForInStep (Option Fin × PUnit))} {R : Option Fin × PUnit → Shared → Prop}
    (hb : ∀ (p : Addr) (k : Nat) (s : Shared) (R' : ForInStep (Option Fin × PUnit) → Shared → Prop), ZS prog w A E z TO p k (fun s' => R' (.yield (none, ⟨⟩)) s') s →
      wpAny (model prog w) A (body (.ref p, k) (none, ⟨⟩)) R' E s) :
    ∀ (l : List (Src × Addr)) (us pre post : List Value) (s : Shared), Drw s.heap i l us → Tp s.heap TO (pre ++ post) → post.length = l.length → (pre ++ post).length ≤ 1000000 → (l.map (·.2)).Nodup → (∀ q ∈ l, q.1.adr ≠ TO) → (∀ q ∈ l, ∀ r ∈ l, q.1.adr ≠ r.2) →
      (∀ h', Tp h' TO (pre ++ us) → (∀ q ∈ l, q.1.it h' q.2 (i + 1)) → (∀ b o, b ≠ TO → b ∉ l.map (·.2) → s.heap.get? b = some o → h'.get? b = some o) → h'.objs.size = s.heap.objs.size → R (none, ⟨⟩) { s with heap := h' }) →
      wpAny (model prog w) A (forIn ((l.map fun q => Value.ref q.2).zipIdx pre.length) (none, ⟨⟩) body) R E s
  | [], us, pre, post, s, d, hT, hl, hz, nd, na, np, hR => by
    cases d
    cases post with
    | cons _ _ => simp at hl
    | nil =>
      rw [List.map_nil, List.zipIdx_nil, List.forIn_nil]
      exact wpAny_pure (hR s.heap hT (fun q hq => by cases hq) (fun b o _ _ e => e) rfl)
  | (sr, p) :: l, us, pre, post, s, d, hT, hl, hz, nd, na, np, hR => by
    cases d with
    | @cons _ _ _ x us xs hit hv hx d =>
    cases post with
    | nil => simp at hl
    | cons y post =>
      rw [List.map_cons, List.zipIdx_cons, List.forIn_cons]
      refine wpAny_bind (hb p pre.length s _ (z_step hT hz hit hv hx fun h' hT' it' kp sz => ?_))
      have e1 : (pre ++ y :: post).set pre.length x = (pre ++ [x]) ++ post := by simp
      rw [e1] at hT'
      have e2 : pre.length + 1 = (pre ++ [x]).length := by simp
      dsimp only
      rw [e2]
      have nd' : p ∉ l.map (·.2) ∧ (l.map (·.2)).Nodup := by simpa using nd
      have hTOp : ∀ q ∈ l, q.2 ≠ TO := fun q hq e => by
        have : ∃ sr k, Src.it s.heap q.2 k sr := by
          clear hR na np nd nd' e1 e2 hl hT' hz
          induction d with
          | nil => cases hq
          | cons hit _ _ _ ih =>
            rcases List.mem_cons.mp hq with rfl | hq
            · exact ⟨_, _, hit⟩
            · exact ih hq
        obtain ⟨sr', k, o, ho, hc, _⟩ := this
        rw [e, hT] at ho
        cases ho
        cases sr' <;> (simp [Src.itn] at hc)
      have d' : Drw h' i l us := by
        have na' : ∀ q ∈ l, q.1.adr ≠ TO := fun q hq => na q (List.mem_cons_of_mem _ hq)
        have np' : ∀ q ∈ l, q.1.adr ≠ p := fun q hq => np q (List.mem_cons_of_mem _ hq) (sr, p) List.mem_cons_self
        have pp : ∀ q ∈ l, q.2 ≠ p := fun q hq e => nd'.1 (List.mem_map.mpr ⟨q, hq, e⟩)
        clear hR na np nd nd' e1 e2 hl hT' hz
        induction d with
        | nil => exact .nil
        | @cons sr1 p1 r1 x1 us1 xs1 hit1 hv1 hx1 t1 ih =>
          refine .cons (hit1.at fun o e => kp _ o (hTOp _ List.mem_cons_self) (pp _ List.mem_cons_self) e) (hv1.at fun o e => kp _ o (na' _ List.mem_cons_self) (np' _ List.mem_cons_self) e) hx1 ?_
          exact ih (fun q hq => hTOp q (List.mem_cons_of_mem _ hq)) (fun q hq => na' q (List.mem_cons_of_mem _ hq)) (fun q hq => np' q (List.mem_cons_of_mem _ hq)) (fun q hq => pp q (List.mem_cons_of_mem _ hq))
      refine z_loop hb l us (pre ++ [x]) post { s with heap := h' } d' hT' (by simpa using hl) (by simpa using hz) nd'.2 (fun q hq => na q (List.mem_cons_of_mem _ hq)) (fun q hq r hr => np q (List.mem_cons_of_mem _ hq) r (List.mem_cons_of_mem _ hr)) fun h'' t'' its'' kp'' sz'' => ?_
      have hpTO : p ≠ TO := fun e => by
        obtain ⟨o, ho, hc, _⟩ := hit
        rw [e, hT] at ho
        cases ho
        cases sr <;> (simp [Src.itn] at hc)
      refine hR h'' (by simpa using t'') (fun q hq => ?_) (fun b o b1 b2 e => ?_) (sz''.trans sz)
      · rcases List.mem_cons.mp hq with rfl | hq
        · exact it'.at fun o e => kp'' _ o hpTO nd'.1 e
        · exact its'' q hq
      · simp only [List.map_cons, List.mem_cons, not_or] at b2
        exact kp'' b o b1 b2.2 (kp b o b1 b2.1 e)
end
end DL
namespace DL
open PySem PySem.Spec L2
open PyProof.Rows hiding St
/-- a source has ended in this turn -/
inductive DrwE (h : Heap) (i : Nat) : List (Src × Addr) → Prop where
  | here {sr p r xs} (hit : Src.it h p i sr) (hv : sr.val h xs) (hx : xs[i]? = none) : DrwE h i ((sr, p) :: r)
  | there {sr p r x xs} (hit : Src.it h p i sr) (hv : sr.val h xs) (hx : xs[i]? = some x) (t : DrwE h i r) : DrwE h i ((sr, p) :: r)
/-- iterators and things walked, apart from each other and from the tuple at TO -/
structure ApZ (TO : Addr) (l : List (Src × Addr)) : Prop where
  nd : (l.map (·.2)).Nodup
  na : ∀ q ∈ l, q.1.adr ≠ TO
  np : ∀ q ∈ l, ∀ r ∈ l, q.1.adr ≠ r.2
  to : ∀ q ∈ l, q.2 ≠ TO
theorem ApZ.tail {TO : Addr} {q : Src × Addr} {l : List (Src × Addr)} (a : ApZ TO (q :: l)) : ApZ TO l :=
  ⟨(List.nodup_cons.mp (by simpa using a.nd)).2, fun q hq => a.na q (List.mem_cons_of_mem _ hq), fun q hq r hr => a.np q (List.mem_cons_of_mem _ hq) r (List.mem_cons_of_mem _ hr), fun q hq => a.to q (List.mem_cons_of_mem _ hq)⟩
section
variable {prog : Program} {w : World} {A : Around} {E : Value → Shared → Prop} {s : Shared}
theorem DrwE.at {TO p : Addr} {sr : Src} {i : Nat} {h h' : Heap} {l : List (Src × Addr)} (a : ApZ TO ((sr, p) :: l)) (kp : ∀ b o, b ≠ TO → b ≠ p → h.get? b = some o → h'.get? b = some o) (d : DrwE h i l) : DrwE h' i l := by
  have pp : ∀ q ∈ l, q.2 ≠ p := fun q hq e => (List.nodup_cons.mp (by simpa using a.nd)).1 (List.mem_map.mpr ⟨q, hq, e⟩)
  have np : ∀ q ∈ l, q.1.adr ≠ p := fun q hq => a.np q (List.mem_cons_of_mem _ hq) (sr, p) List.mem_cons_self
  have a' := a.tail
  clear a
  induction d with
  | here hit hv hx => exact .here (hit.at fun o e => kp _ o (a'.to _ List.mem_cons_self) (pp _ List.mem_cons_self) e) (hv.at fun o e => kp _ o (a'.na _ List.mem_cons_self) (np _ List.mem_cons_self) e) hx
  | there hit hv hx t ih =>
    exact .there (hit.at fun o e => kp _ o (a'.to _ List.mem_cons_self) (pp _ List.mem_cons_self) e) (hv.at fun o e => kp _ o (a'.na _ List.mem_cons_self) (np _ List.mem_cons_self) e) hx
      (ih (fun q hq => pp q (List.mem_cons_of_mem _ hq)) (fun q hq => np q (List.mem_cons_of_mem _ hq)) a'.tail)
theorem z_loopE {z TO : Addr} {i : Nat} {body : Value × Nat → Option Fin × PUnit → Sem (ForInStep (Option Fin × PUnit))} {R : Option Fin × PUnit → Shared → Prop} (hh : A.handled = none)
    (hb : ∀ (p : Addr) (k : Nat) (s : Shared) (R' : ForInStep (Option Fin × PUnit) → Shared → Prop), ZS prog w A E z TO p k (fun s' => R' (.yield (none, ⟨⟩)) s') s →
      wpAny (model prog w) A (body (.ref p, k) (none, ⟨⟩)) R' E s) :
    ∀ (l : List (Src × Addr)) (os : List Value) (n : Nat) (s : Shared), DrwE s.heap i l → Tp s.heap TO os → os.length ≤ 1000000 → ApZ TO l →
      (∀ h' e, (∀ b o, b ≠ TO → b ∉ l.map (·.2) → s.heap.get? b = some o → h'.get? b = some o) → (∃ o, h'.get? e = some o ∧ o.cls = .type "StopIteration") → wpAny (model prog w) A (setField (.ref z) 0 .none) (fun _ s'' => E (.ref e) s'') E { s with heap := h' }) →
      wpAny (model prog w) A (forIn ((l.map fun q => Value.ref q.2).zipIdx n) (none, ⟨⟩) body) R E s
  | [], os, n, s, d, hT, hz, a, hE => by cases d
  | (sr, p) :: l, os, n, s, d, hT, hz, a, hE => by
    rw [List.map_cons, List.zipIdx_cons, List.forIn_cons]
    refine wpAny_bind (hb p n s _ ?_)
    cases d with
    | here hit hv hx =>
      exact Src.next_end hh hit hv hx fun h' e xb st => hE h' e (fun b o b1 b2 q => xb b o (fun z => b2 (by rw [z]; simp)) q) st
    | there hit hv hx t =>
      refine z_step hT hz hit hv hx fun h' hT' it' kp sz => ?_
      refine z_loopE hh hb l _ (n + 1) { s with heap := h' } (t.at a kp) hT' (by simpa using hz) a.tail fun h'' e kp'' st => ?_
      refine hE h'' e (fun b o b1 b2 q => ?_) st
      simp only [List.map_cons, List.mem_cons, not_or] at b2
      exact kp'' b o b1 b2.2 (kp b o b1 b2.1 q)
/-- ahead of the draws of a turn -/
theorem zip_open {z TI TO : Addr} {l : List (Src × Addr)} {R : Fin → Shared → Prop} (hz : IsZip s.heap z TI TO .none) (hTI : Tp s.heap TI (l.map fun q => Value.ref q.2)) (hne : l ≠ [])
    (h : ∀ h₁, IsZip h₁ z TI TO .ellipsis → Heap.SameBut z s.heap h₁ → ∀ body : Value × Nat → Option Fin × PUnit → Sem (ForInStep (Option Fin × PUnit)),
      (∀ (p : Addr) (k : Nat) (s : Shared) (R' : ForInStep (Option Fin × PUnit) → Shared → Prop), ZS prog w A E z TO p k (fun s' => R' (.yield (none, ⟨⟩)) s') s →
        wpAny (model prog w) A (body (.ref p, k) (none, ⟨⟩)) R' E s) →
      wpAny (model prog w) A (forIn ((l.map fun q => Value.ref q.2).zipIdx 0) (none, ⟨⟩) body) (fun r s' => r.1 = none ∧ ∃ us, Tp s'.heap TO us ∧ us.length ≤ 1000000 ∧ IsZip s'.heap z TI TO .ellipsis ∧
        ∀ h', IsZip h' z TI TO (rawInt s'.heap.objs.size) → Tp h' s'.heap.objs.size us → h'.objs.size = s'.heap.objs.size + 1 → (∀ b o, b ≠ z → s'.heap.get? b = some o → h'.get? b = some o) → R (.done (.ret (.ref s'.heap.objs.size))) { s' with heap := h' }) E { s with heap := h₁ }) :
    wpAny (model prog w) A (Builtin.«zip.__next__» ⟨[.ref z], []⟩) R E s := by
  refine wpAny_bind (m := field (.ref z) 2) (wpAny_field hz rfl (x := .bool false) rfl (wpAny_bind (m := field (.ref z) 3) (wpAny_field hz rfl (x := .ref TI) rfl (wpAny_bind (m := seqItems? (.ref TI)) (wpAny_seqItems hTI rfl ?_)))))
  dsimp only
  have hemp : (l.map fun q => Value.ref q.2).toArray.isEmpty = false := by cases l with
    | nil => exact absurd rfl hne
    | cons _ _ => simp
  rw [hemp]
  refine wpAny_bind (m := Builtin.SmallTypes.ownedTupleIsFree (.ref z)) ?_
  unfold Builtin.SmallTypes.ownedTupleIsFree
  refine wpAny_bind (wpAny_field hz rfl (x := .none) rfl (wpAny_pure ?_))
  simp only [if_true]
  refine wpAny_bind (wpAny_rule (wpAny_bind (wpAny_field hz rfl (x := .ref TO) rfl (wpAny_bind (wpAny_setField_rec hz (by simp) fun h₁ hz₁ hs₁ => ?_)))))
  refine wpAny_bind (wpAny_mono (h h₁ hz₁ hs₁ _ fun p k s R' hst => ?_) (fun r s' hr => ?_) fun _ _ x => x)
  · refine wpAny_bind (wpAny_onRaise ?_)
    show wpAny _ _ (Builtin.SmallTypes.nextOf (.ref p) >>= fun v => pure (some v)) _ _ s
    refine wpAny_bind (wpAny_mono hst (fun x s1 hx => wpAny_pure ?_) fun _ _ x => x)
    obtain ⟨os, hT, hl, hR⟩ := hx
    dsimp only
    refine wpAny_bind (wpAny_seqItems hT rfl ?_)
    dsimp only
    exact wpAny_bind (up_seq hT hl fun h' t' sb => wpAny_bind (wpAny_letGo (wpAny_pure (hR h' t' sb))))
  · obtain ⟨hn, us, hT, hl, hzz, hR⟩ := hr
    rw [hn]
    dsimp only
    refine wpAny_bind (wpAny_seqItems hT rfl ?_)
    dsimp only
    refine wpAny_bind (wpAny_newTuple ?_ (by show us.toArray.toList.length ≤ _; simpa using Nat.le_trans hl size6))
    have hzlt : z < s'.heap.objs.size := Heap.lt_size hzz
    refine wpAny_bind (m := Builtin.SmallTypes.ownedTupleHandOut _ _) ?_
    unfold Builtin.SmallTypes.ownedTupleHandOut
    have e1 : us.toArray.toList.toArray = us.toArray := by simp
    rw [e1]
    have hz2 : IsZip (s'.heap.push { cls := .type "tuple", data := .seq us.toArray }) z TI TO .ellipsis := Heap.get?_push_of_some _ hzz
    refine wpAny_bind (wpAny_setField_rec hz2 (by simp) fun h₇ hz₇ hs₇ => ?_)
    refine wpAny_setField_rec hz₇ (by simp) fun h₈ hz₈ hs₈ => ?_
    refine wpAny_pure (hR h₈ hz₈ ?_ ?_ fun b o hb q => hs₈.extBut _ _ hb (hs₇.extBut _ _ hb (Heap.get?_push_of_some _ q)))
    · exact hs₈.extBut _ _ (Nat.ne_of_gt hzlt) (hs₇.extBut _ _ (Nat.ne_of_gt hzlt) (Heap.get?_push_size _ rfl))
    · rw [hs₈.1]; show h₇.objs.size = _; rw [hs₇.1, Heap.size_push]
theorem zip_item {z TI TO : Addr} {i : Nat} {l : List (Src × Addr)} {us os : List Value} {Q : Option Value → Shared → Prop} (hz : IsZip s.heap z TI TO .none) (hTI : Tp s.heap TI (l.map fun q => Value.ref q.2)) (hTO : Tp s.heap TO os) (hlen : os.length = l.length) (hsz : l.length ≤ 1000000) (hne : l ≠ [])
    (a : ApZ TO l) (zz : z ≠ TO ∧ (∀ q ∈ l, q.2 ≠ z ∧ q.1.adr ≠ z)) (d : Drw s.heap i l us)
    (hQ : ∀ h', IsZip h' z TI TO (rawInt s.heap.objs.size) → Tp h' TO us → (∀ q ∈ l, q.1.it h' q.2 (i + 1)) → Tp h' s.heap.objs.size us → h'.objs.size = s.heap.objs.size + 1 →
      (∀ b o, b ≠ z → b ≠ TO → b ∉ l.map (·.2) → s.heap.get? b = some o → h'.get? b = some o) → Q (some (.ref s.heap.objs.size)) { s with heap := h' }) : wpAny (model prog w) A (pyNext (.ref z)) Q E s := by
  have hT : s.TypeIs (.ref z) "zip" := ⟨_, hz, rfl⟩
  unfold pyNext
  refine wpAny_bind (wpAny_attempt (wpAny_callSpecial?_slot (name := Str.ofString "__next__") hT PySem.F.slot_zip_next (wpAny_call_entry PySem.F.slot_zip_next hT PySem.F.entry_zip_next ?_ (PySem.F.args_zip_next_1 _))))
  refine zip_open hz hTI hne fun h₁ hz₁ hs₁ body hb => ?_
  have k₁ : ∀ b o, b ≠ z → s.heap.get? b = some o → h₁.get? b = some o := fun b o hb q => hs₁.extBut b o hb q
  have d₁ : Drw h₁ i l us := by
    have h1 : ∀ q ∈ l, q.2 ≠ z ∧ q.1.adr ≠ z := zz.2
    clear hTI hlen hsz hne a zz hQ
    induction d with
    | nil => exact .nil
    | cons hit hv hx t ih => exact .cons (hit.at fun o e => k₁ _ o (h1 _ List.mem_cons_self).1 e) (hv.at fun o e => k₁ _ o (h1 _ List.mem_cons_self).2 e) hx (ih fun q hq => h1 q (List.mem_cons_of_mem _ hq))
  refine z_loop (z := z) (TO := TO) (i := i) hb l us [] os { s with heap := h₁ } d₁ (k₁ _ _ (Ne.symm zz.1) hTO) hlen (by simpa [hlen] using hsz) a.nd a.na a.np fun h₂ t₂ it₂ k₂ sz₂ => ⟨rfl, us, t₂, by rw [d.length]; exact hsz, ?_, fun h₃ z₃ p₃ s₃ k₃ => ?_⟩
  · refine k₂ _ _ zz.1 (fun hm => ?_) hz₁
    obtain ⟨q, hq, e⟩ := List.mem_map.mp hm
    exact (zz.2 q hq).1 e
  · have e2 : h₂.objs.size = s.heap.objs.size := by rw [sz₂]; exact hs₁.1
    refine ⟨_, rfl, wpAny_pure ?_⟩
    show Q (some (.ref h₂.objs.size)) _
    have z₃' : IsZip h₃ z TI TO (rawInt h₂.objs.size) := z₃
    have p₃' : Tp h₃ h₂.objs.size us := p₃
    have s₃' : h₃.objs.size = h₂.objs.size + 1 := s₃
    have k₃' : ∀ b o, b ≠ z → h₂.get? b = some o → h₃.get? b = some o := k₃
    rw [e2] at z₃' p₃' s₃' ⊢
    exact hQ h₃ z₃' (k₃' _ _ (Ne.symm zz.1) t₂) (fun q hq => (it₂ q hq).at fun o e => k₃' _ o (zz.2 q hq).1 e) p₃' s₃' fun b o b1 b2 b3 q => k₃' b o b1 (k₂ b o b2 b3 (k₁ b o b1 q))
theorem zip_end {z TI TO : Addr} {i : Nat} {l : List (Src × Addr)} {os : List Value} {Q : Option Value → Shared → Prop} (hh : A.handled = none) (hz : IsZip s.heap z TI TO .none) (hTI : Tp s.heap TI (l.map fun q => Value.ref q.2)) (hTO : Tp s.heap TO os) (hlen : os.length = l.length) (hsz : l.length ≤ 1000000) (hne : l ≠ [])
    (a : ApZ TO l) (zz : z ≠ TO ∧ (∀ q ∈ l, q.2 ≠ z ∧ q.1.adr ≠ z)) (d : DrwE s.heap i l)
    (hQ : ∀ h', (∀ b o, b ≠ z → b ≠ TO → b ∉ l.map (·.2) → s.heap.get? b = some o → h'.get? b = some o) → Q none { s with heap := h' }) : wpAny (model prog w) A (pyNext (.ref z)) Q E s := by
  have hT : s.TypeIs (.ref z) "zip" := ⟨_, hz, rfl⟩
  unfold pyNext
  refine wpAny_bind (wpAny_attempt (wpAny_callSpecial?_slot (name := Str.ofString "__next__") hT PySem.F.slot_zip_next (wpAny_call_entry PySem.F.slot_zip_next hT PySem.F.entry_zip_next ?_ (PySem.F.args_zip_next_1 _))))
  refine zip_open hz hTI hne fun h₁ hz₁ hs₁ body hb => ?_
  have k₁ : ∀ b o, b ≠ z → s.heap.get? b = some o → h₁.get? b = some o := fun b o hb q => hs₁.extBut b o hb q
  have d₁ : DrwE h₁ i l := by
    have h1 : ∀ q ∈ l, q.2 ≠ z ∧ q.1.adr ≠ z := zz.2
    clear hTI hlen hsz hne a zz hQ
    induction d with
    | here hit hv hx => exact .here (hit.at fun o e => k₁ _ o (h1 _ List.mem_cons_self).1 e) (hv.at fun o e => k₁ _ o (h1 _ List.mem_cons_self).2 e) hx
    | there hit hv hx t ih => exact .there (hit.at fun o e => k₁ _ o (h1 _ List.mem_cons_self).1 e) (hv.at fun o e => k₁ _ o (h1 _ List.mem_cons_self).2 e) hx (ih fun q hq => h1 q (List.mem_cons_of_mem _ hq))
  refine z_loopE (A := A.in1) (z := z) (TO := TO) (i := i) (show A.in1.handled = none from hh) hb l os 0 { s with heap := h₁ } d₁ (k₁ _ _ (Ne.symm zz.1) hTO) (by rw [hlen]; exact hsz) a fun h₂ e k₂ st => ?_
  have hz₂ : IsZip h₂ z TI TO .ellipsis := by
    refine k₂ _ _ zz.1 (fun hm => ?_) hz₁
    obtain ⟨q, hq, e⟩ := List.mem_map.mp hm
    exact (zz.2 q hq).1 e
  obtain ⟨o, ho, hc⟩ := st
  have hez : e ≠ z := fun x => by subst x; rw [hz₂] at ho; cases ho; simp at hc
  refine wpAny_setField_rec hz₂ (by simp) fun h₃ _ hs₃ => ?_
  refine wpAny_bind (wpAny_isInstance (T := "StopIteration") (b := true) ⟨o, hs₃.extBut _ _ hez ho, hc⟩ isSubtype_stop (wpAny_pure ?_))
  exact hQ h₃ fun b o b1 b2 b3 q => hs₃.extBut _ _ b1 (k₂ b o b2 b3 (k₁ b o b1 q))
/-- iterators over some sources, one behind the other -/
theorem iter_all : ∀ (ls : List Src) (pre : Array Value) (s : Shared) {Q : Array Value → Shared → Prop}, (∀ sr ∈ ls, ∃ xs, sr.val s.heap xs) →
    (∀ h', (∀ q ∈ ls.zipIdx s.heap.objs.size, q.1.it h' q.2 0) → h'.objs.size = s.heap.objs.size + ls.length → (∀ b o, s.heap.get? b = some o → h'.get? b = some o) → Q (pre ++ ((ls.zipIdx s.heap.objs.size).map fun q => Value.ref q.2).toArray) { s with heap := h' }) →
    wpAny (model prog w) A (forIn (ls.map fun sr => Value.ref sr.adr) pre fun x r => do let v ← holding r.toList (pyIter x); pure (ForInStep.yield (r.push v))) Q E s
  | [], pre, s, Q, hv, h => by
    rw [List.map_nil, List.forIn_nil]
    refine wpAny_pure ?_
    have := h s.heap (fun q hq => by cases hq) rfl (fun _ _ e => e)
    simpa using this
  | sr :: ls, pre, s, Q, hv, h => by
    rw [List.map_cons, List.forIn_cons]
    obtain ⟨xs, hx⟩ := hv sr List.mem_cons_self
    refine wpAny_bind (wpAny_bind (wpAny_holding (Src.iter hx (wpAny_pure ?_))))
    dsimp only
    have z1 : (s.heap.push { cls := .type sr.itn, data := .fields #[.ref sr.adr, .int 0 0] }).objs.size = s.heap.objs.size + 1 := Heap.size_push ..
    refine iter_all ls (pre.push (.ref s.heap.objs.size)) { s with heap := s.heap.push { cls := .type sr.itn, data := .fields #[.ref sr.adr, .int 0 0] } } (fun sr' hm => ?_) fun h' hi hz kp => ?_
    · obtain ⟨ys, hy⟩ := hv sr' (List.mem_cons_of_mem _ hm)
      exact ⟨ys, hy.at fun o e => Heap.get?_push_of_some _ e⟩
    · dsimp only at hi hz kp ⊢
      rw [z1] at hi hz ⊢
      have := h h' (fun q hq => ?_) (by rw [hz, List.length_cons]; omega) (fun b o e => kp b o (Heap.get?_push_of_some _ e))
      · rw [List.zipIdx_cons, List.map_cons] at this
        simpa using this
      · rw [List.zipIdx_cons] at hq
        rcases List.mem_cons.mp hq with rfl | hq
        · exact ⟨_, kp _ _ (Heap.get?_push_size _ rfl), rfl, rfl⟩
        · exact hi q hq
theorem new_zip {ls : List Src} {Q : Value → Shared → Prop} (hv : ∀ sr ∈ ls, ∃ xs, sr.val s.heap xs) (hl : ls.length ≤ 1000000)
    (hct : checkTypeCall "zip" ⟨ls.map fun sr => Value.ref sr.adr, []⟩ = pure ()) (hcn : checkBuiltinCall "zip.__new__" ⟨.type "zip" :: ls.map fun sr => Value.ref sr.adr, []⟩ = pure ()) (hok : ∀ obj, argsOk "object.__init__" ⟨obj :: ls.map fun sr => Value.ref sr.adr, []⟩)
    (h : ∀ h' n, n = s.heap.objs.size + ls.length → IsZip h' (n + 2) n (n + 1) .none → Tp h' n ((ls.zipIdx s.heap.objs.size).map fun q => Value.ref q.2) → Tp h' (n + 1) (ls.map fun _ => Value.none) → (∀ q ∈ ls.zipIdx s.heap.objs.size, q.1.it h' q.2 0) →
      (∀ b o, s.heap.get? b = some o → h'.get? b = some o) → Q (.ref (n + 2)) { s with heap := h' }) :
    wpAny (model prog w) A (call (.type "zip") (ls.map fun sr => Value.ref sr.adr)) Q E s := by
  have g : Meets (Builtin.«zip.__new__» ⟨.type "zip" :: ls.map fun sr => Value.ref sr.adr, []⟩) (fun _ R s => (∀ sr ∈ ls, ∃ xs, sr.val s.heap xs) ∧
      ∀ h' n, n = s.heap.objs.size + ls.length → IsZip h' (n + 2) n (n + 1) .none → Tp h' n ((ls.zipIdx s.heap.objs.size).map fun q => Value.ref q.2) → Tp h' (n + 1) (ls.map fun _ => Value.none) → (∀ q ∈ ls.zipIdx s.heap.objs.size, q.1.it h' q.2 0) →
        (∀ b o, s.heap.get? b = some o → h'.get? b = some o) → R (.ok (.ret (.ref (n + 2)))) { s with heap := h' }) :=
    .of_wp fun prog w A R s hh => by
      obtain ⟨hv, hR⟩ := hh
      have hsub := sub_zip
      unfold Builtin.«zip.__new__» Builtin.SmallTypes.newClass
      wp_walk
      refine iter_all ls #[] s hv fun h1 hi hz kp => wpAny_pure ?_
      have e1 : (#[] ++ ((ls.zipIdx s.heap.objs.size).map fun q => Value.ref q.2).toArray : Array Value).toList = (ls.zipIdx s.heap.objs.size).map fun q => Value.ref q.2 := by simp
      rw [e1]
      have hlen : ((ls.zipIdx s.heap.objs.size).map fun q => Value.ref q.2).length = ls.length := by simp
      refine wpAny_bind (wpAny_newTuple ?_ (by rw [hlen]; exact Nat.le_trans hl size6))
      refine wpAny_bind (wpAny_newTuple ?_ (by rw [List.length_map, hlen]; exact Nat.le_trans hl size6))
      refine wpAny_bind ?_
      unfold Builtin.SmallTypes.newRecord
      dsimp only
      refine wpAny_newObj_type (wpAny_pure ⟨_, rfl, ?_⟩) (by simp [sizeOk, Builtin.SmallTypes.ownedTupleFields, sizeLine_eq])
      generalize e2 : s.heap.objs.size + ls.length = n at *
      have e3 : ((ls.zipIdx s.heap.objs.size).map fun q => Value.ref q.2).map (fun _ => Value.none) = ls.map fun _ => Value.none := by
        refine List.ext_getElem (by simp) fun i h1 h2 => by simp
      dsimp only
      rw [e3]
      generalize ((ls.zipIdx s.heap.objs.size).map fun q => Value.ref q.2) = us at *
      generalize (ls.map fun _ => Value.none) = ns at *
      have s1 : (h1.push { cls := .type "tuple", data := .seq us.toArray }).objs.size = n + 1 := by rw [Heap.size_push, hz]
      have s2 : ((h1.push { cls := .type "tuple", data := .seq us.toArray }).push { cls := .type "tuple", data := .seq ns.toArray }).objs.size = n + 2 := by rw [Heap.size_push, s1]
      show R (.ok (.ret (.ref ((h1.push { cls := .type "tuple", data := .seq us.toArray }).push { cls := .type "tuple", data := .seq ns.toArray }).objs.size))) _
      rw [s2]
      refine hR _ n rfl ?_ (Heap.get?_push_of_some _ (Heap.get?_push_of_some _ (by rw [← hz]; exact Heap.get?_push_size _ rfl))) (Heap.get?_push_of_some _ (by rw [← s1]; exact Heap.get?_push_size _ rfl)) (fun q hq => (hi q hq).at fun o e => Heap.get?_push_of_some _ (Heap.get?_push_of_some _ (Heap.get?_push_of_some _ e))) fun b o e => Heap.get?_push_of_some _ (Heap.get?_push_of_some _ (Heap.get?_push_of_some _ (kp b o e)))
      have := Heap.get?_push_size ((h1.push { cls := .type "tuple", data := .seq us.toArray }).push { cls := .type "tuple", data := .seq ns.toArray }) (o := { cls := .type "zip", data := .fields #[.none, .bool false, .bool false, .ref h1.objs.size, .ref (h1.push { cls := .type "tuple", data := .seq us.toArray }).objs.size] }) rfl
      rw [s2] at this
      rw [hz, s1] at this
      show _ = _
      rw [hz, s1]
      exact this
  refine callType_new PySem.F.called_zip (by decide) hct hcn hok PySem.F.entry_zip_new g ⟨hv, fun h' n hn hz hTI hTO hi kp => ⟨⟨_, hz, rfl⟩, h h' n hn hz hTI hTO hi kp⟩⟩
end
end DL
namespace DL
open PySem PySem.W PyProof.Rows
/-! ### the order that a sort tells -/
/-- a tree of askings, run by an oracle -/
def askR (lt : Nat → Nat → Bool) {α : Type} : KasT α → α
  | .ret a => a
  | .ask i j k => askR lt (k (lt i j))
theorem askR_bind (lt : Nat → Nat → Bool) {α β : Type} (f : α → KasT β) : ∀ t : KasT α, askR lt (t.bind f) = askR lt (f (askR lt t))
  | .ret _ => rfl
  | .ask i j k => askR_bind lt f (k (lt i j))
/-- a weak order -/
structure WO (lt : Nat → Nat → Bool) : Prop where
  asy : ∀ i j, lt i j = true → lt j i = false
  neg : ∀ i j k, lt i k = true → lt i j = true ∨ lt j k = true
variable {lt : Nat → Nat → Bool}
theorem WO.refl (o : WO lt) (i : Nat) : lt i i = false := by
  cases h : lt i i
  · rfl
  · have := o.asy i i h; rw [h] at this; exact this
/-- not behind -/
theorem WO.tr (o : WO lt) {i j k : Nat} (h1 : lt j i = false) (h2 : lt k j = false) : lt k i = false := by
  cases h : lt k i
  · rfl
  · rcases o.neg k j i h with z | z
    · rw [z] at h2; cases h2
    · rw [z] at h1; cases h1
abbrev pt (p : Array Nat) (j : Nat) : Nat := p.getD j 0
theorem pt_eq (p : Array Nat) (j : Nat) : pt p j = (p[j]?).getD 0 := by simp [pt]
def Srt (lt : Nat → Nat → Bool) (p : Array Nat) (k : Nat) : Prop := ∀ i j, i ≤ j → j < k → lt (pt p j) (pt p i) = false
def NIn (lt : Nat → Nat → Bool) (p : Array Nat) (k : Nat) : Prop := ∀ i j, i ≤ j → j < k → lt (pt p i) (pt p j) = false
theorem pt_rev {p : Array Nat} {i j : Nat} (hj : j ≤ p.size) (k : Nat) : pt (kas_rev p i j) k = if i ≤ k ∧ k < j then pt p (i + j - 1 - k) else pt p k := by
  rw [pt_eq, kas_rev, getElem?_mirror_all hj]
  split <;> exact (pt_eq ..).symm
theorem pt_bub {p : Array Nat} {src d : Nat} (hs : src < p.size) (hd : d ≤ src) (k : Nat) : pt (bubble p src d) k = if k = src - d then pt p src else if src - d < k ∧ k ≤ src then pt p (k - 1) else pt p k := by
  rw [pt_eq, getElem?_bubble hs d hd]
  by_cases h1 : k = src - d
  · rw [if_pos h1, if_pos h1]; exact (pt_eq ..).symm
  · rw [if_neg h1, if_neg h1]
    by_cases h2 : src - d < k ∧ k ≤ src
    · rw [if_pos h2, if_pos h2]; exact (pt_eq ..).symm
    · rw [if_neg h2, if_neg h2]; exact (pt_eq ..).symm
theorem asc_ok (o : WO lt) (p : Array Nat) : ∀ f n, 1 ≤ n → Srt lt p n → ∀ m, askR lt (kas_asc p f n) = m → n ≤ m ∧ m ≤ n + f ∧ Srt lt p m ∧ (m < n + f → lt (pt p m) (pt p (m - 1)) = true)
  | 0, n, h1, h, m, e => by
    have e' : n = m := e
    subst e'
    exact ⟨Nat.le_refl _, Nat.le_refl _, h, fun z => absurd z (Nat.lt_irrefl _)⟩
  | f + 1, n, h1, h, m, e => by
    unfold kas_asc at e
    have e1 : askR lt (if lt (pt p n) (pt p (n - 1)) = true then KasT.ret n else kas_asc p f (n + 1)) = m := e
    cases hc : lt (pt p n) (pt p (n - 1)) with
    | true =>
      rw [hc, if_pos rfl] at e1
      have e' : n = m := e1
      subst e'
      exact ⟨Nat.le_refl _, by omega, h, fun _ => hc⟩
    | false =>
      rw [hc, if_neg (by simp)] at e1
      have h' : Srt lt p (n + 1) := fun i j hij hj => by
        by_cases e : j < n
        · exact h i j hij e
        · have e' : j = n := by omega
          subst e'
          by_cases e2 : i = j
          · rw [e2]; exact o.refl _
          · exact o.tr (h i (j - 1) (by omega) (by omega)) hc
      obtain ⟨a, b, c, d⟩ := asc_ok o p f (n + 1) (by omega) h' m e1
      exact ⟨by omega, by omega, c, fun z => d (by omega)⟩
/-- what the part that goes down leaves: nowhere behind, the last q + 1 alike -/
structure Dn (lt : Nat → Nat → Bool) (p : Array Nat) (n q : Nat) : Prop where
  ni : NIn lt p n
  al : ∀ i j, n - (q + 1) ≤ i → i < n → n - (q + 1) ≤ j → j < n → lt (pt p i) (pt p j) = false
  qn : q + 1 ≤ n
theorem NIn.rev {p : Array Nat} {n q : Nat} (d : Dn lt p n q) (hn : n ≤ p.size) : NIn lt (kas_rev p (n - (q + 1)) n) n := fun i j hij hj => by
  have := d.qn
  rw [pt_rev hn, pt_rev hn]
  by_cases h1 : n - (q + 1) ≤ i
  · rw [if_pos ⟨h1, by omega⟩, if_pos ⟨by omega, hj⟩]
    exact d.al _ _ (by omega) (by omega) (by omega) (by omega)
  · rw [if_neg (by omega)]
    by_cases h2 : n - (q + 1) ≤ j
    · rw [if_pos ⟨h2, hj⟩]
      exact d.ni _ _ (by omega) (by omega)
    · rw [if_neg (by omega)]
      exact d.ni i j hij hj
theorem desc_ok (o : WO lt) : ∀ f (p : Array Nat) n q, n + f ≤ p.size → Dn lt p n q → ∀ r, askR lt (kas_desc f p n q) = r → r.1.Perm p ∧ r.2.1 ≤ n + f ∧ n ≤ r.2.1 ∧ Dn lt r.1 r.2.1 r.2.2
  | 0, p, n, q, hz, d, r, e => by
    have e' : (p, n, q) = r := e
    subst e'
    exact ⟨.refl _, Nat.le_refl _, Nat.le_refl _, d⟩
  | f + 1, p, n, q, hz, d, r, e => by
    have qn := d.qn
    unfold kas_desc at e
    have e1 : askR lt (if lt (pt p n) (pt p (n - 1)) = true then (if q > 0 then kas_desc f (kas_rev p (n - (q + 1)) n) (n + 1) 0 else kas_desc f p (n + 1) 0)
      else .ask (p.getD (n - 1) 0) (p.getD n 0) fun d => if d = true then .ret (p, n, q) else kas_desc f p (n + 1) (q + 1)) = r := e
    clear e
    cases hc : lt (pt p n) (pt p (n - 1)) with
    | true =>
      rw [hc, if_pos rfl] at e1
      have ext : ∀ p' : Array Nat, NIn lt p' n → pt p' n = pt p n → (∀ k, k < n → lt (pt p n) (pt p' k) = true ∨ k < n) → lt (pt p' (n - 1)) (pt p' n) = false → Dn lt p' (n + 1) 0 := fun p' hni _ _ hl => by
        refine ⟨fun i j hij hj => ?_, fun i j h1 h2 h3 h4 => ?_, by omega⟩
        · by_cases e : j < n
          · exact hni i j hij e
          · have e' : j = n := by omega
            subst e'
            by_cases e2 : i = j
            · rw [e2]; exact o.refl _
            · exact o.tr hl (hni i (j - 1) (by omega) (by omega))
        · have e1 : i = n := by omega
          have e2 : j = n := by omega
          rw [e1, e2]; exact o.refl _
      by_cases hq : q > 0
      · rw [if_pos hq] at e1
        have hl : lt (pt (kas_rev p (n - (q + 1)) n) (n - 1)) (pt (kas_rev p (n - (q + 1)) n) n) = false := by
          rw [pt_rev (by omega), pt_rev (by omega), if_pos (by omega), if_neg (by omega)]
          cases hx : lt (pt p (n - (q + 1) + n - 1 - (n - 1))) (pt p n)
          · rfl
          · rcases o.neg _ (pt p (n - 1)) _ hx with z | z
            · rw [d.al _ _ (by omega) (by omega) (by omega) (by omega)] at z; cases z
            · rw [o.asy _ _ hc] at z; cases z
        obtain ⟨a, b, c, dd⟩ := desc_ok o f _ (n + 1) 0 (by rw [kas_rev, mirror_size]; omega) (ext _ (NIn.rev d (by omega)) (by rw [pt_rev (by omega), if_neg (by omega)]) (fun k hk => .inr hk) hl) r e1
        exact ⟨a.trans (mirror_perm ..), by omega, by omega, dd⟩
      · rw [if_neg hq] at e1
        obtain ⟨a, b, c, dd⟩ := desc_ok o f p (n + 1) 0 (by omega) (ext p d.ni rfl (fun k hk => .inr hk) (o.asy _ _ hc)) r e1
        exact ⟨a, by omega, by omega, dd⟩
    | false =>
      rw [hc, if_neg (by simp)] at e1
      have e2 : askR lt (if lt (pt p (n - 1)) (pt p n) = true then .ret (p, n, q) else kas_desc f p (n + 1) (q + 1)) = r := e1
      cases hd : lt (pt p (n - 1)) (pt p n) with
      | true =>
        rw [hd, if_pos rfl] at e2
        have e3 : (p, n, q) = r := e2
        subst e3
        exact ⟨.refl _, by show n ≤ _; omega, Nat.le_refl _, d⟩
      | false =>
        rw [hd, if_neg (by simp)] at e2
        have al' : ∀ i, n - (q + 1) ≤ i → i < n + 1 → lt (pt p i) (pt p n) = false ∧ lt (pt p n) (pt p i) = false := fun i h1 h2 => by
          by_cases e : i = n
          · rw [e]; exact ⟨o.refl _, o.refl _⟩
          · exact ⟨o.tr hd (d.al i (n - 1) h1 (by omega) (by omega) (by omega)), o.tr (d.al (n - 1) i (by omega) (by omega) h1 (by omega)) hc⟩
        obtain ⟨a, b, c, dd⟩ := desc_ok o f p (n + 1) (q + 1) (by omega) ⟨fun i j hij hj => by
          by_cases e : j < n
          · exact d.ni i j hij e
          · have e' : j = n := by omega
            subst e'
            by_cases e2 : i = j
            · rw [e2]; exact o.refl _
            · exact o.tr hd (d.ni i (j - 1) (by omega) (by omega)), fun i j h1 h2 h3 h4 => by
          by_cases ei : i = n
          · rw [ei]; exact (al' j (by omega) h4).2
          · by_cases ej : j = n
            · rw [ej]; exact (al' i (by omega) h2).1
            · exact d.al i j (by omega) (by omega) (by omega) (by omega), by omega⟩ r e2
        exact ⟨a, by omega, by omega, dd⟩
theorem tail3_ok (o : WO lt) {p : Array Nat} {n nrem : Nat} (h1 : 1 ≤ n) (hn : n ≤ nrem) (hz : nrem ≤ p.size) (d : NIn lt p n) : ∀ r, askR lt (kas_tail3 n nrem p) = r → r.2.Perm p ∧ r.1 ≤ nrem ∧ 1 ≤ r.1 ∧ Srt lt r.2 r.1 := by
  intro r e
  unfold kas_tail3 at e
  rw [askR_bind] at e
  have s0 : Srt lt (kas_rev p 0 n) n := fun i j hij hj => by
    rw [pt_rev (by omega), pt_rev (by omega), if_pos (by omega), if_pos (by omega)]
    exact d _ _ (by omega) (by omega)
  obtain ⟨a, b, c, _⟩ := asc_ok o (kas_rev p 0 n) (nrem - n) n h1 s0 _ rfl
  have e' : (askR lt (kas_asc (kas_rev p 0 n) (nrem - n) n), kas_rev p 0 n) = r := e
  subst e'
  exact ⟨mirror_perm .., by show askR lt (kas_asc (kas_rev p 0 n) (nrem - n) n) ≤ nrem; omega, by show 1 ≤ askR lt (kas_asc (kas_rev p 0 n) (nrem - n) n); omega, c⟩
theorem descPart_ok (o : WO lt) {p : Array Nat} {n nrem : Nat} (h1 : 1 ≤ n) (hn : n < nrem) (hz : nrem ≤ p.size) (al : ∀ i j, i < n → j < n → lt (pt p i) (pt p j) = false) (hl : lt (pt p n) (pt p (n - 1)) = true) :
    ∀ r, askR lt (kas_descPart n nrem p) = r → r.2.Perm p ∧ r.1 ≤ nrem ∧ 1 ≤ r.1 ∧ Srt lt r.2 r.1 := by
  intro r e
  unfold kas_descPart at e
  rw [askR_bind] at e
  have d0 : Dn lt p (n + 1) 0 := ⟨fun i j hij hj => by
    by_cases e : j < n
    · exact al i j (by omega) e
    · have e' : j = n := by omega
      subst e'
      by_cases e2 : i = j
      · rw [e2]; exact o.refl _
      · exact o.tr (o.asy _ _ hl) (al i (j - 1) (by omega) (by omega)), fun i j _ _ _ _ => by
    have e1 : i = n := by omega
    have e2 : j = n := by omega
    rw [e1, e2]; exact o.refl _, by omega⟩
  obtain ⟨a, b, c, dd⟩ := desc_ok o (nrem - (n + 1)) p (n + 1) 0 (by omega) d0 _ rfl
  revert a b c dd e
  generalize askR lt (kas_desc (nrem - (n + 1)) p (n + 1) 0) = x
  intro e a b c dd
  have hx : x.1.size = p.size := a.size_eq
  split at e
  · obtain ⟨a', b', c', d'⟩ := tail3_ok o (by omega) (by omega) (by rw [kas_rev, mirror_size]; omega) (NIn.rev dd (by omega)) r e
    exact ⟨(a'.trans (mirror_perm ..)).trans a, b', c', d'⟩
  · obtain ⟨a', b', c', d'⟩ := tail3_ok o (by omega) (by omega) (by omega) dd.ni r e
    exact ⟨a'.trans a, b', c', d'⟩
theorem count_ok (o : WO lt) {p : Array Nat} {nrem : Nat} (h1 : 1 ≤ nrem) (hz : nrem ≤ p.size) : ∀ r, askR lt (kas_count nrem p) = r → r.2.Perm p ∧ r.1 ≤ nrem ∧ 1 ≤ r.1 ∧ Srt lt r.2 r.1 := by
  intro r e
  unfold kas_count at e
  rw [askR_bind] at e
  obtain ⟨a, b, c, d⟩ := asc_ok o p (nrem - 1) 1 (Nat.le_refl _) (fun i j hij hj => by
    have e1 : i = 0 := by omega
    have e2 : j = 0 := by omega
    rw [e1, e2]; exact o.refl _) _ rfl
  revert a b c d e
  generalize askR lt (kas_asc p (nrem - 1) 1) = n
  intro e a b c d
  split at e
  · have e' : (n, p) = r := e
    subst e'
    exact ⟨.refl _, by show n ≤ nrem; omega, a, c⟩
  · rename_i hne
    have hn : n < nrem := by
      have : n ≠ nrem := by simpa using hne
      omega
    have hl := d (by omega)
    split at e
    · rename_i hgt
      have e' : askR lt (if lt (pt p 0) (pt p (n - 1)) = true then .ret (n, p) else kas_descPart n nrem (kas_rev p 0 n)) = r := e
      cases hc : lt (pt p 0) (pt p (n - 1)) with
      | true =>
        rw [hc, if_pos rfl] at e'
        have e2 : (n, p) = r := e'
        subst e2
        exact ⟨.refl _, by show n ≤ nrem; omega, a, c⟩
      | false =>
        rw [hc, if_neg (by simp)] at e'
        have al : ∀ i j, i < n → j < n → lt (pt p i) (pt p j) = false := fun i j hi hj => o.tr (c j (n - 1) (by omega) (by omega) |> fun z => z) (o.tr hc (c 0 i (by omega) hi) |> fun z => by
          exact z)
        obtain ⟨a', b', c', d'⟩ := descPart_ok o (p := kas_rev p 0 n) a hn (by rw [kas_rev, mirror_size]; omega) (fun i j hi hj => by
          rw [pt_rev (by omega), pt_rev (by omega), if_pos (by omega), if_pos (by omega)]
          exact al _ _ (by omega) (by omega)) (by
          rw [pt_rev (by omega), pt_rev (by omega), if_neg (by omega), if_pos (by omega)]
          rcases o.neg _ (pt p (0 + n - 1 - (n - 1))) _ hl with z | z
          · exact z
          · rw [al _ _ (by omega) (by omega)] at z; cases z) r e'
        exact ⟨a'.trans (mirror_perm ..), b', c', d'⟩
    · have e1 : n = 1 := by omega
      subst e1
      exact descPart_ok o (Nat.le_refl _) hn hz (fun i j hi hj => by
        have e1 : i = 0 := by omega
        have e2 : j = 0 := by omega
        rw [e1, e2]; exact o.refl _) hl r e
theorem place_ok (o : WO lt) (p : Array Nat) (k : Nat) (hs : Srt lt p k) : ∀ f l r, r - l ≤ f → l ≤ r → r ≤ k → (∀ i, i < l → lt (pt p k) (pt p i) = false) → (∀ i, r ≤ i → i < k → lt (pt p k) (pt p i) = true) →
    ∀ m, askR lt (kas_place p k f l r) = m → m ≤ k ∧ (∀ i, i < m → lt (pt p k) (pt p i) = false) ∧ (∀ i, m ≤ i → i < k → lt (pt p k) (pt p i) = true)
  | 0, l, r, hf, hlr, hr, h1, h2, m, e => by
    have e' : l = m := e
    subst e'
    exact ⟨by omega, h1, fun i hi hk => h2 i (by omega) hk⟩
  | f + 1, l, r, hf, hlr, hr, h1, h2, m, e => by
    unfold kas_place at e
    split at e
    · have e' : l = m := e
      subst e'
      exact ⟨by omega, h1, fun i hi hk => h2 i (by omega) hk⟩
    · rename_i hlt
      have e' : askR lt (if lt (pt p k) (pt p ((l + r) / 2)) = true then kas_place p k f l ((l + r) / 2) else kas_place p k f ((l + r) / 2 + 1) r) = m := e
      cases hc : lt (pt p k) (pt p ((l + r) / 2)) with
      | true =>
        rw [hc, if_pos rfl] at e'
        refine place_ok o p k hs f l ((l + r) / 2) (by omega) (by omega) (by omega) h1 (fun i hi hk => ?_) m e'
        rcases o.neg _ (pt p i) _ hc with z | z
        · exact z
        · rw [hs _ i hi hk] at z; cases z
      | false =>
        rw [hc, if_neg (by simp)] at e'
        exact place_ok o p k hs f ((l + r) / 2 + 1) r (by omega) (by omega) hr (fun i hi => o.tr (hs i ((l + r) / 2) (by omega) (by omega)) hc) h2 m e'
theorem bin_ok (o : WO lt) : ∀ f (p : Array Nat) k, k + f = p.size → Srt lt p k → (askR lt (kas_bin f p k)).Perm p ∧ Srt lt (askR lt (kas_bin f p k)) p.size
  | 0, p, k, hz, hs => ⟨.refl _, by
    have : k = p.size := by omega
    rw [← this]; exact hs⟩
  | f + 1, p, k, hz, hs => by
    unfold kas_bin
    rw [askR_bind]
    obtain ⟨hm, h1, h2⟩ := place_ok o p k hs k 0 k (by omega) (by omega) (Nat.le_refl _) (fun i hi => by omega) (fun i hi hk => by omega) _ rfl
    revert hm h1 h2
    generalize askR lt (kas_place p k k 0 k) = m
    intro hm h1 h2
    have sz : (bubble p k (k - m)).size = p.size := bubble_size ..
    have hk : k < p.size := by omega
    have e : ∀ j, pt (bubble p k (k - m)) j = if j = m then pt p k else if m < j ∧ j ≤ k then pt p (j - 1) else pt p j := fun j => by
      rw [pt_bub hk (by omega)]
      have : k - (k - m) = m := by omega
      rw [this]
    obtain ⟨a, b⟩ := bin_ok o f (bubble p k (k - m)) (k + 1) (by omega) (fun i j hij hj => by
      rw [e i, e j]
      by_cases ji : j = m
      · rw [if_pos ji]
        by_cases ii : i = m
        · rw [if_pos ii]; exact o.refl _
        · rw [if_neg ii, if_neg (by omega)]
          exact h1 i (by omega)
      · rw [if_neg ji]
        by_cases jm : m < j
        · rw [if_pos ⟨jm, by omega⟩]
          by_cases ii : i = m
          · rw [if_pos ii]
            exact o.asy _ _ (h2 _ (by omega) (by omega))
          · rw [if_neg ii]
            by_cases im : m < i
            · rw [if_pos ⟨im, by omega⟩]
              exact hs _ _ (by omega) (by omega)
            · rw [if_neg (by omega)]
              exact hs _ _ (by omega) (by omega)
        · rw [if_neg (by omega), if_neg (by omega), if_neg (by omega)]
          exact hs i j hij (by omega))
    rw [sz] at b
    exact ⟨a.trans (bubble_perm ..), b⟩
/-- the sort's order: each number once, none ahead of one that goes ahead of it -/
theorem sort_ok (o : WO lt) {n : Nat} (hn : 1 ≤ n) : (askR lt (kas_sort n)).toList.Perm (List.range n) ∧ Srt lt (askR lt (kas_sort n)) n := by
  unfold kas_sort
  rw [askR_bind]
  obtain ⟨a, b, c, d⟩ := count_ok o (p := (List.range n).toArray) (nrem := n) hn (by simp) _ rfl
  revert a b c d
  generalize askR lt (kas_count n (List.range n).toArray) = x
  intro a b c d
  have hx : x.2.size = n := by rw [a.size_eq]; simp
  split
  · have e : max x.1 1 = x.1 := by omega
    rw [e]
    obtain ⟨a', b'⟩ := bin_ok o (n - x.1) x.2 x.1 (by omega) d
    rw [hx] at b'
    exact ⟨by simpa using (a'.trans a).toList, b'⟩
  · have e : x.1 = n := by omega
    rw [e] at d
    exact ⟨by simpa [askR] using a.toList, d⟩
end DL
namespace DL
open PySem PySem.Spec L2
open PyProof.Rows hiding St
section
variable {X : Cx} {pins : List (Addr × Obj)} {σ : St} {H : Hp} {s : Shared} {h' : Heap}
/-- some untracked records of ours have turned -/
theorem turnedL {t' : Nat} {fp : List Addr} (I : Inv X pins σ H s) (k : ∀ b o, b ∉ fp → s.heap.get? b = some o → h'.get? b = some o) (hf : ∀ b ∈ fp, FpOk X pins H b) : Inv X pins σ H { s with heap := h', toks := t' } := by
  have nit : ∀ b u, H b = some u → b ∉ fp := fun b u e z => by rw [(hf b z).1] at e; cases e
  refine I.step (g' := s.gens) (d' := s.drawn) (ch := fp) (fun b hb => ?_) (fun b o _ _ hc e _ => k b o hc e) (fun b o _ _ hc e _ => ⟨o.slots, k b o hc e⟩) (fun _ _ _ _ n => n)
    (fun b o hc e => ⟨o, k b o hc e⟩) (fun _ _ e => e) (fun _ _ _ e => e) (fun b ps e => ⟨#[], by rw [e]; simp⟩) (fun m hm => ?_) (fun b u e => ?_) I.bare
  · obtain ⟨f0, f1, f2, f3, f4, f5⟩ := hf b hb
    exact ⟨f3, f1, f4, f5⟩
  · obtain ⟨o, es, ep, ho, r⟩ := hm
    exact ⟨o, es, ep, k _ o (fun z => (hf _ z).2.1 rfl) ho, r⟩
  · refine (I.hok b u e).stay (fun c v hc q => k c v ?_ q) (fun _ q => q) fun _ _ q => q
    rcases hc with z | z
    · rw [z]; exact nit b u e
    · exact nit c _ z
/-- .. and a tuple was laid at p -/
theorem turnedT {t' : Nat} {fp : List Addr} {p : Addr} {xs : List V} {its : List Value} (I : Inv X pins σ H s) (k : ∀ b o, b ∉ fp → s.heap.get? b = some o → h'.get? b = some o) (hf : ∀ b ∈ fp, FpOk X pins H b) (hp : s.heap.objs.size ≤ p)
    (hz : xs.length ≤ sizeLine) (r : Vals xs its) (ht : Tp h' p its) : Inv X pins σ (upd H p (.tup xs)) { s with heap := h', toks := t' } := by
  obtain ⟨g0, g1, g2, g3, g4, g5⟩ := I.fpOk (H' := H) hp (I.hok.fresh hp)
  exact Inv_adopt (turnedL I k hf) g0 (Nat.le_trans I.sz hp) g1 g4 g5 ⟨hz, its, r, _, ht, rfl, _, rfl⟩
end
/-- its items, as values -/
def Src.sq (K : PySem.W.Frag) (H : Hp) (xs : List V) : Src → Prop
  | .l a => SqL K H a xs
  | .t a => SqT K H a xs
theorem Src.sq.val {X : Cx} {pins : List (Addr × Obj)} {σ : St} {H : Hp} {s : Shared} {sr : Src} {xs : List V} (I : Inv X pins σ H s) (h : sr.sq X.K H xs) : ∃ its : List Value, Vals xs its ∧ sr.val s.heap its.toArray ∧ xs.length ≤ sizeLine := by
  cases sr with
  | l a => obtain ⟨its, r, p, hz⟩ := I.list h; exact ⟨its, r, p.isList, hz⟩
  | t a => obtain ⟨its, r, p, hz⟩ := I.tuple h; exact ⟨its, r, p, hz⟩
theorem Src.sq.inj {X : Cx} {pins : List (Addr × Obj)} {σ : St} {H : Hp} {s : Shared} {sr : Src} {xs ys : List V} (I : Inv X pins σ H s) (h : sr.sq X.K H xs) (h' : sr.sq X.K H ys) : xs = ys := by
  cases sr with
  | l a => exact I.list_inj h h'
  | t a => exact I.tuple_inj h h'
/-- the pairs of a number and an item -/
def Ite (K : PySem.W.Frag) (sr : Src) (n : Int) : It :=
  ⟨fun i H => ∃ xs x, sr.sq K H xs ∧ xs[i]? = some x, fun i H v H' => ∃ p x, v = .ref p ∧ H p = none ∧ H' = upd H p (.tup [.int (n + i), x]) ∧ ∀ xs, sr.sq K H xs → xs[i]? = some x, fun i H => ∃ xs, sr.sq K H xs ∧ xs.length ≤ i⟩
theorem turn_enum {P : Program} {w : World} {K : PySem.W.Frag} {elts : List Expr} {x1} {pos : Pos} (sr : Src) (n : Int) (e it : Addr) (hne : e ≠ it) :
    Turn P w K (.Tuple elts x1 pos) (Ite K sr n) [e, it] e (fun i h => ∃ g old, En h e it .none (n + i) g old ∧ Gv (n + i) g ∧ sr.it h it i) where
  mem := by simp
  obj := fun i h st b hb => by
    obtain ⟨g, old, he, _, o, ho, _, hd⟩ := st
    rcases (show b = e ∨ b = it by simpa using hb) with rfl | rfl
    · exact ⟨_, he, fun v z => by cases z⟩
    · exact ⟨o, ho, fun v z => by rw [hd] at z; cases z⟩
  keep := fun i h h' st k => by
    obtain ⟨g, old, he, hg, hi⟩ := st
    exact ⟨g, old, k e (by simp) _ he, hg, hi.at fun o q => k it (by simp) o q⟩
  item := by
    intro X hP hw hK hc i pins s σ H E I hf st hg
    subst hP hw hK
    obtain ⟨xs, x, hq, hx⟩ := hg
    obtain ⟨its, rv, hv, hz⟩ := Src.sq.val I hq
    obtain ⟨u, hu, ru⟩ := rv.get hx
    obtain ⟨g, old, he, hgv, hi⟩ := st
    refine en_item he hgv hi hv (x := u) (by simpa using hu) hne fun h1 t tk e1 i1 t1 z1 k1 => ⟨_, rfl, ?_⟩
    refine en_go (s := { s with heap := h1, toks := tk }) e1 fun h2 e2 sb => ?_
    have hpe : s.heap.objs.size ≠ e := Nat.ne_of_gt (Heap.lt_size he)
    have I2 : Inv X pins σ (upd H s.heap.objs.size (.tup [.int (n + i), x])) { s with heap := h2, toks := tk } :=
      turnedT (fp := [e, it]) (its := [.int (n + i) t, u]) I (fun b o hb q => by
        have hb' : b ≠ e ∧ b ≠ it := by simpa using hb
        exact sb.extBut b o hb'.1 (k1 b o hb'.1 hb'.2 q)) hf (Nat.le_refl _) (by show 2 ≤ sizeLine; decide) (.cons ⟨t, rfl⟩ (.cons ru .nil)) (sb.extBut _ _ hpe t1)
    have hfr : H s.heap.objs.size = none := I.hok.fresh (Nat.le_refl _)
    refine ⟨.ref s.heap.objs.size, _, I2, rfl, ⟨_, x, rfl, hfr, rfl, fun ys hy => by rw [Src.sq.inj I hy hq]; exact hx⟩, ⟨.none, u, ?_, .inl rfl, i1.at fun o q => sb.extBut _ _ (Ne.symm hne) q⟩, fun b hb => ?_⟩
    · have ee : n + (i : Int) + 1 = n + ((i + 1 : Nat) : Int) := by omega
      rw [← ee]; exact e2
    · have hb' : b = e ∨ b = it := by simpa using hb
      rw [upd_ne (fun z => ?_)]
      · exact (hf b hb).1
      · rcases hb' with rfl | rfl
        · exact hpe z.symm
        · have hlt := Src.it.lt hi
          rw [z] at hlt
          exact Nat.lt_irrefl _ hlt
  done := by
    intro X hP hw hK hc i pins s σ H E I hf st hg
    subst hP hw hK
    obtain ⟨xs, hq, hx⟩ := hg
    obtain ⟨its, rv, hv, hz⟩ := Src.sq.val I hq
    obtain ⟨g, old, he, hgv, hi⟩ := st
    have hl := rv.length
    refine en_end (I.ok.hd hc) he hi hv (by simp; omega) fun h1 xb => ⟨rfl, ?_⟩
    exact turnedL (t' := s.toks) (fp := [e, it]) I (fun b o hb q => xb b o (fun z => hb (by simp [z])) q) hf
  self := fun _ _ _ _ _ st h => by
    obtain ⟨g, old, he, _⟩ := st
    exact en_self he h
section
variable {X : Cx} {E : XK}
/-- call enumerate, of a list or a tuple -/
theorem new_enum {prog : Program} {w : World} {A : Around} {E : Value → Shared → Prop} {s : Shared} {sr : Src} {xs : Array Value} {Q : Value → Shared → Prop} (hv : sr.val s.heap xs)
    (h : ∀ h', En h' (s.heap.objs.size + 1) s.heap.objs.size .none 0 .none .none → sr.it h' s.heap.objs.size 0 → (∀ b o, s.heap.get? b = some o → h'.get? b = some o) → Q (.ref (s.heap.objs.size + 1)) { s with heap := h' }) :
    wpAny (model prog w) A (call (.type "enumerate") [.ref sr.adr]) Q E s := by
  have g : Meets (Builtin.«enumerate.__new__» ⟨[.type "enumerate", .ref sr.adr], []⟩) (fun _ R s => sr.val s.heap xs ∧
      R (.ok (.ret (.ref (s.heap.push { cls := .type sr.itn, data := .fields #[.ref sr.adr, .int 0 0] }).objs.size)))
        { s with heap := (s.heap.push { cls := .type sr.itn, data := .fields #[.ref sr.adr, .int 0 0] }).push { cls := .type "enumerate", data := .fields #[.none, .bool false, .ref s.heap.objs.size, rawInt 0, .none, .none] } }) :=
    .of_wp fun prog w A R s h => by
      obtain ⟨hp, g, d, tk, os⟩ := s; obtain ⟨hl, h⟩ := h
      have hsub := sub_enumerate
      have hL : sr.val (Shared.heap ⟨hp, g, d, tk, os⟩) xs := hl
      wp_walk
      refine wpAny_stack_any fun st => wpAny_pure ?_
      split
      · rename_i c _ _ _ _ _
        cases (c == Value.type "enumerate") <;> (wp_walk using Src.iter hL; exact ⟨_, rfl, h⟩)
      · wp_walk using Src.iter hL
        exact ⟨_, rfl, h⟩
  refine callType_new PySem.F.called_enumerate (by decide) (PySem.F.typeCall_enumerate_1 _) (PySem.F.newCall_enumerate_1 _) (fun obj => PySem.F.args_object_init_2 obj _) PySem.F.entry_enumerate_new g ⟨hv, ?_⟩
  have hz : (s.heap.push { cls := .type sr.itn, data := .fields #[.ref sr.adr, .int 0 0] }).objs.size = s.heap.objs.size + 1 := Heap.size_push ..
  show _ ∧ _
  rw [hz]
  have he : En ((s.heap.push { cls := .type sr.itn, data := .fields #[.ref sr.adr, .int 0 0] }).push { cls := .type "enumerate", data := .fields #[.none, .bool false, .ref s.heap.objs.size, rawInt 0, .none, .none] }) (s.heap.objs.size + 1) s.heap.objs.size .none 0 .none .none := by
    have := Heap.get?_push_size (s.heap.push { cls := .type sr.itn, data := .fields #[.ref sr.adr, .int 0 0] }) (o := { cls := .type "enumerate", data := .fields #[.none, .bool false, .ref s.heap.objs.size, rawInt 0, .none, .none] }) rfl
    rw [hz] at this; exact this
  exact ⟨⟨_, he, rfl⟩, h _ he ⟨_, Heap.get?_push_of_some _ (Heap.get?_push_size _ rfl), rfl, rfl⟩ fun b o x => Heap.get?_push_of_some _ (Heap.get?_push_of_some _ x)⟩
def iEnum1 (K : PySem.W.Frag) (ta : TA) : TI := fun σ H R => ta σ H fun vs H1 => ∃ sr xs, vs = [.ref (Src.adr sr)] ∧ sr.sq K H1 xs ∧ R (Ite K sr 0) H1
theorem pi_enum1 {elts : List Expr} {x1} {tp : Pos} {a : Expr} {ta : TA} {p pos : Pos} (hg : Gl X "enumerate") (hm : X.mg "enumerate" = none) (ha : PA X [a] ta) (hs : starEach [a] X.env = [(false, eval a X.env)] := by rfl) : PI X (.Tuple elts x1 tp) (.Call (.Name "enumerate" p) [a] [] pos) (iEnum1 X.K ta) := by
  intro pins s σ H R I h
  refine Call_ (ld_blt I hg hm PyProof.Rows.boot_enumerate (PyProof.Rows.callWith_type1 (thn (ha pos pins s σ H _ I h) fun us s1 ⟨vs, H1, I1, r1, q1⟩ => ?_) hs rfl))
  obtain ⟨sr, xs, e, hq, q⟩ := q1
  subst e
  cases r1 with
  | cons r rr =>
    cases rr
    cases r
    obtain ⟨its, rv, hv, hz⟩ := Src.sq.val I1 hq
    refine new_enum hv fun h' he hi kp => ?_
    refine en_self he ?_
    have I2 : Inv X pins σ H1 { s1 with heap := h' } := I1.kept (t' := s1.toks) kp
    refine ⟨s1.heap.objs.size + 1, [s1.heap.objs.size + 1, s1.heap.objs.size], _, _, H1, rfl, I2, turn_enum sr 0 _ _ (Nat.succ_ne_self _), ⟨.none, .none, by simpa using he, .inl rfl, hi⟩, fun b hb => ?_, q⟩
    have hb' : b = s1.heap.objs.size + 1 ∨ b = s1.heap.objs.size := by simpa using hb
    have hle : s1.heap.objs.size ≤ b := by rcases hb' with rfl | rfl <;> omega
    exact I1.fpOk hle (I1.hok.fresh hle)
end
end DL
namespace DL
open PySem PySem.Spec L2
open PyProof.Rows hiding St
/-! ### zip, as a walk -/
inductive DrV (K : PySem.W.Frag) (H : Hp) (i : Nat) : List Src → List V → Prop where
  | nil : DrV K H i [] []
  | cons {sr r v us xs} (hq : Src.sq K H xs sr) (hx : xs[i]? = some v) (t : DrV K H i r us) : DrV K H i (sr :: r) (v :: us)
inductive StV (K : PySem.W.Frag) (H : Hp) (i : Nat) : List Src → Prop where
  | here {sr r xs} (hq : Src.sq K H xs sr) (hx : xs.length ≤ i) : StV K H i (sr :: r)
  | there {sr r v xs} (hq : Src.sq K H xs sr) (hx : xs[i]? = some v) (t : StV K H i r) : StV K H i (sr :: r)
def Itz (K : PySem.W.Frag) (ls : List Src) : It :=
  ⟨fun i H => ∃ us, DrV K H i ls us, fun i H v H' => ∃ p us, v = .ref p ∧ H p = none ∧ H' = upd H p (.tup us) ∧ ∀ us', DrV K H i ls us' → us' = us, fun i H => StV K H i ls⟩
theorem DrV.length {K : PySem.W.Frag} {H : Hp} {i : Nat} {ls : List Src} {us : List V} (d : DrV K H i ls us) : us.length = ls.length := by
  induction d with
  | nil => rfl
  | cons _ _ _ ih => simp [ih]
section
variable {X : Cx} {pins : List (Addr × Obj)} {σ : St} {H : Hp} {s : Shared}
theorem DrV.inj (I : Inv X pins σ H s) {i : Nat} : ∀ {ls : List Src} {us us' : List V}, DrV X.K H i ls us → DrV X.K H i ls us' → us = us'
  | [], _, _, d, d' => by cases d; cases d'; rfl
  | sr :: ls, _, _, d, d' => by
    cases d with
    | cons hq hx t =>
      cases d' with
      | cons hq' hx' t' =>
        have e := Src.sq.inj I hq hq'
        subst e
        rw [hx] at hx'
        cases hx'
        rw [DrV.inj I t t']
theorem DrV.drw (I : Inv X pins σ H s) {i : Nat} : ∀ {l : List (Src × Addr)} {us : List V}, DrV X.K H i (l.map (·.1)) us → (∀ q ∈ l, q.1.it s.heap q.2 i) → ∃ ws, Drw s.heap i l ws ∧ Vals us ws
  | [], us, d, h => by cases d; exact ⟨[], .nil, .nil⟩
  | (sr, p) :: l, us, d, h => by
    cases d with
    | cons hq hx t =>
      obtain ⟨its, rv, hv, hz⟩ := Src.sq.val I hq
      obtain ⟨u, hu, ru⟩ := rv.get hx
      obtain ⟨ws, d', r'⟩ := DrV.drw I t fun q hq => h q (List.mem_cons_of_mem _ hq)
      exact ⟨u :: ws, .cons (h (sr, p) List.mem_cons_self) hv (by simpa using hu) d', .cons ru r'⟩
theorem StV.drw (I : Inv X pins σ H s) {i : Nat} : ∀ {l : List (Src × Addr)}, StV X.K H i (l.map (·.1)) → (∀ q ∈ l, q.1.it s.heap q.2 i) → DrwE s.heap i l
  | [], d, h => by cases d
  | (sr, p) :: l, d, h => by
    cases d with
    | here hq hx =>
      obtain ⟨its, rv, hv, hz⟩ := Src.sq.val I hq
      have hl := rv.length
      exact .here (h (sr, p) List.mem_cons_self) hv (by simp; omega)
    | there hq hx t =>
      obtain ⟨its, rv, hv, hz⟩ := Src.sq.val I hq
      obtain ⟨u, hu, ru⟩ := rv.get hx
      exact .there (h (sr, p) List.mem_cons_self) hv (by simpa using hu) (StV.drw I t fun q hq => h q (List.mem_cons_of_mem _ hq))
end
theorem turn_zip {P : Program} {w : World} {K : PySem.W.Frag} {elts : List Expr} {x1} {pos : Pos} (l : List (Src × Addr)) (z TI TO : Addr) (a : ApZ TO l) (zz : z ≠ TO ∧ (∀ q ∈ l, q.2 ≠ z ∧ q.1.adr ≠ z)) (tt : TI ≠ z ∧ TI ≠ TO ∧ ∀ q ∈ l, q.2 ≠ TI) (hsz : l.length ≤ 1000000) (hne : l ≠ []) :
    Turn P w K (.Tuple elts x1 pos) (Itz K (l.map (·.1))) (z :: TI :: TO :: l.map (·.2)) z
      (fun i h => IsZip h z TI TO .none ∧ Tp h TI (l.map fun q => Value.ref q.2) ∧ (∃ os, Tp h TO os ∧ os.length = l.length) ∧ ∀ q ∈ l, q.1.it h q.2 i) where
  mem := by simp
  obj := fun i h st b hb => by
    obtain ⟨hz, hTI, ⟨os, hTO, _⟩, hi⟩ := st
    rcases List.mem_cons.mp hb with rfl | hb
    · exact ⟨_, hz, fun v z => by cases z⟩
    · rcases List.mem_cons.mp hb with rfl | hb
      · exact ⟨_, hTI, fun v z => by cases z⟩
      · rcases List.mem_cons.mp hb with rfl | hb
        · exact ⟨_, hTO, fun v z => by cases z⟩
        · obtain ⟨q, hq, rfl⟩ := List.mem_map.mp hb
          obtain ⟨o, ho, _, hd⟩ := hi q hq
          exact ⟨o, ho, fun v z => by rw [hd] at z; cases z⟩
  keep := fun i h h' st k => by
    obtain ⟨hz, hTI, ⟨os, hTO, ho⟩, hi⟩ := st
    exact ⟨k z (by simp) _ hz, k TI (by simp) _ hTI, ⟨os, k TO (by simp) _ hTO, ho⟩, fun q hq => (hi q hq).at fun o e => k q.2 (by simp only [List.mem_cons]; exact .inr (.inr (.inr (List.mem_map.mpr ⟨q, hq, rfl⟩)))) o e⟩
  item := by
    intro X hP hw hK hc i pins s σ H E I hf st hg
    subst hP hw hK
    obtain ⟨us, dv⟩ := hg
    obtain ⟨hz, hTI, ⟨os, hTO, ho⟩, hi⟩ := st
    obtain ⟨ws, dw, rv⟩ := DrV.drw I dv hi
    refine zip_item hz hTI hTO ho hsz hne a zz dw fun h1 z1 t1 i1 p1 s1 k1 => ⟨_, rfl, ?_⟩
    refine wpAny_letOwnedTupleGo_zip (s := { s with heap := h1 }) z1 fun h2 z2 sb => ?_
    have hpz : s.heap.objs.size ≠ z := Nat.ne_of_gt (Heap.lt_size hz)
    have hul : us.length ≤ sizeLine := by
      rw [dv.length, List.length_map]; exact Nat.le_trans hsz size6
    have I2 : Inv X pins σ (upd H s.heap.objs.size (.tup us)) { s with heap := h2 } :=
      turnedT (t' := s.toks) (fp := z :: TI :: TO :: l.map (·.2)) (its := ws) I (fun b o hb q => by
        simp only [List.mem_cons, not_or] at hb
        exact sb.extBut b o hb.1 (k1 b o hb.1 hb.2.2.1 hb.2.2.2 q)) hf (Nat.le_refl _) hul rv (sb.extBut _ _ hpz p1)
    have hfr : H s.heap.objs.size = none := I.hok.fresh (Nat.le_refl _)
    have up : ∀ b o, b ≠ z → b ≠ TO → b ∉ l.map (·.2) → s.heap.get? b = some o → h2.get? b = some o := fun b o b1 b2 b3 q => sb.extBut b o b1 (k1 b o b1 b2 b3 q)
    refine ⟨.ref s.heap.objs.size, _, I2, rfl, ⟨_, us, rfl, hfr, rfl, fun us' d' => DrV.inj I d' dv⟩, ⟨z2, up TI _ tt.1 tt.2.1 (fun hm => ?_) hTI, ⟨ws, sb.extBut _ _ (Ne.symm zz.1) t1, dw.length⟩, fun q hq => (i1 q hq).at fun o e => sb.extBut _ _ (zz.2 q hq).1 e⟩, fun b hb => ?_⟩
    · obtain ⟨q, hq, e⟩ := List.mem_map.mp hm
      exact tt.2.2 q hq e
    · rw [upd_ne (fun e => ?_)]
      · exact (hf b hb).1
      · have lt : b < s.heap.objs.size := by
          rcases List.mem_cons.mp hb with rfl | hb
          · exact Heap.lt_size hz
          · rcases List.mem_cons.mp hb with rfl | hb
            · exact Heap.lt_size hTI
            · rcases List.mem_cons.mp hb with rfl | hb
              · exact Heap.lt_size hTO
              · obtain ⟨q, hq, rfl⟩ := List.mem_map.mp hb
                exact (hi q hq).lt
        rw [e] at lt
        exact Nat.lt_irrefl _ lt
  done := by
    intro X hP hw hK hc i pins s σ H E I hf st hg
    subst hP hw hK
    obtain ⟨hz, hTI, ⟨os, hTO, ho⟩, hi⟩ := st
    have dw := StV.drw I hg hi
    refine zip_end (I.ok.hd hc) hz hTI hTO ho hsz hne a zz dw fun h1 k1 => ⟨rfl, ?_⟩
    exact turnedL (t' := s.toks) (fp := z :: TI :: TO :: l.map (·.2)) I (fun b o hb q => by
      simp only [List.mem_cons, not_or] at hb
      exact k1 b o hb.1 hb.2.2.1 hb.2.2.2 q) hf
  self := fun _ _ _ _ _ st h => wpAny_pyIter_zip st.1 h
end DL
namespace DL
open PySem PySem.Spec L2
open PyProof.Rows hiding St
/-! ### iterables of the program: enumerate, zip -/
/-- the j-th items of all, the end, or nothing that is modelled -/
def zipAt (G : DH) (j : Nat) : List D → Option (Option (List D))
  | [] => some (some [])
  | d :: r => match seqOf d G with
    | none => none
    | some xs => match xs[j]? with
      | none => some none
      | some x => match zipAt G j r with
        | some (some ys) => some (some (x :: ys))
        | o => o
def zipF (ds : List D) (j : Nat) (G : DH) : Option (Option D) := (zipAt G j ds).map fun o => o.map D.tup
def lenOf (G : DH) (d : D) : Nat := match seqOf d G with
  | some xs => xs.length
  | none => 0
def okSeq (G : DH) (d : D) : Bool := (seqOf d G).isSome
def enumF (n : Int) (d : D) (j : Nat) (G : DH) : Option (Option D) := match seqOf d G with
  | none => none
  | some xs => some (xs[j]?.map fun x => .tup [.int (n + j), x])
def iEnumD (ds : List D) (G : DH) : R ItD := match ds with
  | [d] => if okSeq G d = true then .ok (.fn (lenOf G d) (enumF 0 d)) G else .bad
  | _ => .bad
def iZipD (n : Nat) (ds : List D) (G : DH) : R ItD := if ds.all (okSeq G) = true ∧ ds.length = n then .ok (.fn (lenOf G (ds.headD .non)) (zipF ds)) G else .bad
section
variable {X : Cx} {E : XK}
/-- the source that a value stands for -/
theorem src_of {a : Wd} {G : DH} {d : D} {v : V} {xs : List D} (s : Sim a G) (r : Rep a d v) (h : seqOf d G = some xs) :
    ∃ sr : Src, v = .ref sr.adr ∧ (∃ vs, sr.sq a.K a.H vs) ∧ ∀ b : Wd, Ext a b → ∀ G', Sim b G' → ∀ ys, seqOf d G' = some ys → ∃ us, sr.sq b.K b.H us ∧ Reps b ys us := by
  cases d with
  | tup ds =>
    obtain ⟨p, vs, rfl, hq, rv⟩ := r
    refine ⟨.t p, rfl, ⟨vs, hq⟩, fun b x G' s' ys hy => ?_⟩
    cases (show some ds = some ys from hy)
    exact ⟨vs, x.sqT hq, rv.mono x⟩
  | fl ds =>
    obtain ⟨p, vs, rfl, hq, rv⟩ := r
    refine ⟨.l p, rfl, ⟨vs, hq.sq⟩, fun b x G' s' ys hy => ?_⟩
    cases (show some ds = some ys from hy)
    exact ⟨vs, (x.fzL hq).sq, rv.mono x⟩
  | ref i =>
    obtain ⟨hi, rfl⟩ := r
    have hx : ∃ zs, G[i]? = some (.lst zs) := by
      unfold seqOf at h
      dsimp only at h
      split at h
      · rename_i zs hz; exact ⟨zs, hz⟩
      · cases h
    obtain ⟨zs, hz⟩ := hx
    obtain ⟨vs, e1, _⟩ := s.lst hz
    refine ⟨.l (a.m i), rfl, ⟨vs, .of e1⟩, fun b x G' s' ys hy => ?_⟩
    unfold seqOf at hy
    dsimp only at hy
    split at hy
    · rename_i zs' hz'
      cases hy
      obtain ⟨us, e2, r2⟩ := s'.lst hz'
      rw [x.m i hi] at e2
      exact ⟨us, .of e2, r2⟩
    · cases hy
  | _ => cases h
theorem repI_enum {a : Wd} {G : DH} {d : D} {v : V} {sr : Src} (hk : a.K = X.K) (rd : ∀ b : Wd, Ext a b → ∀ G', Sim b G' → ∀ ys, seqOf d G' = some ys → ∃ us, sr.sq b.K b.H us ∧ Reps b ys us) (n : Nat) : RepI a (.fn n (enumF 0 d)) (Ite X.K sr 0) := by
  intro b x G' s' i
  have kb : b.K = X.K := x.k.trans hk
  constructor
  · intro e he
    unfold enumF at he
    split at he
    · cases he
    · rename_i ys hy
      obtain ⟨us, hq, ru⟩ := rd b x G' s' ys hy
      rw [kb] at hq
      cases hyi : ys[i]? with
      | none => rw [hyi] at he; cases he
      | some y =>
        rw [hyi] at he
        have he' : D.tup [.int (0 + i), y] = e := by simpa using he
        subst he'
        obtain ⟨u, hu, rx⟩ := ru.get hyi
        refine ⟨⟨us, u, hq, hu⟩, ?_⟩
        rintro w H' ⟨p, u', rfl, hp, rfl, hu'⟩
        refine ⟨b.put p (.tup [.int (0 + i), u']), rfl, Ext.put hp, s'.put hp, p, _, rfl, .of upd_same, ?_⟩
        have e1 := hu' us hq
        rw [hu] at e1
        cases e1
        exact ⟨_, _, rfl, rfl, Reps.cons (rx.mono (Ext.put hp)) rfl⟩
  · intro he
    unfold enumF at he
    split at he
    · cases he
    · rename_i ys hy
      obtain ⟨us, hq, ru⟩ := rd b x G' s' ys hy
      rw [kb] at hq
      cases hyi : ys[i]? with
      | none => exact ⟨us, hq, by rw [← ru.length]; exact List.getElem?_eq_none_iff.mp hyi⟩
      | some y => rw [hyi] at he; cases he
theorem qi_enum {elts : List Expr} {x1} {tp : Pos} {e : Expr} {ta : DA} {p pos : Pos} (hg : Gl X "enumerate") (hm : X.mg "enumerate" = none) (ha : QA X E [e] ta) (hs : starEach [e] X.env = [(false, eval e X.env)] := by rfl) :
    QI X E (.Tuple elts x1 tp) (.Call (.Name "enumerate" p) [e] [] pos) (iRng iEnumD ta) := (pi_enum1 hg hm ha hs).mono fun σ H Q h => by
  obtain ⟨a, S, G, hk, rfl, s, r, h⟩ := h
  refine ⟨a, S, G, hk, rfl, s, r, (outI_bindA h).imp ?_⟩
  rintro vs _ ⟨b, ds, G1, rfl, x, s1, q, -, h1⟩
  unfold iEnumD at h1
  split at h1
  · rename_i d
    split at h1
    · rename_i hok
      obtain ⟨v, r, e1, q1, q2⟩ := q
      cases (show r = [] from q2)
      subst e1
      obtain ⟨xs, hx⟩ := Option.isSome_iff_exists.mp (show (seqOf d G1).isSome = true from hok)
      obtain ⟨sr, rfl, ⟨us, hq⟩, rd⟩ := src_of s1 q1 hx
      have kb : b.K = X.K := x.k.trans hk
      exact ⟨sr, us, rfl, by rw [← kb]; exact hq, h1 b _ (Ext.refl b) s1 (repI_enum (G := G1) (v := .non) kb rd _)⟩
    · exact h1.elim
  · exact h1.elim
/-- the sources of some values -/
theorem srcs_of {a : Wd} {G : DH} (s : Sim a G) : ∀ {ds : List D} {vs : List V}, Reps a ds vs → ds.all (okSeq G) = true → ∃ ls : List Src, vs = ls.map (fun sr => V.ref sr.adr) ∧ (∀ sr ∈ ls, ∃ us, sr.sq a.K a.H us) ∧
      ∀ b : Wd, Ext a b → ∀ G', Sim b G' → ∀ i, (∀ ys, zipAt G' i ds = some (some ys) → ∃ us, DrV b.K b.H i ls us ∧ Reps b ys us) ∧ (zipAt G' i ds = some none → StV b.K b.H i ls)
  | [], vs, r, _ => by
    cases (show vs = [] from r)
    refine ⟨[], rfl, (fun _ h => nomatch h), fun b x G' s' i => ⟨fun ys h => ?_, fun h => ?_⟩⟩
    · cases h; exact ⟨[], .nil, rfl⟩
    · cases h
  | d :: ds, vs, r, h => by
    rw [List.all_cons, Bool.and_eq_true] at h
    obtain ⟨v, vr, rfl, q1, q2⟩ := r
    obtain ⟨xs, hx⟩ := Option.isSome_iff_exists.mp (show (seqOf d G).isSome = true from h.1)
    obtain ⟨sr, rfl, hq, rd⟩ := src_of s q1 hx
    obtain ⟨ls, rfl, hqs, rds⟩ := srcs_of s q2 h.2
    refine ⟨sr :: ls, rfl, fun sr' hm => ?_, fun b x G' s' i => ⟨fun ys hy => ?_, fun hy => ?_⟩⟩
    · rcases List.mem_cons.mp hm with rfl | hm
      · exact hq
      · exact hqs sr' hm
    · unfold zipAt at hy
      split at hy
      · cases hy
      · rename_i zs hz
        obtain ⟨us, hu, ru⟩ := rd b x G' s' zs hz
        split at hy
        · cases hy
        · rename_i y hyi
          obtain ⟨u, hui, rx⟩ := ru.get hyi
          split at hy
          · rename_i ys' hys
            cases hy
            obtain ⟨us', d', r'⟩ := (rds b x G' s' i).1 ys' hys
            exact ⟨u :: us', .cons hu hui d', Reps.cons rx r'⟩
          · rename_i hno
            exact absurd hy (hno _)
    · unfold zipAt at hy
      split at hy
      · cases hy
      · rename_i zs hz
        obtain ⟨us, hu, ru⟩ := rd b x G' s' zs hz
        split at hy
        · rename_i hyi
          exact .here hu (by rw [← ru.length]; exact List.getElem?_eq_none_iff.mp hyi)
        · rename_i y hyi
          obtain ⟨u, hui, rx⟩ := ru.get hyi
          split at hy
          · cases hy
          · exact .there hu hui ((rds b x G' s' i).2 hy)
theorem repI_zip {a : Wd} {ds : List D} {ls : List Src} (hk : a.K = X.K) (rd : ∀ b : Wd, Ext a b → ∀ G', Sim b G' → ∀ i, (∀ ys, zipAt G' i ds = some (some ys) → ∃ us, DrV b.K b.H i ls us ∧ Reps b ys us) ∧ (zipAt G' i ds = some none → StV b.K b.H i ls)) (n : Nat) :
    RepI a (.fn n (zipF ds)) (Itz X.K ls) := by
  intro b x G' s' i
  have kb : b.K = X.K := x.k.trans hk
  constructor
  · intro e he
    unfold zipF at he
    cases hz : zipAt G' i ds with
    | none => rw [hz] at he; cases he
    | some o =>
      cases o with
      | none => rw [hz] at he; cases he
      | some ys =>
        rw [hz] at he
        have he' : D.tup ys = e := by simpa using he
        subst he'
        obtain ⟨us, d, ru⟩ := (rd b x G' s' i).1 ys hz
        rw [kb] at d
        refine ⟨⟨us, d⟩, ?_⟩
        rintro w H' ⟨p, us', rfl, hp, rfl, hu'⟩
        cases hu' us d
        exact ⟨b.put p (.tup us), rfl, Ext.put hp, s'.put hp, p, us, rfl, .of upd_same, ru.mono (Ext.put hp)⟩
  · intro he
    unfold zipF at he
    cases hz : zipAt G' i ds with
    | none => rw [hz] at he; cases he
    | some o =>
      cases o with
      | none =>
        have := (rd b x G' s' i).2 hz
        rw [kb] at this
        exact this
      | some ys => rw [hz] at he; cases he
def iZip (n : Nat) (K : PySem.W.Frag) (ta : TA) : TI := fun σ H R => ta σ H fun vs H1 => ∃ ls : List Src, vs = ls.map (fun sr => V.ref sr.adr) ∧ (∀ sr ∈ ls, ∃ us, sr.sq K H1 us) ∧ ls.length = n ∧ R (Itz K ls) H1
theorem vals_refs : ∀ {ls : List Src} {us : List Value}, Vals (ls.map fun sr => V.ref sr.adr) us → us = ls.map fun sr => Value.ref sr.adr
  | [], us, h => by cases h; rfl
  | sr :: ls, us, h => by
    rw [List.map_cons] at h
    cases h with
    | cons r rr =>
      cases r
      rw [vals_refs rr]
      rfl
theorem mem_zipIdx_fst {ls : List Src} {n : Nat} {q : Src × Nat} (h : q ∈ ls.zipIdx n) : q.1 ∈ ls ∧ n ≤ q.2 ∧ q.2 < n + ls.length := by
  obtain ⟨i, hi, rfl⟩ := List.getElem_of_mem h
  simp only [List.length_zipIdx] at hi
  simp only [List.getElem_zipIdx]
  exact ⟨List.getElem_mem hi, by omega, by omega⟩
/-- zip, made and walked -/
theorem zip_it {elts : List Expr} {x1} {tp : Pos} {pins : List (Addr × Obj)} {σ : St} {H : Hp} {s : Shared} {R : It → Hp → Prop} {ls : List Src} (I : Inv X pins σ H s) (hq : ∀ sr ∈ ls, ∃ us, sr.sq X.K H us) (hne : ls ≠ []) (hl : ls.length ≤ 1000000)
    (hct : checkTypeCall "zip" ⟨ls.map fun sr => Value.ref sr.adr, []⟩ = pure ()) (hcn : checkBuiltinCall "zip.__new__" ⟨.type "zip" :: ls.map fun sr => Value.ref sr.adr, []⟩ = pure ()) (hok : ∀ obj, argsOk "object.__init__" ⟨obj :: ls.map fun sr => Value.ref sr.adr, []⟩)
    (q : R (Itz X.K ls) H) : wpAny (model X.prog X.w) X.A (call (.type "zip") (ls.map fun sr => Value.ref sr.adr)) (fun v s1 => wpAny (model X.prog X.w) X.A (pyIter v) (PIE X pins σ (.Tuple elts x1 tp) R) X.xe s1) X.xe s := by
  have hv : ∀ sr ∈ ls, ∃ xs, sr.val s.heap xs := fun sr hm => by
    obtain ⟨us, h⟩ := hq sr hm
    obtain ⟨its, _, h', _⟩ := Src.sq.val I h
    exact ⟨_, h'⟩
  have hlt : ∀ sr ∈ ls, sr.adr < s.heap.objs.size := fun sr hm => by
    obtain ⟨xs, h⟩ := hv sr hm
    obtain ⟨o, n, ho, _⟩ := h.obj
    exact Heap.lt_size ho
  refine new_zip hv hl hct hcn hok fun h' n hn hz hTI hTO hi kp => ?_
  refine wpAny_pyIter_zip hz ?_
  have I2 : Inv X pins σ H { s with heap := h' } := I.kept (t' := s.toks) kp
  have em : (ls.zipIdx s.heap.objs.size).map (·.1) = ls := by
    refine List.ext_getElem (by simp) fun i h1 h2 => by simp
  have e2 : (ls.zipIdx s.heap.objs.size).map (·.2) = List.range' s.heap.objs.size ls.length := by
    refine List.ext_getElem (by simp) fun i h1 h2 => by simp [Nat.add_comm]
  have qb : ∀ q ∈ ls.zipIdx s.heap.objs.size, q.1.adr < s.heap.objs.size ∧ s.heap.objs.size ≤ q.2 ∧ q.2 < n := fun q hm => ⟨hlt _ (mem_zipIdx_fst hm).1, (mem_zipIdx_fst hm).2.1, by rw [hn]; exact (mem_zipIdx_fst hm).2.2⟩
  have hsn : s.heap.objs.size ≤ n := by rw [hn]; exact Nat.le_add_right _ _
  have ap : ApZ (n + 1) (ls.zipIdx s.heap.objs.size) := ⟨by rw [e2]; exact List.nodup_range', fun q hm => Nat.ne_of_lt (Nat.lt_of_lt_of_le (qb q hm).1 (Nat.le_succ_of_le hsn)), fun q hm r hr => Nat.ne_of_lt (Nat.lt_of_lt_of_le (qb q hm).1 (qb r hr).2.1), fun q hm => Nat.ne_of_lt (Nat.lt_succ_of_lt (qb q hm).2.2)⟩
  have T := turn_zip (P := X.prog) (w := X.w) (K := X.K) (elts := elts) (x1 := x1) (pos := tp) (ls.zipIdx s.heap.objs.size) (n + 2) n (n + 1) ap ⟨Nat.succ_ne_self (n + 1), fun q hm => ⟨Nat.ne_of_lt (Nat.lt_of_lt_of_le (qb q hm).2.2 (Nat.le_add_right n 2)), Nat.ne_of_lt (Nat.lt_of_lt_of_le (qb q hm).1 (Nat.le_trans hsn (Nat.le_add_right n 2)))⟩⟩
    ⟨Nat.ne_of_lt (Nat.lt_add_of_pos_right (by decide)), Nat.ne_of_lt (Nat.lt_succ_self n), fun q hm => Nat.ne_of_lt (qb q hm).2.2⟩ (by simpa using hl) (by intro e; apply hne; rw [← em, e]; rfl)
  rw [em] at T
  refine ⟨n + 2, _, _, _, H, rfl, I2, T, ⟨hz, hTI, ⟨_, hTO, by simp⟩, hi⟩, fun b hb => ?_, q⟩
  have hle : s.heap.objs.size ≤ b := by
    rcases List.mem_cons.mp hb with rfl | hb
    · exact Nat.le_trans hsn (Nat.le_add_right n 2)
    · rcases List.mem_cons.mp hb with rfl | hb
      · exact hsn
      · rcases List.mem_cons.mp hb with rfl | hb
        · exact Nat.le_succ_of_le hsn
        · obtain ⟨q, hq, rfl⟩ := List.mem_map.mp hb
          exact (mem_zipIdx_fst hq).2.1
  exact I.fpOk hle (I.hok.fresh hle)
theorem pi_zip2 {elts : List Expr} {x1} {tp : Pos} {a b : Expr} {ta : TA} {p pos : Pos} (hg : Gl X "zip") (hm : X.mg "zip" = none) (ha : PA X [a, b] ta) (hs : starEach [a, b] X.env = [(false, eval a X.env), (false, eval b X.env)] := by rfl) (hs2 : starEach [b] X.env = [(false, eval b X.env)] := by rfl) :
    PI X (.Tuple elts x1 tp) (.Call (.Name "zip" p) [a, b] [] pos) (iZip 2 X.K ta) := by
  intro pins s σ H R I h
  refine Call_ (ld_blt I hg hm PyProof.Rows.boot_zip (PyProof.Rows.callWith_type1 (thn (ha pos pins s σ H _ I h) fun us s1 ⟨vs, H1, I1, r1, q1⟩ => ?_) (by rw [hs, hs2]) (by rw [hs2]; rfl)))
  obtain ⟨ls, rfl, hq, hl, q⟩ := q1
  cases vals_refs r1
  match ls, hl with
  | [x, y], _ => exact zip_it I1 hq (by simp) (by simp) (PySem.F.typeCall_zip_2 _ _) (PySem.F.newCall_zip_2 _ _) (fun obj => PySem.F.args_object_init_3 obj _ _) q
theorem lI_zip {K : PySem.W.Frag} {n : Nat} {ta : DA} {σ : St} {H : Hp} {Q : It → Hp → Prop} (hK : K = X.K) (h : lI K E (iRng (iZipD n) ta) σ H Q) : iZip n K (lA K E ta) σ H Q := by
  subst hK
  obtain ⟨a, S, G, hk, rfl, s, r, h⟩ := h
  refine ⟨a, S, G, hk, rfl, s, r, (outI_bindA h).imp ?_⟩
  rintro vs _ ⟨b, ds, G1, rfl, x, s1, q, -, h1⟩
  unfold iZipD at h1
  split at h1
  · rename_i hok
    obtain ⟨ls, e, hq, rd⟩ := srcs_of s1 q hok.1
    have kb : b.K = X.K := x.k.trans hk
    have hl : ls.length = n := by
      have := q.length
      rw [e, List.length_map] at this
      omega
    exact ⟨ls, e, fun sr hm => by rw [← kb]; exact hq sr hm, hl, h1 b _ (Ext.refl b) s1 (repI_zip kb rd _)⟩
  · exact h1.elim
theorem qi_zip2 {elts : List Expr} {x1} {tp : Pos} {a b : Expr} {ta : DA} {p pos : Pos} (hg : Gl X "zip") (hm : X.mg "zip" = none) (ha : QA X E [a, b] ta) (hs : starEach [a, b] X.env = [(false, eval a X.env), (false, eval b X.env)] := by rfl) (hs2 : starEach [b] X.env = [(false, eval b X.env)] := by rfl) :
    QI X E (.Tuple elts x1 tp) (.Call (.Name "zip" p) [a, b] [] pos) (iRng (iZipD 2) ta) := (pi_zip2 hg hm ha hs hs2).mono fun σ H Q h => lI_zip rfl h
end
end DL
namespace DL
open PySem PySem.Spec L2
open PyProof.Rows hiding St
/-! ### o[i] op= e -/
def ixL : D → D → DH → R D
  | .ref p, .int k, G => match G[p]? with
    | some (.lst xs) => match atI xs k with
      | some v => .ok v G
      | none => .bad
    | _ => .bad
  | _, _, _ => .bad
def sAuI (to ti te : DE) (f : D → D → DH → R D) : DS := fun S G => (to S G).toS fun o G1 => (ti S G1).toS fun i G2 => (ixL o i G2).toS fun x G3 => (te S G3).toS fun y G4 => (f x y G4).toS fun z G5 => (setIx o i z G5).toS fun _ G6 => .nx S G6
section
variable {X : Cx} {E : XK}
theorem qs_augIx {o i e : Expr} {op : Operator} {to ti te : DE} {f : D → D → DH → R D} {tpos pos : Pos} (ho : QE X E o to) (hi : QE X E i ti) (he : QE X E e te) (hop : OpR X (inplaceOp op) (lR2 X.K E f))
    (ha : ∀ ov iv new, augStore i ov iv new = (do holding [new, ov, iv] (setItem ov iv new); release [new, ov, iv] []; pure .next) := by intros; rfl) : QS X E (.AugAssign (.Subscript o i tpos) op e pos) (sAuI to ti te f) := by
  intro pins s σ H W I h
  obtain ⟨a, S, G, hk, rfl, sm, r, h⟩ := h
  refine wpAny_AugAssign_SubscriptAny (thn (ho pins s σ a.H _ I ⟨a, S, G, hk, rfl, sm, r, outS_toS h⟩) ?_) ha
  rintro ov s1 ⟨vo, H1, I1, ro, b1, o, G1, rfl, x1, m1, q1, _, h1⟩
  have k1 := x1.k.trans hk
  refine thn (hi pins s1 σ b1.H _ I1 ⟨b1, S, G1, k1, rfl, m1, r.mono x1, outS_toS h1⟩) ?_
  rintro iv s2 ⟨vi, H2, I2, ri, b2, i, G2, rfl, x2, m2, q2, _, h2⟩
  have k2 := x2.k.trans k1
  have q1' := q1.mono x2
  cases i with
  | int k =>
    cases o with
    | ref p =>
      obtain ⟨hp, rfl⟩ := q1'
      cases (show vi = V.int k from q2)
      cases ro
      obtain ⟨t, rfl⟩ := ri
      unfold ixL at h2
      dsimp only at h2
      split at h2
      · rename_i xs hx'
        obtain ⟨vs, e1, r1⟩ := m2.lst hx'
        split at h2
        · rename_i d hd
          obtain ⟨v, ev, rd⟩ := atI_rep r1 hd
          have h2' : outS E b2 ((te S G2).toS fun y G4 => (f d y G4).toS fun z G5 => (setIx (.ref p) (.int k) z G5).toS fun _ G6 => .nx S G6) W := h2
          obtain ⟨its, rv, pl, hz⟩ := I2.list (.of e1)
          obtain ⟨j, g1, g2, g3, g4, g5⟩ := atI_get ev
          obtain ⟨w, ew, rw'⟩ := rv.get g2
          have hl := rv.length
          have hn := line63
          have fin : wpAny (model X.prog X.w) X.A (getItem (.ref (b2.m p)) (.int k t)) (fun old s3 => old = w ∧ s3 = s2) X.xe s2 := by
            by_cases h0 : 0 ≤ k
            · have hj : k.toNat = j := by
                rw [seqIndex_of h0 g5] at g1
                exact Option.some.inj g1
              exact wpAny_getItem_list pl.isList h0 (by omega) (by rw [hj]; simpa using ew) ⟨rfl, rfl⟩
            · have hj : (k + (its.toArray.size : Int)).toNat = j := by
                rw [seqIndex_neg (by omega) g4] at g1
                rw [List.size_toArray, ← hl]
                exact Option.some.inj g1
              exact wpAny_getItem_list_neg pl.isList (by omega) (by rw [List.size_toArray] <;> omega) (by omega) (by rw [hj]; simpa using ew) ⟨rfl, rfl⟩
          refine thn fin ?_
          rintro old s3 ⟨rfl, rfl⟩
          refine thn (he pins s3 σ b2.H _ I2 ⟨b2, S, G2, k2, rfl, m2, (r.mono x1).mono x2, outS_toS h2'⟩) ?_
          rintro yv s4 ⟨vy, H4, I4, ry, b4, y, G4, rfl, x4, m4, q4, _, h4⟩
          have k4 := x4.k.trans k2
          refine thn (hop pins s4 σ b4.H v vy old yv _ I4 rw' ry ⟨b4, G4, d, y, k4, rfl, m4, rd.mono x4, q4, outS_toS h4⟩) ?_
          rintro new s5 ⟨vn, H5, I5, rn, b5, z, G5, rfl, x5, m5, q5, _, h5⟩
          unfold setIx at h5
          dsimp only at h5
          split at h5
          · rename_i ys hy
            split at h5
            · rename_i jj hjj
              obtain ⟨ws, e5, r5⟩ := m5.lst hy
              have hp5 : p < b5.n := Nat.lt_of_lt_of_le hp (Nat.le_trans x4.n x5.n)
              have em : b5.m p = b2.m p := (x5.m p (Nat.lt_of_lt_of_le hp x4.n)).trans (x4.m p hp)
              obtain ⟨x6, m6⟩ := wr_lst m5 hp5 e5 (r5.set q5 jj)
              refine thn (set_list pins s5 σ b5.H (.ref (b2.m p)) (.int k) vn (.ref (b2.m p)) (.int k t) new (fun H' => W.nx σ H') I5 rfl ⟨t, rfl⟩ rn ⟨b5.m p, ws, k, jj, by rw [em], rfl, e5, by rw [← r5.length]; exact hjj, ?_⟩) ?_
              · exact h5 _ σ x6 m6 (((((r.mono x1).mono x2).mono x4).mono x5).mono x6)
              · rintro _ s6 ⟨H6, I6, q6⟩
                exact ⟨σ, H6, I6, q6⟩
            · exact h5.elim
          · exact h5.elim
        · exact h2.elim
      · exact h2.elim
    | _ => exact (show False from h2).elim
  | _ => cases o <;> exact (show False from h2).elim
end
end DL
namespace DL
open PySem PySem.Spec L2
open PyProof.Rows hiding St
/-! ### min and max of some numbers, a list many times -/
def fMinL (ds : List D) (G : DH) : R D := match ds with
  | [d] => match seqOf d G with
    | some xs => match intsD xs with
      | some (n :: ns) => .ok (.int (ns.foldl min n)) G
      | _ => .bad
    | none => .bad
  | _ => .bad
theorem foldl_min_le : ∀ (ns : List Int) (n : Int), ns.foldl min n ≤ n ∧ (∀ x ∈ ns, ns.foldl min n ≤ x) ∧ (ns.foldl min n = n ∨ ns.foldl min n ∈ ns)
  | [], n => ⟨Int.le_refl _, fun x h => (by cases h), .inl rfl⟩
  | m :: ns, n => by
    obtain ⟨h1, h2, h3⟩ := foldl_min_le ns (min n m)
    rw [List.foldl_cons]
    refine ⟨by omega, fun x hx => ?_, ?_⟩
    · rcases List.mem_cons.mp hx with rfl | hx
      · omega
      · exact h2 x hx
    · rcases h3 with h | h
      · by_cases e : n ≤ m
        · exact .inl (by rw [h]; omega)
        · exact .inr (by rw [h]; rw [show min n m = m by omega]; exact List.mem_cons_self)
      · exact .inr (List.mem_cons_of_mem _ h)
section
variable {X : Cx} {E : XK}
theorem intAt {ns : List Int} {its : List Value} {i : Nat} {w : Value} (hv : Vals (ns.map V.int) its) (hw : its.toArray[i]? = some w) : i < ns.length ∧ ∃ t, w = .int (ns.getD i 0) t := by
  have hw' : its[i]? = some w := by simpa using hw
  have hl : i < (ns.map V.int).length := by rw [hv.length]; exact (List.getElem?_eq_some_iff.mp hw').1
  have hl' : i < ns.length := by simpa using hl
  obtain ⟨u, hu, ru⟩ := hv.get (i := i) (x := V.int ns[i]) (by simp [hl'])
  rw [hw'] at hu
  cases hu
  obtain ⟨t, rfl⟩ := ru
  exact ⟨hl', t, by simp [hl']⟩
theorem c_minL (hc : X.calm = true) : CallR X (.builtin "min") (lRn X.K E fMinL) := by
  intro pins s σ H vs us Q I rs h
  obtain ⟨a, G, ds, hk, rfl, sm, r, q⟩ := h
  unfold fMinL at q
  split at q
  · rename_i d
    obtain ⟨v, rfl, rv⟩ := reps1 r
    split at q
    · rename_i xs hs
      split at q
      · rename_i n ns hn
        cases intsD_eq hn
        obtain ⟨p, ws, rfl, h1, r1⟩ := seq_rep sm rv hs
        cases repsMap r1
        rw [hk] at h1
        obtain ⟨u, rfl, ru⟩ := vals1 rs
        cases ru
        refine call_min_walk (walk_seq I hc h1 fun it fp wr its St s₂ hv W st hfp fin => ⟨it, fp, wr, its.toArray.size, _, St, _, rfl, W, st, hfp, ?_, CmpOf.ints_lt (fun i => (n :: ns).getD i 0) (fun i w hw => (intAt hv hw).2), fun w h' tk hw kk => ?_⟩)
        · rw [List.size_toArray, ← hv.length]; simp
        · obtain ⟨hl, t, rfl⟩ := intAt hv hw
          obtain ⟨b1, b2⟩ := argBest_lt (fun i => (n :: ns).getD i 0) (its.toArray.size - 1)
          refine ⟨.int (ns.foldl min n), a.H, fin h' tk kk, ⟨t, ?_⟩, q a _ (Ext.refl a) sm rfl⟩
          have hsz : its.toArray.size = ns.length + 1 := by rw [List.size_toArray, ← hv.length]; simp
          obtain ⟨m1, m2, m3⟩ := foldl_min_le ns n
          have hle : ∀ x ∈ n :: ns, ns.foldl min n ≤ x := fun x hx => by
            rcases List.mem_cons.mp hx with rfl | hx
            · exact m1
            · exact m2 x hx
          have hin : ns.foldl min n ∈ n :: ns := by
            rcases m3 with h | h
            · rw [h]; exact List.mem_cons_self
            · exact List.mem_cons_of_mem _ h
          obtain ⟨j, hj, ej⟩ := List.getElem_of_mem hin
          have c1 := b2 j (by simp at hj; omega)
          have c2 := hle _ (List.getElem_mem hl)
          have e1 : (n :: ns).getD j 0 = ns.foldl min n := by rw [List.getD_eq_getElem?_getD, List.getElem?_eq_getElem hj]; exact ej
          have e2 : (n :: ns).getD (argBest (fun i j => decide ((fun i => (n :: ns).getD i 0) i < (fun i => (n :: ns).getD i 0) j)) (its.toArray.size - 1)) 0 = (n :: ns)[argBest (fun i j => decide ((fun i => (n :: ns).getD i 0) i < (fun i => (n :: ns).getD i 0) j)) (its.toArray.size - 1)] := by
            rw [List.getD_eq_getElem?_getD, List.getElem?_eq_getElem hl]; rfl
          have c1' := c1
          rw [e1] at c1'
          rw [← e2] at c2
          congr 1
          exact Int.le_antisymm c1' c2
      · exact q.elim
    · exact q.elim
  · exact q.elim
/-- a list that was just made, many times -/
def opRep : D → D → DH → R D
  | .ref p, .int k, G => match G[p]? with
    | some (.lst xs) => if -(2 ^ 63) ≤ k ∧ k < 2 ^ 63 ∧ xs.length * k.toNat ≤ 1000000 then .ok (.ref G.length) (G ++ [.lst (List.replicate k.toNat xs).flatten]) else .bad
    | _ => .bad
  | _, _, _ => .bad
theorem Reps.rep {a : Wd} {ds : List D} {vs : List V} (r : Reps a ds vs) : ∀ k, Reps a (List.replicate k ds).flatten (List.replicate k vs).flatten
  | 0 => rfl
  | k + 1 => by
    rw [List.replicate_succ, List.replicate_succ, List.flatten_cons, List.flatten_cons]
    exact r.append (Reps.rep r k)
theorem o_rep : OpR X (binaryOp .Mult) (lR2 X.K E opRep) := op_rep.mono fun x y H Q h => by
  obtain ⟨a, G, d, e, hk, rfl, s, rd, re, q⟩ := h
  cases d with
  | ref p =>
    cases e with
    | int k =>
      unfold opRep at q
      dsimp only at q
      split at q
      · rename_i xs hx
        split at q
        · rename_i hc
          obtain ⟨vs, e1, r1⟩ := s.lst hx
          obtain ⟨hp, rfl⟩ := rd
          refine ⟨a.m p, k, vs, rfl, re, e1, hc.1, hc.2.1, ?_, fun p hp => new_lst s (Reps.rep r1 k.toNat) q p hp⟩
          rw [← r1.length]; exact Nat.le_trans hc.2.2 size6
        · exact q.elim
      · exact q.elim
    | _ => exact (show False from q).elim
  | _ => exact (show False from q).elim
end
end DL
namespace DL
open PySem PySem.W PyProof.Rows
/-- all that is asked is below n, all that comes of it has P -/
def Safe (n : Nat) {α : Type} (P : α → Prop) : KasT α → Prop
  | .ret a => P a
  | .ask i j k => i < n ∧ j < n ∧ ∀ b, Safe n P (k b)
theorem Safe.bind {n : Nat} {α β : Type} {f : α → KasT β} {P : α → Prop} {Q : β → Prop} (h2 : ∀ a, P a → Safe n Q (f a)) : ∀ {t : KasT α}, Safe n P t → Safe n Q (t.bind f)
  | .ret a, h => h2 a h
  | .ask _ _ _, h => ⟨h.1, h.2.1, fun b => Safe.bind h2 (h.2.2 b)⟩
theorem Safe.imp {n : Nat} {α : Type} {P Q : α → Prop} (h2 : ∀ a, P a → Q a) : ∀ {t : KasT α}, Safe n P t → Safe n Q t
  | .ret a, h => h2 a h
  | .ask _ _ _, h => ⟨h.1, h.2.1, fun b => Safe.imp h2 (h.2.2 b)⟩
def Ents (n : Nat) (p : Array Nat) : Prop := 0 < n ∧ ∀ x, x ∈ p → x < n
theorem Ents.pt {n : Nat} {p : Array Nat} (h : Ents n p) (k : Nat) : p.getD k 0 < n := by
  by_cases hk : k < p.size
  · have : p.getD k 0 = p[k] := by simp [Array.getD, hk]
    rw [this]; exact h.2 _ (Array.getElem_mem hk)
  · have : p.getD k 0 = 0 := by simp [Array.getD, hk]
    rw [this]; exact h.1
theorem Ents.perm {n : Nat} {p q : Array Nat} (h : Ents n p) (e : q.Perm p) : Ents n q := ⟨h.1, fun x hx => h.2 x (e.mem_iff.mp hx)⟩
theorem safe_asc {n : Nat} {p : Array Nat} (h : Ents n p) : ∀ f m, Safe n (fun _ => True) (kas_asc p f m)
  | 0, m => trivial
  | f + 1, m => ⟨h.pt _, h.pt _, fun b => by
      cases b with
      | true => exact trivial
      | false => exact safe_asc h f (m + 1)⟩
theorem safe_desc {n : Nat} : ∀ f {p : Array Nat} m q, Ents n p → Safe n (fun r => Ents n r.1) (kas_desc f p m q)
  | 0, p, m, q, h => h
  | f + 1, p, m, q, h => ⟨h.pt _, h.pt _, fun b => by
      cases b with
      | true =>
        by_cases hq : q > 0
        · simp only [if_true, if_pos hq]; exact safe_desc f _ _ (h.perm (mirror_perm ..))
        · simp only [if_true, if_neg hq]; exact safe_desc f _ _ h
      | false =>
        refine ⟨h.pt _, h.pt _, fun d => ?_⟩
        cases d with
        | true => exact h
        | false => exact safe_desc f _ _ h⟩
theorem safe_tail3 {n : Nat} {p : Array Nat} (h : Ents n p) (m k : Nat) : Safe n (fun r => Ents n r.2) (kas_tail3 m k p) := by
  unfold kas_tail3
  refine Safe.bind (P := fun _ => True) (fun a _ => ?_) (safe_asc (h.perm (mirror_perm ..)) _ _)
  exact h.perm (mirror_perm ..)
theorem safe_descPart {n : Nat} {p : Array Nat} (h : Ents n p) (m k : Nat) : Safe n (fun r => Ents n r.2) (kas_descPart m k p) :=
  Safe.bind (P := fun r => Ents n r.1) (fun a ha => by
    split
    · exact safe_tail3 (ha.perm (mirror_perm ..)) _ _
    · exact safe_tail3 ha _ _) (safe_desc _ _ _ h)
theorem safe_count {n : Nat} {p : Array Nat} (h : Ents n p) (k : Nat) : Safe n (fun r => Ents n r.2) (kas_count k p) :=
  Safe.bind (P := fun _ => True) (fun a _ => by
    split
    · exact h
    · split
      · refine ⟨h.pt _, h.pt _, fun c => ?_⟩
        cases c with
        | true => exact h
        | false => exact safe_descPart (h.perm (mirror_perm ..)) _ _
      · exact safe_descPart h _ _) (safe_asc h _ _)
theorem safe_place {n : Nat} {p : Array Nat} (h : Ents n p) (k : Nat) : ∀ f l r, Safe n (fun _ => True) (kas_place p k f l r)
  | 0, l, r => trivial
  | f + 1, l, r => by
    unfold kas_place
    split
    · trivial
    · refine ⟨h.pt _, h.pt _, fun c => ?_⟩
      cases c with
      | true => exact safe_place h k f _ _
      | false => exact safe_place h k f _ _
theorem safe_bin {n : Nat} : ∀ f {p : Array Nat} k, Ents n p → Safe n (fun _ => True) (kas_bin f p k)
  | 0, p, k, h => trivial
  | f + 1, p, k, h => Safe.bind (P := fun _ => True) (fun a _ => safe_bin f _ (h.perm (bubble_perm ..))) (safe_place h k _ _ _)
theorem safe_sort {n : Nat} (hn : 0 < n) : Safe n (fun _ => True) (kas_sort n) :=
  Safe.bind (P := fun r => Ents n r.2) (fun a ha => by
    split
    · exact safe_bin _ _ ha
    · trivial) (safe_count ⟨hn, fun x hx => by simpa using hx⟩ _)
end DL
namespace DL
open PySem PySem.Spec L2
open PyProof.Rows hiding St
/-! ### sorted, of tuples -/
def ltL : List D → List D → Option Bool
  | [], [] => some false
  | [], _ :: _ => some true
  | _ :: _, [] => some false
  | .int a :: r, .int b :: r' => if a = b then ltL r r' else some (decide (a < b))
  | .str a :: r, .str b :: r' => if a = b then ltL r r' else some (decide (a.cps.toList < b.cps.toList))
  | _ :: _, _ :: _ => none
def ltD : D → D → Option Bool
  | .tup xs, .tup ys => ltL xs ys
  | _, _ => none
def ltI (xs : List D) (i j : Nat) : Bool := (ltD (xs.getD i .non) (xs.getD j .non)).getD false
def isIt : D → Bool
  | .tup (.int _ :: _) => true
  | _ => false
def isSt : D → Bool
  | .tup (.str _ :: _) => true
  | _ => false
def okKeys (xs : List D) : Bool := (xs.all isIt || xs.all isSt) && xs.all fun x => xs.all fun y => (ltD x y).isSome
def sortD (xs : List D) : List D := if xs.length < 2 then xs else (askR (ltI xs) (PySem.W.kas_sort xs.length)).toList.map fun i => xs.getD i .non
def fSorted (ds : List D) (G : DH) : R D := match ds with
  | [d] => match lstOf d G with
    | some xs => if (xs.length < 64 ∧ (sortD xs).length < 64) ∧ okKeys xs = true then .ok (.ref G.length) (G ++ [.lst (sortD xs)]) else .bad
    | none => .bad
  | _ => .bad
theorem kasWp_safe {n : Nat} {cmp : Nat → Nat → (Bool → Shared → Prop) → Shared → Prop} {lt : Nat → Nat → Bool} {s : Shared} (h : ∀ i j, i < n → j < n → ∀ C : Bool → Shared → Prop, C (lt i j) s → cmp i j C s) {α : Type} {P : α → Prop} {Q : α → Shared → Prop} :
    ∀ {t : PySem.W.KasT α}, Safe n P t → Q (askR lt t) s → t.kasWp cmp Q s
  | .ret _, _, hq => hq
  | .ask i j k, hs, hq => h i j hs.1 hs.2.1 _ (kasWp_safe h (hs.2.2 (lt i j)) hq)
section
variable {prog : Program} {w : World} {A : Around} {s : Shared}
theorem one_int {c : Bool} {a b : Int} {t u : Tok} {Q : Bool → Shared → Prop} {E : Value → Shared → Prop} (h : Q (decide (a < b)) s) : wpAny (model prog w) A (oneLt' c (.int a t) (.int b u)) Q E s := by
  cases c with
  | true => exact oneLt_int h
  | false => exact PySem.W.kat_one _ _ (lt_int (Q := PySem.W.BoolBack Q) h)
theorem one_str {c : Bool} {a b : Str} {t u : Tok} {Q : Bool → Shared → Prop} {E : Value → Shared → Prop} (h : Q (decide (a.cps.toList < b.cps.toList)) s) : wpAny (model prog w) A (oneLt' c (.str a t) (.str b u)) Q E s := by
  cases c with
  | true => exact oneLt_str h
  | false => exact PySem.W.kat_one _ _ (lt_str (Q := PySem.W.BoolBack Q) h)
/-- two tuples, held against each other -/
theorem lex_ok {a : Wd} {Q : Bool → Shared → Prop} {fin : Bool} : ∀ {xs ys : List D} {vs ws : List V} {us zs : List Value} {i : Nat} {k : Bool}, Reps a xs vs → Reps a ys ws → Vals vs us → Vals ws zs → ltL xs ys = some k → fin = decide (us.length < zs.length) → Q k s →
    PySem.W.KatLex prog w A true fin Q (us.zip zs) i s
  | [], [], vs, ws, us, zs, i, k, r1, r2, v1, v2, h, hf, hq => by
    cases (show vs = [] from r1); cases (show ws = [] from r2); cases v1; cases v2
    cases h
    subst hf
    exact PySem.W.kat_nil hq
  | [], y :: ys, vs, ws, us, zs, i, k, r1, r2, v1, v2, h, hf, hq => by
    cases (show vs = [] from r1); cases v1
    obtain ⟨w1, wr, rfl, _, _⟩ := r2
    cases v2
    cases h
    subst hf
    exact PySem.W.kat_nil (by simpa using hq)
  | x :: xs, [], vs, ws, us, zs, i, k, r1, r2, v1, v2, h, hf, hq => by
    cases (show ws = [] from r2); cases v2
    obtain ⟨w1, wr, rfl, _, _⟩ := r1
    cases v1
    have hk : k = false := by
      cases x <;> (simp [ltL] at h; exact h)
    subst hk
    subst hf
    exact PySem.W.kat_nil (by simpa using hq)
  | x :: xs, y :: ys, vs, ws, us, zs, i, k, r1, r2, v1, v2, h, hf, hq => by
    have hcase : (∃ m n, x = .int m ∧ y = .int n) ∨ (∃ m n, x = .str m ∧ y = .str n) := by
      cases x <;> cases y <;> first
        | exact .inl ⟨_, _, rfl, rfl⟩
        | exact .inr ⟨_, _, rfl, rfl⟩
        | (exfalso; simp [ltL] at h)
    obtain ⟨v0, vr, rfl, e1, r1⟩ := r1
    obtain ⟨w0, wr, rfl, e2, r2⟩ := r2
    rcases hcase with ⟨m, n, rfl, rfl⟩ | ⟨m, n, rfl, rfl⟩
    · cases (show v0 = V.int m from e1)
      cases (show w0 = V.int n from e2)
      cases v1 with
      | cons q1 v1 =>
        cases v2 with
        | cons q2 v2 =>
          obtain ⟨t, rfl⟩ := q1
          obtain ⟨u, rfl⟩ := q2
          rw [List.zip_cons_cons]
          refine PySem.W.kat_cons (wpAny_eqBool_int (PySem.W.kat_go (fun he => ?_) fun he => ?_))
          · have e : m = n := by simpa using he
            rw [show ltL (.int m :: xs) (.int n :: ys) = if m = n then ltL xs ys else some (decide (m < n)) from rfl, if_pos e] at h
            exact PySem.W.kat_yes (lex_ok r1 r2 v1 v2 h (by simpa using hf) hq)
          · have e : m ≠ n := by simpa using he
            rw [show ltL (.int m :: xs) (.int n :: ys) = if m = n then ltL xs ys else some (decide (m < n)) from rfl, if_neg e] at h
            cases h
            exact PySem.W.kat_no (one_int hq)
    · cases (show v0 = V.str m from e1)
      cases (show w0 = V.str n from e2)
      cases v1 with
      | cons q1 v1 =>
        cases v2 with
        | cons q2 v2 =>
          obtain ⟨t, rfl⟩ := q1
          obtain ⟨u, rfl⟩ := q2
          rw [List.zip_cons_cons]
          refine PySem.W.kat_cons (wpAny_eqBool_str (PySem.W.kat_go (fun he => ?_) fun he => ?_))
          · have e : m = n := by simpa using he
            rw [show ltL (.str m :: xs) (.str n :: ys) = if m = n then ltL xs ys else some (decide (m.cps.toList < n.cps.toList)) from rfl, if_pos e] at h
            exact PySem.W.kat_yes (lex_ok r1 r2 v1 v2 h (by simpa using hf) hq)
          · have e : m ≠ n := by simpa using he
            rw [show ltL (.str m :: xs) (.str n :: ys) = if m = n then ltL xs ys else some (decide (m.cps.toList < n.cps.toList)) from rfl, if_neg e] at h
            cases h
            exact PySem.W.kat_no (one_str hq)
end
end DL
namespace DL
open PySem PySem.Spec L2
open PyProof.Rows hiding St
section
variable {X : Cx} {E : XK} {pins : List (Addr × Obj)} {σ : St} {s : Shared} {H : Hp} {h' : Heap}
/-- all but the frame's own object is kept, and the frame's map -/
theorem inv_frame {t' : Nat} (I : Inv X pins σ H s) (k : ∀ b o, b ≠ X.env.locals → s.heap.get? b = some o → h'.get? b = some o) (ns : ∀ m, s.heap.Ns X.env.locals m → h'.Ns X.env.locals m) : Inv X pins σ H { s with heap := h', toks := t' } := by
  refine I.step (g' := s.gens) (d' := s.drawn) (ch := []) (fun _ z => nomatch z) (fun b o hL _ _ e _ => k b o hL e) (fun b o hL _ _ e _ => ⟨o.slots, k b o hL e⟩) (fun _ _ _ _ n => n) (fun b o _ e => ?_) (fun _ _ e => e) (fun _ _ _ e => e)
    (fun b ps e => ⟨#[], by rw [e]; simp⟩) ns (fun b u e => ?_) I.bare
  · by_cases hb : b = X.env.locals
    · obtain ⟨m, hn, _⟩ := I.loc
      obtain ⟨o', _, _, ho', _⟩ := ns m hn
      exact ⟨o', by rw [hb]; exact ho'⟩
    · exact ⟨o, k b o hb e⟩
  · have nL : ∀ c w, H c = some w → c ≠ X.env.locals := fun c w e z => by rw [z, I.free] at e; cases e
    refine (I.hok b u e).stay (fun c v hc q => k c v ?_ q) (fun _ q => q) fun _ _ q => q
    rcases hc with z | z
    · rw [z]; exact nL b u e
    · exact nL c _ z
end
section
variable {prog : Program} {w : World} {A : Around} {E : Value → Shared → Prop} {s : Shared}
/-- sorted: a new list, sorted in place -/
theorem sorted_open {l : Addr} {vs : List Value} {Q : Value → Shared → Prop} (hl : s.heap.IsList l vs.toArray) (hz : vs.length < 64)
    (h : ∀ h1, h1.get? (s.heap.objs.size + 1) = some (seqObj "list" vs.toArray 0) → (∀ b o, s.heap.get? b = some o → h1.get? b = some o) →
      wpAny (model prog w) A.in1.in1 (Builtin.«list.sort» ⟨[.ref (s.heap.objs.size + 1)], []⟩) (fun fin s' => fin = .done (.ret .none) ∧ Q (.ref (s.heap.objs.size + 1)) s') E { s with heap := h1 }) :
    wpAny (model prog w) A (call (.builtin "sorted") [.ref l]) Q E s := by
  have h64 : vs.length ≤ sizeLine := by rw [sizeLine_eq]; omega
  refine Calls.call_function_entry kind_sorted plain_sorted entry_sorted (args_sorted1 _) ?_
  unfold Builtin.«sorted»
  refine wpAny_bind (m := checkCount "sorted" 1 1 _) (wpAny_pure (wpAny_bind (collect_list hl (wpAny_bind (wpAny_newList ?_ h64)) h64)))
  generalize hh : (s.heap.push (seqObj "list" #[] 0)).update s.heap.objs.size (Obj.mapSeq (· ++ vs.toArray)) = h0
  have e0 : h0.objs.size = s.heap.objs.size + 1 := by rw [← hh, Heap.size_update, size_push']
  have k0 : ∀ b o, s.heap.get? b = some o → h0.get? b = some o := fun b o q => by
    have hlt : b < s.heap.objs.size := Heap.lt_size q
    rw [← hh, Heap.get?_update_ne _ _ _ _ (Nat.ne_of_lt hlt), Heap.get?_push_ne _ _ _ (Nat.ne_of_lt hlt)]
    exact q
  have hD : (h0.push (seqObj "list" vs.toArray 0)).get? (s.heap.objs.size + 1) = some (seqObj "list" vs.toArray 0) := by rw [← e0]; exact Heap.get?_push_size _ rfl
  have hq := h (h0.push (seqObj "list" vs.toArray 0)) hD fun b o q => Heap.get?_push_of_some _ (k0 b o q)
  show wpAny _ _ _ _ _ { s with heap := h0.push (seqObj "list" vs.toArray 0) }
  rw [e0]
  refine wpAny_bind (wpAny_holding (wpAny_call_entry slot_list_sort ⟨_, hD, rfl⟩ entry_list_sort ?_ (args_list_sort _)))
  refine wpAny_mono hq (fun fin s' hf => ?_) fun _ _ x => x
  exact ⟨_, hf.1, wpAny_pure ⟨_, rfl, hf.2⟩⟩
/-- one item or none: nothing is asked -/
theorem sort_few {a : Addr} {vs : List Value} {n : Nat} {P : Fin → Shared → Prop} (ho : s.heap.get? a = some (seqObj "list" vs.toArray n)) (h2 : vs.length < 2)
    (h : ∀ h' c, h'.get? a = some (seqObj "list" vs.toArray c) → (∀ b o, b ≠ a → s.heap.get? b = some o → h'.get? b = some o) → P (.done (.ret .none)) { s with heap := h' }) : wpAny (model prog w) A (Builtin.«list.sort» ⟨[.ref a], []⟩) P E s := by
  have ha : a < s.heap.objs.size := Heap.lt_size ho
  have s1 := Heap.SameBut.update s.heap a (Obj.mapSeq fun _ => (#[] : Array Value))
  obtain ⟨e1, ho1⟩ : ∃ e1, (s.heap.update a (Obj.mapSeq fun _ => (#[] : Array Value))).get? a = some (seqObj "list" #[] e1) := ⟨_, get?_update_seq ho fun _ => #[]⟩
  rw [list_sort_plain]
  refine wpAny_bind (listItems_at ho rfl (wpAny_bind (listUpdate_at ho rfl ?_ (by rw [List.size_toArray, sizeLine_eq]; omega) (Nat.zero_le _))))
  refine wpAny_bind (seqEpoch_at ho1 rfl (wpAny_bind (wpAny_newTuple (wpAny_bind (wpAny_newList (wpAny_holding ?_) (Nat.zero_le _))) (by show vs.length ≤ _; rw [sizeLine_eq]; omega))))
  dsimp only
  have hn2 : vs.toArray.size < 2 := by rw [List.size_toArray]; omega
  rw [if_pos hn2, if_pos hn2]
  refine wpAny_bind (wpAny_pure (wpAny_bind (wpAny_of_eq (a := ((), SortSt.mk' general' (vs.toArray.zip vs.toArray) #[] 7 none)) rfl ?_)))
  dsimp only
  have hout : (arrOf (SortSt.mk' general' (vs.toArray.zip vs.toArray) #[] 7 none)).map (·.2) = vs.toArray := by
    show (vs.toArray.zip vs.toArray).map (·.2) = vs.toArray
    refine Array.ext (by simp) fun i h1 h2 => by simp
  rw [hout]
  generalize hh : ((s.heap.update a (Obj.mapSeq fun _ => (#[] : Array Value))).push { cls := .type "tuple", data := .seq vs.toArray.toList.toArray }).push { cls := .type "list", data := .seq ([] : List Value).toArray } = h3
  have ho3 : h3.get? a = some (seqObj "list" #[] e1) := by rw [← hh]; exact Heap.get?_push_of_some _ (Heap.get?_push_of_some _ ho1)
  have k3 : ∀ b o, b ≠ a → s.heap.get? b = some o → h3.get? b = some o := fun b o hb q => by rw [← hh]; exact Heap.get?_push_of_some _ (Heap.get?_push_of_some _ (s1.extBut b o hb q))
  refine wpAny_bind (seqEpoch_at (o := seqObj "list" #[] e1) ?_ rfl ?_)
  · exact ho3
  have s2 := Heap.SameBut.update h3 a (Obj.mapSeq fun _ => vs.toArray)
  obtain ⟨c2, hc2⟩ : ∃ c2, (h3.update a (Obj.mapSeq fun _ => vs.toArray)).get? a = some (seqObj "list" vs.toArray c2) := ⟨_, get?_update_seq ho3 fun _ => vs.toArray⟩
  refine wpAny_bind (listUpdate_at ho3 rfl ?_ (Nat.zero_le _) (by show vs.toArray.size ≤ _; rw [List.size_toArray, sizeLine_eq]; omega))
  simp only [bne_self_eq_false, Bool.false_eq_true, if_false]
  exact wpAny_pure (h _ c2 hc2 fun b o hb q => s2.extBut b o hb (k3 b o hb q))
end
end DL
namespace DL
open PySem PySem.Spec L2
open PyProof.Rows hiding St
theorem boot_sorted' : bootBuiltins "sorted" = some (.builtin "sorted") := by decide +kernel
section
variable {X : Cx} {E : XK} {pins : List (Addr × Obj)} {σ : St} {s : Shared} {H : Hp}
/-- a list known by its values: a tuple at each place -/
theorem tup_at {a : Wd} (I : Inv X pins σ a.H s) (hk : a.K = X.K) {d : D} {v : V} {u : Value} {xs : List D} (r : Rep a d v) (ru : RelV v u) (h : d = .tup xs) : ∃ p o vs us n, u = .ref p ∧ s.heap.get? p = some o ∧ o.cls = .type "tuple" ∧ o.data = .seq us n ∧ Vals vs us.toList ∧ Reps a xs vs := by
  subst h
  obtain ⟨p, vs, rfl, hq, rv⟩ := r
  cases ru
  rw [hk] at hq
  obtain ⟨its, rr, ⟨o, ho, hc, n, hd⟩, hz⟩ := I.tuple hq
  exact ⟨p, o, vs, its.toArray, n, rfl, ho, hc, hd, by simpa using rr, rv⟩
theorem isIt_eq {d : D} (h : isIt d = true) : ∃ i r, d = .tup (.int i :: r) := by
  unfold isIt at h
  split at h
  · exact ⟨_, _, rfl⟩
  · cases h
theorem isSt_eq {d : D} (h : isSt d = true) : ∃ i r, d = .tup (.str i :: r) := by
  unfold isSt at h
  split at h
  · exact ⟨_, _, rfl⟩
  · cases h
theorem kats_int {a : Wd} (I : Inv X pins σ a.H s) (hk : a.K = X.K) : ∀ {xs : List D} {vs : List V} {us : List Value}, Reps a xs vs → Vals vs us → xs.all isIt = true → ∃ fs, PySem.W.KatTups s.heap us fs ∧ fs.length = us.length ∧ ∀ v ∈ fs, ∃ i t, v = .int i t
  | [], vs, us, r, v, h => by
    cases (show vs = [] from r); cases v
    exact ⟨[], .nil, rfl, fun _ hm => nomatch hm⟩
  | d :: xs, vs, us, r, v, h => by
    rw [List.all_cons, Bool.and_eq_true] at h
    obtain ⟨v0, vr, rfl, e1, r1⟩ := r
    cases v with
    | cons q1 v1 =>
      obtain ⟨i, rr, rfl⟩ := isIt_eq h.1
      obtain ⟨p, o, ws, zs, n, rfl, ho, hc, hd, hv, hr⟩ := tup_at I hk e1 q1 rfl
      obtain ⟨w0, wr, rfl, g1, g2⟩ := hr
      cases (show w0 = V.int i from g1)
      obtain ⟨fs, k1, k2, k3⟩ := kats_int I hk r1 v1 h.2
      have hz : ∃ t, zs[0]? = some (.int i t) := by
        cases hz : zs.toList with
        | nil => rw [hz] at hv; cases hv
        | cons z zr =>
          rw [hz] at hv
          cases hv with
          | cons q _ =>
            obtain ⟨t, rfl⟩ := q
            exact ⟨t, by rw [← Array.getElem?_toList, hz]; rfl⟩
      obtain ⟨t, hz⟩ := hz
      refine ⟨.int i t :: fs, .cons ho hc hd hz k1, by simp [k2], fun v hm => ?_⟩
      rcases List.mem_cons.mp hm with rfl | hm
      · exact ⟨i, t, rfl⟩
      · exact k3 v hm
theorem kats_str {a : Wd} (I : Inv X pins σ a.H s) (hk : a.K = X.K) : ∀ {xs : List D} {vs : List V} {us : List Value}, Reps a xs vs → Vals vs us → xs.all isSt = true → ∃ fs, PySem.W.KatTups s.heap us fs ∧ fs.length = us.length ∧ ∀ v ∈ fs, ∃ i t, v = .str i t
  | [], vs, us, r, v, h => by
    cases (show vs = [] from r); cases v
    exact ⟨[], .nil, rfl, fun _ hm => nomatch hm⟩
  | d :: xs, vs, us, r, v, h => by
    rw [List.all_cons, Bool.and_eq_true] at h
    obtain ⟨v0, vr, rfl, e1, r1⟩ := r
    cases v with
    | cons q1 v1 =>
      obtain ⟨i, rr, rfl⟩ := isSt_eq h.1
      obtain ⟨p, o, ws, zs, n, rfl, ho, hc, hd, hv, hr⟩ := tup_at I hk e1 q1 rfl
      obtain ⟨w0, wr, rfl, g1, g2⟩ := hr
      cases (show w0 = V.str i from g1)
      obtain ⟨fs, k1, k2, k3⟩ := kats_str I hk r1 v1 h.2
      have hz : ∃ t, zs[0]? = some (.str i t) := by
        cases hz : zs.toList with
        | nil => rw [hz] at hv; cases hv
        | cons z zr =>
          rw [hz] at hv
          cases hv with
          | cons q _ =>
            obtain ⟨t, rfl⟩ := q
            exact ⟨t, by rw [← Array.getElem?_toList, hz]; rfl⟩
      obtain ⟨t, hz⟩ := hz
      refine ⟨.str i t :: fs, .cons ho hc hd hz k1, by simp [k2], fun v hm => ?_⟩
      rcases List.mem_cons.mp hm with rfl | hm
      · exact ⟨i, t, rfl⟩
      · exact k3 v hm
/-- the list behind, as it stands at a new place -/
theorem sorted_back {a : Wd} {G : DH} {ys : List D} {ws : List V} {us : List Value} {Q : VK} {h2 : Heap} {c : Nat} (I : Inv X pins σ a.H s) (sm : Sim a G) (q : out E a (.ok (.ref G.length) (G ++ [.lst ys])) Q) (r : Reps a ys ws) (v : Vals ws us) (hz : us.length < 64)
    (hD : h2.get? (s.heap.objs.size + 1) = some (seqObj "list" us.toArray c)) (k : ∀ b o, b ≠ X.env.locals → s.heap.get? b = some o → h2.get? b = some o) (ns : ∀ m, s.heap.Ns X.env.locals m → h2.Ns X.env.locals m) :
    EP X pins σ Q (.ref (s.heap.objs.size + 1)) { s with heap := h2 } := by
  have hle : s.heap.objs.size ≤ s.heap.objs.size + 1 := Nat.le_succ _
  obtain ⟨g0, g1, g2, g3, g4, g5⟩ := I.fpOk (H' := a.H) hle (I.hok.fresh hle)
  have I2 : Inv X pins σ a.H { s with heap := h2 } := inv_frame (t' := s.toks) I k ns
  refine ⟨.ref (s.heap.objs.size + 1), _, Inv_adopt I2 g0 (Nat.le_trans I.sz hle) g1 g4 g5 (o := .lst ws) ⟨?_, us, c, v, hD⟩, rfl, new_lst sm r q _ g0⟩
  rw [v.length, sizeLine_eq]; omega
end
end DL
namespace DL
open PySem PySem.Spec L2
open PyProof.Rows hiding St
section
variable {X : Cx} {E : XK}
theorem okKeys_lt {xs : List D} (h : okKeys xs = true) {x y : D} (hx : x ∈ xs) (hy : y ∈ xs) : ∃ k, ltD x y = some k := by
  unfold okKeys at h
  rw [Bool.and_eq_true] at h
  exact Option.isSome_iff_exists.mp (List.all_eq_true.mp (List.all_eq_true.mp h.2 x hx) y hy)
theorem ltD_tup {x y : D} {k : Bool} (h : ltD x y = some k) : ∃ xs ys, x = .tup xs ∧ y = .tup ys ∧ ltL xs ys = some k := by
  unfold ltD at h
  split at h
  · exact ⟨_, _, rfl, rfl, h⟩
  · cases h
theorem repsPick {a : Wd} {xs : List D} {vs : List V} (r : Reps a xs vs) : ∀ l : List Nat, (∀ i ∈ l, i < xs.length) → Reps a (l.map fun i => xs.getD i .non) (l.map fun i => vs.getD i .non)
  | [], _ => rfl
  | i :: l, h => by
    have hi : i < xs.length := h i List.mem_cons_self
    obtain ⟨v, ev, rv⟩ := r.get (i := i) (d := xs[i]) (List.getElem?_eq_getElem hi)
    refine ⟨vs.getD i .non, _, rfl, ?_, repsPick r l fun j hj => h j (List.mem_cons_of_mem _ hj)⟩
    have e1 : xs.getD i .non = xs[i] := by simp [hi]
    have e2 : vs.getD i .non = v := by rw [List.getD_eq_getElem?_getD, ev]; rfl
    show Rep a (xs.getD i .non) (vs.getD i .non)
    rw [e1, e2]; exact rv
theorem valsPick {vs : List V} {us : List Value} (r : Vals vs us) : ∀ l : List Nat, (∀ i ∈ l, i < vs.length) → Vals (l.map fun i => vs.getD i .non) (l.map fun i => us.getD i .none)
  | [], _ => .nil
  | i :: l, h => by
    have hi : i < vs.length := h i List.mem_cons_self
    obtain ⟨u, eu, ru⟩ := r.get (i := i) (x := vs[i]) (List.getElem?_eq_getElem hi)
    rw [List.map_cons, List.map_cons]
    have e1 : vs.getD i .non = vs[i] := by simp [hi]
    have e2 : us.getD i .none = u := by rw [List.getD_eq_getElem?_getD, eu]; rfl
    rw [e1, e2]
    exact .cons ru (valsPick r l fun j hj => h j (List.mem_cons_of_mem _ hj))
theorem safe_perm {n : Nat} {lt : Nat → Nat → Bool} {P : Array Nat → Prop} : ∀ {t : PySem.W.KasT (Array Nat)}, Safe n P t → P (askR lt t)
  | .ret _, h => h
  | .ask i j k, h => safe_perm (t := k (lt i j)) (h.2.2 (lt i j))
theorem safe_binE {n : Nat} : ∀ f {p : Array Nat} k, Ents n p → Safe n (Ents n) (PySem.W.kas_bin f p k)
  | 0, p, k, h => h
  | f + 1, p, k, h => Safe.bind (P := fun _ => True) (fun a _ => safe_binE f _ (h.perm (bubble_perm ..))) (safe_place h k _ _ _)
theorem safe_sortE {n : Nat} (hn : 0 < n) : Safe n (Ents n) (PySem.W.kas_sort n) :=
  Safe.bind (P := fun r => Ents n r.2) (fun a ha => by
    split
    · exact safe_binE _ _ ha
    · exact ha) (safe_count ⟨hn, fun x hx => by simpa using hx⟩ _)
theorem c_sorted : CallR X (.builtin "sorted") (lRn X.K E fSorted) := by
  intro pins s σ H vs us Q I rs h
  obtain ⟨a, G, ds, hk, rfl, sm, r, q⟩ := h
  unfold fSorted at q
  split at q
  · rename_i d
    obtain ⟨v, rfl, rv⟩ := reps1 r
    split at q
    · rename_i xs hs
      split at q
      · rename_i hc
        obtain ⟨p, ws, rfl, h1, r1⟩ := lstOf_rep sm rv hs
        rw [hk] at h1
        obtain ⟨u, rfl, ru⟩ := vals1 rs
        cases ru
        obtain ⟨its, hv, pl, hz⟩ := I.list h1
        have hlx : xs.length = its.length := r1.length.trans hv.length
        refine sorted_open pl.isList (by omega) fun h1 hD k1 => ?_
        obtain ⟨m, hn, _⟩ := id I.loc
        have hns1 : h1.Ns X.env.locals m := hn.keeps k1
        have hDL : s.heap.objs.size + 1 ≠ X.env.locals := Nat.ne_of_gt (Nat.lt_succ_of_lt I.lt)
        have nsAll : ∀ {h2 : Heap}, h2.Ns X.env.locals m → ∀ m', s.heap.Ns X.env.locals m' → h2.Ns X.env.locals m' := fun {h2} hh m' hm' => by
          have e1 := hn.eq_nsMap
          have e2 := hm'.eq_nsMap
          rw [e2, ← e1]; exact hh
        by_cases hlen : xs.length < 2
        · refine sort_few (s := { s with heap := h1 }) hD (by omega) fun h2 c hD2 k2 => ⟨rfl, ?_⟩
          have es : sortD xs = xs := by unfold sortD; rw [if_pos hlen]
          rw [es] at q
          refine sorted_back I sm q r1 hv (by omega) hD2 (fun b o hb e => k2 b o ?_ (k1 b o e)) (nsAll (hns1.at fun o e => k2 _ o (Ne.symm hDL) e))
          exact Nat.ne_of_lt (Nat.lt_succ_of_lt (Heap.lt_size e))
        · have es : sortD xs = (askR (ltI xs) (PySem.W.kas_sort xs.length)).toList.map fun i => xs.getD i .non := by unfold sortD; rw [if_neg hlen]
          rw [es] at q
          refine PySem.W.kat_list_sort (s := { s with heap := h1 }) (Att.fr_all hns1) (news := Att.ledger h1 X.env.locals (s.heap.objs.size + 1)) ?_ hD hDL (Att.noObjs_get _ _) (fun ⟨_, _⟩ hp => (Att.mem_ledger.mp hp).2.1) (by omega) (by omega) fun e1 h2 F2 N2 => ?_
          · rintro ⟨b, o⟩ hp
            obtain ⟨n1, n2, e⟩ := Att.mem_ledger.mp hp
            exact ⟨e, n1, Att.noObjs_get _ _⟩
          have k2 : ∀ b o, b ≠ X.env.locals → s.heap.get? b = some o → h2.get? b = some o := fun b o hb e =>
            (N2 (b, o) (List.mem_cons_of_mem _ (Att.mem_ledger.mpr ⟨hb, Nat.ne_of_lt (Nat.lt_succ_of_lt (Heap.lt_size e)), k1 b o e⟩))).1
          have I2 : Inv X pins σ a.H { s with heap := h2 } := inv_frame (t' := s.toks) I k2 (nsAll F2.ns)
          have hpos : 0 < its.length := by omega
          have fin : (PySem.W.kas_sort its.length).kasWp (PySem.W.kas_ask X.prog X.w X.A.in1.in1 (tuples' true) its) (fun p s'' => PySem.W.KasFin (Att.noObjs h1) X.env.locals m (s.heap.objs.size + 1) e1 (p.toList.map fun i => its.getD i Value.none) (fun s3 => PySem.Fin.done (.ret .none) = PySem.Fin.done (.ret .none) ∧ EP X pins σ Q (.ref (s.heap.objs.size + 1)) s3) s'') { s with heap := h2 } := by
            refine kasWp_safe (lt := ltI xs) (fun i j hi hj C hC => ?_) (safe_sortE hpos) ?_
            · have hxi : i < xs.length := by omega
              have hxj : j < xs.length := by omega
              obtain ⟨v1, ev1, rv1⟩ := r1.get (i := i) (d := xs[i]) (List.getElem?_eq_getElem hxi)
              obtain ⟨v2, ev2, rv2⟩ := r1.get (i := j) (d := xs[j]) (List.getElem?_eq_getElem hxj)
              obtain ⟨u1, eu1, ru1⟩ := hv.get ev1
              obtain ⟨u2, eu2, ru2⟩ := hv.get ev2
              obtain ⟨k, hlt⟩ := okKeys_lt hc.2 (List.getElem_mem hxi) (List.getElem_mem hxj)
              obtain ⟨as, bs, ea, eb, hlL⟩ := ltD_tup hlt
              obtain ⟨p1, o1, vs1, us1, n1, rfl, ho1, _, hd1, hv1, hr1⟩ := tup_at I2 hk rv1 ru1 ea
              obtain ⟨p2, o2, vs2, us2, n2, rfl, ho2, _, hd2, hv2, hr2⟩ := tup_at I2 hk rv2 ru2 eb
              have hC' : C k { s with heap := h2 } := by
                have : ltI xs i j = k := by
                  unfold ltI
                  have e1 : xs.getD i .non = xs[i] := by simp [hxi]
                  have e2 : xs.getD j .non = xs[j] := by simp [hxj]
                  rw [e1, e2, hlt]; rfl
                rw [← this]; exact hC
              unfold PySem.W.kas_ask
              have g1 : its.getD i Value.none = .ref p1 := by rw [List.getD_eq_getElem?_getD, eu1]; rfl
              have g2 : its.getD j Value.none = .ref p2 := by rw [List.getD_eq_getElem?_getD, eu2]; rfl
              rw [g1, g2]
              exact PySem.W.kat_lt ho1 hd1 ho2 hd2 (lex_ok hr1 hr2 hv1 hv2 hlL (by simp) hC')
            · have hen : Ents its.length (askR (ltI xs) (PySem.W.kas_sort its.length)) := safe_perm (safe_sortE hpos)
              rw [hlx] at q
              refine PySem.W.KasFin.intro F2 N2 (.head fun ⟨_, _⟩ hp => (Att.mem_ledger.mp hp).2.1) fun h3 c F3 N3 => ⟨rfl, ?_⟩
              have hin : ∀ i ∈ (askR (ltI xs) (PySem.W.kas_sort its.length)).toList, i < its.length := fun i hi => hen.2 i (by simpa using hi)
              refine sorted_back I sm q (repsPick r1 _ fun i hi => by rw [hlx]; exact hin i hi) (valsPick hv _ fun i hi => by rw [hv.length]; exact hin i hi) ?_ (N3 _ List.mem_cons_self).1 (fun b o hb e => ?_) (nsAll F3.ns)
              · rw [hlx] at es
                have := hc.1.2
                rw [es] at this
                simpa using this
              · exact (N3 (b, o) (List.mem_cons_of_mem _ (Att.mem_ledger.mpr ⟨hb, Nat.ne_of_lt (Nat.lt_succ_of_lt (Heap.lt_size e)), k1 b o e⟩))).1
          unfold okKeys at hc
          rw [Bool.and_eq_true, Bool.or_eq_true] at hc
          rcases hc.2.1 with hall | hall
          · obtain ⟨fs, t1, t2, t3⟩ := kats_int I2 hk r1 hv hall
            refine PySem.W.kat_kind (T := .type "int") t1 (by omega) (fun v hm => ?_) (by decide) ?_
            · obtain ⟨i, t, rfl⟩ := t3 v hm
              exact PySem.W.Looks.now
            · exact fin
          · obtain ⟨fs, t1, t2, t3⟩ := kats_str I2 hk r1 hv hall
            refine PySem.W.kat_kind (T := .type "str") t1 (by omega) (fun v hm => ?_) (by decide) ?_
            · obtain ⟨i, t, rfl⟩ := t3 v hm
              exact PySem.W.Looks.now
            · exact fin
      · exact q.elim
    · exact q.elim
  · exact q.elim
end
end DL
namespace DL
open PySem PySem.Spec L2
open PyProof.Rows hiding St
/-! ### running: walks of pairs, stores with an operator, min, sorted -/
variable {S : DSt} {G : DH}
@[simp] theorem ev_sAuI {to ti te : DE} {f : D → D → DH → R D} : sAuI to ti te f S G = (to S G).toS fun o G1 => (ti S G1).toS fun i G2 => (ixL o i G2).toS fun x G3 => (te S G3).toS fun y G4 => (f x y G4).toS fun z G5 => (setIx o i z G5).toS fun _ G6 => .nx S G6 := id rfl
theorem ev_ixL {p : Nat} {k : Int} {xs : List D} {d : D} (h : G[p]? = some (.lst xs)) (e : atI xs k = some d) : ixL (.ref p) (.int k) G = .ok d G := by
  unfold ixL
  simp only
  rw [h]
  simp only
  rw [e]
/-- the pairs of enumerate -/
def enumL (xs : List D) : List D := xs.zipIdx.map fun q => .tup [.int q.2, q.1]
/-- the pairs of zip -/
def zipL (xs ys : List D) : List D := (xs.zip ys).map fun q => .tup [q.1, q.2]
theorem forF_drop {f : Nat → DH → Option (Option D)} {g : DG} {b : DS} {xs : List D} (h : ∀ j G, f j G = some xs[j]?) : ∀ (n j : Nat), j + n = xs.length → ∀ S G, forF f g b n j S G = forP g b (xs.drop j) S G
  | 0, j, e, S, G => by
    unfold forF
    rw [h, List.getElem?_eq_none (by omega), List.drop_of_length_le (by omega)]
    rfl
  | n + 1, j, e, S, G => by
    have hj : j < xs.length := by omega
    unfold forF
    rw [h, List.getElem?_eq_getElem hj, List.drop_eq_getElem_cons hj, forP_cons]
    have : forF f g b n (j + 1) = forP g b (xs.drop (j + 1)) := by
      funext S G
      exact forF_drop h n (j + 1) (by omega) S G
    rw [this]
theorem forF_all {f : Nat → DH → Option (Option D)} {g : DG} {b : DS} {xs : List D} {n : Nat} (h : ∀ j G, f j G = some xs[j]?) (hn : n = xs.length) : forF f g b n 0 S G = forP g b xs S G := by
  rw [forF_drop h n 0 (by omega)]; rfl
theorem enumF_fl {xs : List D} (j : Nat) (G : DH) : enumF 0 (.fl xs) j G = some (enumL xs)[j]? := by
  unfold enumF enumL
  simp only [seqOf, List.getElem?_map, List.getElem?_zipIdx]
  cases xs[j]? <;> simp
theorem enumL_length {xs : List D} : (enumL xs).length = xs.length := by simp [enumL]
@[simp] theorem ev_enum_fl {xs : List D} : iEnumD [.fl xs] G = .ok (.fn xs.length (enumF 0 (.fl xs))) G := by simp [iEnumD, okSeq, seqOf, lenOf]
@[simp] theorem forF_enum {g : DG} {b : DS} {xs : List D} : forF (enumF 0 (.fl xs)) g b xs.length 0 S G = forP g b (enumL xs) S G := forF_all enumF_fl enumL_length.symm
theorem compF_ok {f : Nat → DH → Option (Option D)} {g : DG} {c : DB} {te : DE} {F : D → Option D} {xs : List D} (hf : ∀ j, f j G = some xs[j]?) (h : ∀ x ∈ xs, CStep g c te S G x (F x)) :
    ∀ (n j : Nat), xs.length ≤ j + n → compF f g c te S n j G = .ok ((xs.drop j).filterMap F) G
  | 0, j, hj => by
    unfold compF
    rw [hf, List.getElem?_eq_none (by omega)]
    simp only
    rw [List.drop_of_length_le (by omega)]
    rfl
  | n + 1, j, hj => by
    unfold compF
    rw [hf]
    by_cases hlt : j < xs.length
    · have ih := compF_ok hf h n (j + 1) (by omega)
      obtain ⟨S1, h1, h2⟩ := h xs[j] (List.getElem_mem hlt)
      rw [List.getElem?_eq_getElem hlt]
      simp only [h1, R.bind_ok]
      rw [List.drop_eq_getElem_cons hlt, List.filterMap_cons]
      rcases h2 with ⟨h2, h3⟩ | ⟨h2, d, h3, h4⟩
      · simp [h2, h3, ih]
      · simp [h2, h3, h4, ih]
    · rw [List.getElem?_eq_none (by omega), List.drop_of_length_le (by omega)]
      rfl
theorem compF_all {f : Nat → DH → Option (Option D)} {g : DG} {c : DB} {te : DE} {F : D → Option D} {xs : List D} {n : Nat} (hf : ∀ j, f j G = some xs[j]?) (h : ∀ x ∈ xs, CStep g c te S G x (F x)) (hn : xs.length ≤ n) :
    compF f g c te S n 0 G = .ok (xs.filterMap F) G := compF_ok hf h n 0 (by omega)
theorem zipF_2 {d e : D} {xs ys : List D} (hd : seqOf d G = some xs) (he : seqOf e G = some ys) (j : Nat) : zipF [d, e] j G = some (zipL xs ys)[j]? := by
  unfold zipF zipL
  simp only [zipAt, hd, he, List.getElem?_map, List.getElem?_zip_eq_some]
  have ez : (xs.zip ys)[j]? = match xs[j]?, ys[j]? with
    | some x, some y => some (x, y)
    | _, _ => none := by
    rw [List.zip, List.getElem?_zipWith]
    cases xs[j]? <;> cases ys[j]? <;> rfl
  rw [ez]
  cases xs[j]? with
  | none => rfl
  | some x =>
    cases ys[j]? with
    | none => rfl
    | some y => rfl
theorem ev_zip2 {d e : D} {xs ys : List D} (hd : seqOf d G = some xs) (he : seqOf e G = some ys) : iZipD 2 [d, e] G = .ok (.fn xs.length (zipF [d, e])) G := by
  simp [iZipD, okSeq, hd, he, lenOf]
@[simp] theorem seqOf_fl {xs : List D} : seqOf (.fl xs) G = some xs := id rfl
theorem seqOf_ref {i : Nat} {xs : List D} (h : G[i]? = some (.lst xs)) : seqOf (.ref i) G = some xs := by simp [seqOf, h]
theorem ev_minL {d : D} {n : Int} {ns : List Int} (h : seqOf d G = some ((n :: ns).map D.int)) : fMinL [d] G = .ok (.int (ns.foldl min n)) G := by
  simp only [fMinL, h, intsD_map]
theorem ev_rep1 {p : Nat} {k : Nat} {d : D} (h : G[p]? = some (.lst [d])) (hk : k ≤ 1000000) : opRep (.ref p) (.int (k : Int)) G = .ok (.ref G.length) (G ++ [.lst (List.replicate k d)]) := by
  unfold opRep
  simp only
  rw [h]
  simp only
  have e : (List.replicate k [d]).flatten = List.replicate k d := by
    induction k with
    | zero => rfl
    | succ k ih => rw [List.replicate_succ, List.flatten_cons, ih (by omega), List.replicate_succ]; rfl
  rw [if_pos ⟨by omega, by omega, by simpa using hk⟩, Int.toNat_natCast, e]
end DL
namespace DL
open PySem PySem.Spec L2
open PyProof.Rows hiding St
/-! ### great numbers: a script's numbers have bits, but not without end -/
/-- few enough bits that two such numbers may be multiplied -/
def Bts (i : Int) : Prop := i.natAbs.log2 < 33554432
def MulB (i j : Int) : Prop := CMul i j ∨ (Bts i ∧ Bts j)
instance (i : Int) : Decidable (Bts i) := by unfold Bts; infer_instance
instance (i j : Int) : Decidable (MulB i j) := by unfold MulB; infer_instance
theorem MulB.ok {i j : Int} (h : MulB i j) : IntMulOk i j := by
  rcases h with h | ⟨h1, h2⟩
  · exact h.ok
  · have b : ∀ k : Int, Bts k → Builtin.Int.intBits k ≤ 33554432 := fun k hk => by
      unfold Builtin.Int.intBits
      split
      · exact Nat.zero_le _
      · exact hk
    have c1 := b i h1
    have c2 := b j h2
    have h : Builtin.Int.intTooBig (Builtin.Int.intBits i + Builtin.Int.intBits j) = false := by
      unfold Builtin.Int.intTooBig bitsLine
      exact decide_eq_false (by omega)
    unfold IntMulOk
    rw [h]
    simp
def opMulB : D → D → DH → R D
  | .int i, .int j, G => if MulB i j then .ok (.int (i * j)) G else .bad
  | _, _, _ => .bad
section
variable {X : Cx} {E : XK}
theorem op_mulB : OpR X (binaryOp .Mult) (rI MulB fun i j => .int (i * j)) := opI fun _ _ _ _ _ _ _ hc q => mul_int q hc.ok
theorem o_mulB : OpR X (binaryOp .Mult) (lR2 X.K E opMulB) := opII op_mulB fun a G d e x y Q hk s rd re q => by
  cases d <;> cases e <;> first
    | exact q.elim
    | (rename_i i j
       unfold opMulB at q
       dsimp only at q
       split at q
       · exact ⟨_, _, rd, re, by assumption, q a _ (Ext.refl a) s rfl⟩
       · exact q.elim)
end
section
variable {i j : Int} {G : DH}
theorem ev_mulB (h : MulB i j) : opMulB (.int i) (.int j) G = .ok (.int (i * j)) G := if_pos h
theorem ev_mulBL (h1 : -(2 ^ 64) < i) (h2 : i < 2 ^ 64) : opMulB (.int i) (.int j) G = .ok (.int (i * j)) G := if_pos (.inl (.inl ⟨h1, h2⟩))
theorem ev_mulBR (h1 : -(2 ^ 64) < j) (h2 : j < 2 ^ 64) : opMulB (.int i) (.int j) G = .ok (.int (i * j)) G := if_pos (.inl (.inr ⟨h1, h2⟩))
@[simp] theorem ev_mulBO {n : Nat} (h : n < 18446744073709551616) : opMulB (.int (no_index (OfNat.ofNat n))) (.int j) G = .ok (.int (OfNat.ofNat n * j)) G :=
  ev_mulBL (by have : (0 : Int) ≤ (OfNat.ofNat n : Int) := Int.natCast_nonneg n; omega) (by have : (OfNat.ofNat n : Int) < 18446744073709551616 := Int.ofNat_lt.mpr h; omega)
@[simp] theorem ev_mulBP {n : Nat} (h : n < 18446744073709551616) : opMulB (.int i) (.int (no_index (OfNat.ofNat n))) G = .ok (.int (i * OfNat.ofNat n)) G :=
  ev_mulBR (by have : (0 : Int) ≤ (OfNat.ofNat n : Int) := Int.natCast_nonneg n; omega) (by have : (OfNat.ofNat n : Int) < 18446744073709551616 := Int.ofNat_lt.mpr h; omega)
/-- a number within bounds has few bits -/
theorem Bts.of_lt {m : Nat} (h : i.natAbs < 2 ^ m) (hm : m ≤ 33554432) (h0 : 0 < m) : Bts i := by
  unfold Bts
  rcases Nat.eq_zero_or_pos i.natAbs with z | z
  · rw [z]; decide
  · exact Nat.lt_of_lt_of_le ((Nat.log2_lt (Nat.ne_of_gt z)).mpr h) hm
end
theorem weight_bits : ∀ {ns : List Int}, PySem.W.WData.weightAll (ns.map PySem.W.WData.int) ≤ 2 ^ 20 → ∀ n ∈ ns, n.natAbs.log2 < 1048576
  | [], _, n, h => nomatch h
  | m :: ns, hw, n, h => by
    rw [List.map_cons, PySem.W.WData.weightAll, PySem.W.WData.weight] at hw
    rcases List.mem_cons.mp h with rfl | h
    · split at hw
      · rename_i hz
        have : n = 0 := by simpa using hz
        rw [this]; decide
      · omega
    · exact weight_bits (by omega) n h
/-- the walk, where the script's numbers have bounded bits -/
theorem walk_bits {l : PySem.W.OpenLaw} {n k : Nat} {q : Program} {loose : List Str} {XP : (Str → Option Value) → Heap → Prop} {YP : World → Heap → Prop} {d : DefRec} {K : Params → PySem.W.Frag} {CX : World → CXT} {sp : World → Sp} {x : Str}
    (hn : l.most = some n) (hn2 : n ≤ sizeLine) (hdf : d.params.defaults = []) (hr : Room k callerA) (hY : ∀ (w : World) (h : Heap), YP w h → (K w.params).In h)
    (F : ∀ (w : World) (mg : Str → Option Value) (fa : Addr) (h : Heap), (K w.params).In h → h.Ns mainGlobals mg → mg d.name = some (.ref fa) →
      ∃ fd : FuncData, (∀ (s : Shared) (u : Value), BindsTo s fd ⟨[u], []⟩ [(x, u)]) ∧ ∀ base : Heap, (K w.params).In base → base.Ns mainGlobals mg → FnOk l.prog w (K w.params) mg base (CX w) k fa fd [x] (sp w))
    (hsp : ∀ (w : World) (H : Hp) (a : Addr) (ns : List Int), ns.length ≤ n → (∀ m ∈ ns, m.natAbs.log2 < 1048576) → Only H → SqL (K w.params) H a (ns.map V.int) → sp w [.ref a] H (fun v _ => v = .bl true) fun _ _ _ => False)
    (hCX : ∀ (w : World) (H : Hp) (s : Shared) (e : Value) (s' : Shared), CX w [] H s (fun _ _ _ => False) e s' → False) : PySem.W.WalkO q loose XP YP l.row.toRowW d [] (fun f vs => PySem.call f vs) := by
  intro w s₀ s₁ mg mb G Y fa o pm cd doc dV kV ho hd hcd hD hmg hg args vals as hpre hlay hrd hwl hlo
  obtain rfl : dV = .none := PySem.W.Dflts.none hD hdf
  obtain rfl : kV = .none := PySem.W.Dflts.noKw hD
  obtain ⟨a, vs, ns, rfl, rfl, hobj, hints, hlen⟩ := Att.script_of hn hpre hwl
  have KX := hY w _ Y
  obtain ⟨fd, hb, hF⟩ := F w mg fa _ KX G.T.g hmg
  have hw : PySem.W.WData.weightAll (ns.map PySem.W.WData.int) ≤ 2 ^ 20 := by
    have h1 : PySem.W.WData.layable (.list (ns.map PySem.W.WData.int)) = true := by
      have := hlay
      simpa [PySem.W.WData.layableAll] using this
    have h2 := of_decide_eq_true (Bool.and_eq_true_iff.mp h1).2
    simpa only [PySem.W.WData.weight] using h2
  refine PySem.W.enter_call (codeAny_mono (law_call KX G.T.g G.T.b G.T.builtins G.T.nolimit hg hobj hints (Nat.le_trans hlen hn2) hr hF hb (fun H hO hS => hsp w H a ns hlen (weight_bits hw) hO hS) fun H e s' => hCX w H s₁ e s') fun r s' hq => ?_)
  obtain ⟨rfl, h2, h3, h4⟩ := hq
  exact ⟨.inl ⟨.bool true, .bool true, [], rfl, fun _ => rfl, .bool true, Att.post_true l _, fun _ => ⟨List.Pairwise.nil, fun _ hm => (nomatch hm)⟩⟩, h2, h3, h4⟩
end DL
namespace DL
open PySem PySem.Spec L2
open PyProof.Rows hiding St
/-! ### a name's list is not written any more: it becomes a value -/
def sFzV (i : Nat) (t : DS) : DS := fun S G => match S[i]? with
  | some (some (.ref p)) => match G[p]? with
    | some (.lst xs) => t (S.set i (some (.fl xs))) (G.set p .gone)
    | _ => .bad
  | _ => .bad
theorem ev_sFzV {i p : Nat} {t : DS} {S : DSt} {G : DH} {xs : List D} (h : S[i]? = some (some (.ref p))) (hG : G[p]? = some (.lst xs)) : sFzV i t S G = t (S.set i (some (.fl xs))) (G.set p .gone) := by
  unfold sFzV
  rw [h]
  simp only
  rw [hG]
section
variable {X : Cx} {E : XK}
theorem qs_fzv (i : Nat) {st : Stmt} {t : DS} (hs : QS X E st t) : QS X E st (sFzV i t) := by
  intro pins s σ H W I h
  obtain ⟨a, S, G, hk, rfl, sm, r, h⟩ := h
  unfold sFzV at h
  split at h
  · rename_i p hS
    split at h
    · rename_i xs hG
      obtain ⟨v, ev, rv⟩ := r.get i _ hS
      obtain ⟨hp, rfl⟩ := rv
      obtain ⟨vs, eH, rxs⟩ := sm.lst hG
      obtain ⟨o, I'⟩ := inv_freeze I eH
      have ne : ∀ q (u : HO), a.H q = some u → u ≠ .lst vs → q ≠ a.m p := fun q u e d z => by rw [z, eH] at e; exact d (Option.some.inj e).symm
      let c : Wd := ⟨a.K, a.n, a.m, upd a.H (a.m p) (.frz o (.lst vs))⟩
      have x : Ext a c := ⟨rfl, Nat.le_refl _, fun _ _ => rfl, fun q ys e => by
        show upd a.H (a.m p) _ q = _
        rw [upd_ne (ne q _ e (by intro z; cases z))]; exact e, fun q ob u e => by
        show upd a.H (a.m p) _ q = _
        rw [upd_ne (ne q _ e (by intro z; cases z))]; exact e⟩
      have sc : Sim c (G.set p .gone) := by
        refine ⟨by rw [List.length_set]; exact sm.len, sm.inj, fun j ob hj => ?_, fun j hj => ?_⟩
        · by_cases e : p = j
          · subst e
            rw [List.getElem?_set_self (by rw [sm.len]; exact hp)] at hj
            cases hj
            exact trivial
          · rw [List.getElem?_set_ne e] at hj
            have hjn : j < a.n := by
              have := (List.getElem?_eq_some_iff.mp hj).1
              rw [sm.len] at this
              exact this
            have hne : a.m j ≠ a.m p := fun z => e (sm.inj j p hjn hp z).symm
            have hh : c.H (c.m j) = a.H (a.m j) := upd_ne hne
            rw [hh]
            have ho := sm.obj j ob hj
            cases ob with
            | lst ds =>
              obtain ⟨us, e1, r1⟩ := ho
              exact ⟨us, e1, r1.mono x⟩
            | dct kvs =>
              obtain ⟨us, e1, e2, r1⟩ := ho
              exact ⟨us, e1, e2, r1.mono x⟩
            | gone => exact trivial
        · show upd a.H (a.m p) _ (a.m j) ≠ none
          by_cases e : a.m j = a.m p
          · rw [e, upd_same]; intro z; cases z
          · rw [upd_ne e]; exact sm.tr j hj
      have rc : RepS c (S.set i (some (.fl xs))) σ := by
        refine ⟨by rw [List.length_set]; exact r.len, fun j d hd => ?_⟩
        by_cases e : i = j
        · subst e
          rw [List.getElem?_set_self (List.getElem?_eq_some_iff.mp hS).1] at hd
          have hd' : D.fl xs = d := by simpa using hd
          subst hd'
          exact ⟨_, ev, a.m p, vs, rfl, .inl ⟨o, upd_same⟩, rxs.mono x⟩
        · rw [List.getElem?_set_ne e] at hd
          obtain ⟨w, ew, rw'⟩ := r.get j d hd
          exact ⟨w, ew, rw'.mono x⟩
      exact hs pins s σ c.H W I' ⟨c, _, _, hk, rfl, sc, rc, outS.mono x h⟩
    · exact h.elim
  · exact h.elim
end
end DL
namespace Law
open PySem L2 DL
def top (i : Nat) : Stmt := PySem.Challenge.pw_sluiceway_k27_whole_more_water.main.body.getD i (.Pass ⟨0, 0, 0, 0⟩)
/-- turns of a while -/
def fuel : Nat := 100000
abbrev s__law_amount : Stmt := top 13
abbrev N__law_amount : List Str := ["_law_cell", "_law_kind"]
theorem sc__law_amount : FnScope N__law_amount ["_law_cell", "_law_kind"] (defScope s__law_amount) := ⟨rfl, rfl, rfl, by decide +kernel, rfl, by decide +kernel, by decide +kernel⟩
abbrev s__law_off : Stmt := top 11
abbrev N__law_off : List Str := ["_law_number", "_law_k", "_law_digit"]
theorem sc__law_off : FnScope N__law_off ["_law_number", "_law_k"] (defScope s__law_off) := ⟨rfl, rfl, rfl, by decide +kernel, rfl, by decide +kernel, by decide +kernel⟩
abbrev s__law_tape : Stmt := top 10
abbrev N__law_tape : List Str := ["_law_script"]
theorem sc__law_tape : FnScope N__law_tape ["_law_script"] (defScope s__law_tape) := ⟨rfl, rfl, rfl, by decide +kernel, rfl, by decide +kernel, by decide +kernel⟩
abbrev s__law_cell_at : Stmt := top 12
abbrev N__law_cell_at : List Str := ["_law_script", "_law_k", "_law_number"]
theorem sc__law_cell_at : FnScope N__law_cell_at ["_law_script", "_law_k"] (defScope s__law_cell_at) := ⟨rfl, rfl, rfl, by decide +kernel, rfl, by decide +kernel, by decide +kernel⟩
abbrev s__law_grown : Stmt := top 18
abbrev N__law_grown : List Str := ["_law_takes", "_law_others", "_law_k"]
theorem sc__law_grown : FnScope N__law_grown ["_law_takes", "_law_others"] (defScope s__law_grown) := ⟨rfl, rfl, rfl, by decide +kernel, rfl, by decide +kernel, by decide +kernel⟩
abbrev s__law_numbers : Stmt := top 17
abbrev N__law_numbers : List Str := ["_law_found", "_law_many_here", "_law_number"]
theorem sc__law_numbers : FnScope N__law_numbers ["_law_found", "_law_many_here"] (defScope s__law_numbers) := ⟨rfl, rfl, rfl, by decide +kernel, rfl, by decide +kernel, by decide +kernel⟩
abbrev s__law_gathered : Stmt := top 16
abbrev N__law_gathered : List Str := ["_law_rows", "_law_amounts", "_law_sums", "_law_k", "_law_down"]
theorem sc__law_gathered : FnScope N__law_gathered ["_law_rows", "_law_amounts"] (defScope s__law_gathered) := ⟨rfl, rfl, rfl, by decide +kernel, rfl, by decide +kernel, by decide +kernel⟩
abbrev s__law_out : Stmt := top 19
abbrev N__law_out : List Str := ["_law_rows", "_law_takes", "_law_left", "_law_k"]
theorem sc__law_out : FnScope N__law_out ["_law_rows", "_law_takes"] (defScope s__law_out) := ⟨rfl, rfl, rfl, by decide +kernel, rfl, by decide +kernel, by decide +kernel⟩
abbrev s__law_many : Stmt := top 14
abbrev N__law_many : List Str := ["_law_script", "_law_first"]
theorem sc__law_many : FnScope N__law_many ["_law_script"] (defScope s__law_many) := ⟨rfl, rfl, rfl, by decide +kernel, rfl, by decide +kernel, by decide +kernel⟩
abbrev s__law_reach : Stmt := top 15
abbrev N__law_reach : List Str := ["_law_script", "_law_many_here", "_law_shape", "_law_kind", "_law_rows", "_law_k", "_law_step", "_law_down", "_law_fall", "_law_need", "_law_rank"]
theorem sc__law_reach : FnScope N__law_reach ["_law_script"] (defScope s__law_reach) := ⟨rfl, rfl, rfl, by decide +kernel, rfl, by decide +kernel, by decide +kernel⟩
abbrev s_passed : Stmt := top 6
abbrev N_passed : List Str := ["rows", "takes", "passing", "row", "number"]
theorem sc_passed : FnScope N_passed ["rows", "takes"] (defScope s_passed) := ⟨rfl, rfl, rfl, by decide +kernel, rfl, by decide +kernel, by decide +kernel⟩
abbrev s_served : Stmt := top 7
abbrev N_served : List Str := ["rows", "order"]
theorem sc_served : FnScope N_served ["rows"] (defScope s_served) := ⟨rfl, rfl, rfl, by decide +kernel, rfl, by decide +kernel, by decide +kernel⟩
abbrev s_way_down : Stmt := top 8
abbrev N_way_down : List Str := ["rows", "number", "way", "down"]
theorem sc_way_down : FnScope N_way_down ["rows", "number"] (defScope s_way_down) := ⟨rfl, rfl, rfl, by decide +kernel, rfl, by decide +kernel, by decide +kernel⟩
abbrev s_shares : Stmt := top 5
abbrev N_shares : List Str := ["rows", "takes", "passing", "number", "way", "take", "below"]
theorem sc_shares : FnScope N_shares ["rows"] (defScope s_shares) := ⟨rfl, rfl, rfl, by decide +kernel, rfl, by decide +kernel, by decide +kernel⟩
abbrev s_law : Stmt := top 20
abbrev N_law : List Str := ["_law_script", "_law_rows", "_law_kind", "_law_b", "_law_one", "_law_more", "_law_many_here", "_law_k", "_law_fall", "_law_some", "_law_takes", "_law_outs"]
theorem sc_law : FnScope N_law ["_law_script"] (defScope s_law) := ⟨rfl, rfl, rfl, by decide +kernel, rfl, by decide +kernel, by decide +kernel⟩
noncomputable def b__law_amount : DS := (sSeq (sIf (dTst (dOp opEq (dV 1) (dC (.int 2)))) (sRt (dOp opMod (dV 0) (dOp opPow (dC (.int 10)) (dC (.int 6))))) sNx) (sSeq (sIf (dTst (dOp opEq (dV 1) (dC (.int 3)))) (sRt (dOp opMod (dOp opMulB (dV 0) (dV 0)) (dOp opPow (dC (.int 10)) (dC (.int 39))))) sNx) (sRt (dOp opMod (dV 0) (dC (.int 9))))))
noncomputable def c__law_amount : List D → DH → R D := runF 2 0 b__law_amount
noncomputable def l__law_off_1 : DS := (sAs (dOp opDiv (dV 0) (dOp opPow (dC (.int 10)) (dC (.int 8)))) (gV 0))
noncomputable def b__law_off : DS := (sSeq (sIf (dTst (dChain opLe opLt (dC (.int 0)) (dV 0) (dOp opPow (dC (.int 10)) (dC (.int 18))))) (sSeq (sAs (dOp opMod (dOp opAdd (dOp opAdd (dV 0) (dOp opMulB (dC (.int 1009)) (dV 1))) (dC (.int 7))) (dC (.int 999999937))) (gV 0)) (sSeq (sAs (dOp opMod (dOp opMulB (dV 0) (dV 0)) (dC (.int 999999929))) (gV 0)) (sRt (dOp opMod (dOp opMulB (dV 0) (dOp opAdd (dV 0) (dV 1))) (dC (.int 99999989)))))) sNx) (sSeq (sFor (iRng rng1 (dCons (dV 1) dNil)) (gV 2) l__law_off_1) (sRt (dOp opMod (dV 0) (dOp opPow (dC (.int 10)) (dC (.int 8)))))))
noncomputable def c__law_off : List D → DH → R D := runF 2 1 b__law_off
noncomputable def b__law_tape : DS := (sRt (dAndV (dOp opGt (dFn fLen (dCons (dV 0) dNil)) (dC (.int 0))) (dOrV (dOp opLt (dOp opIx (dV 0) (dC (.int 0))) (dC (.int 0))) (dOp opGe (dOp opIx (dV 0) (dC (.int 0))) (dOp opPow (dC (.int 10)) (dC (.int 18)))))))
noncomputable def c__law_tape : List D → DH → R D := runF 1 0 b__law_tape
noncomputable def b__law_cell_at : DS := (sSeq (sIf (dTst (dFn c__law_tape (dCons (dV 0) dNil))) (sSeq (sAs (dC (.int 0)) (gV 2)) (sSeq (sIf (dTst (dOp opLt (dOp opAdd (dC (.int 1)) (dOp opDiv (dV 1) (dC (.int 14)))) (dFn fLen (dCons (dV 0) dNil)))) (sAs (dOp opIx (dV 0) (dOp opAdd (dC (.int 1)) (dOp opDiv (dV 1) (dC (.int 14))))) (gV 2)) sNx) (sRt (dFn c__law_off (dCons (dV 2) (dCons (dOp opMod (dV 1) (dC (.int 14))) dNil)))))) sNx) (sSeq (sIf (dTst (dOp opLt (dV 1) (dFn fLen (dCons (dV 0) dNil)))) (sRt (dOp opIx (dV 0) (dV 1))) sNx) (sSeq (sAs (dOp opMod (dOp opMulB (dC (.int 48271)) (dOp opAdd (dOp opMulB (dV 1) (dV 1)) (dOp opMulB (dC (.int 7)) (dFn fLen (dCons (dV 0) dNil))))) (dC (.int 2147483647))) (gV 2)) (sSeq (sIf (dTst (dOp opGt (dFn fLen (dCons (dV 0) dNil)) (dC (.int 0)))) (sAs (dOp opAdd (dV 2) (dOp opMod (dOp opMulB (dOp opIx (dV 0) (dOp opMod (dV 1) (dFn fLen (dCons (dV 0) dNil)))) (dC (.int 69621))) (dC (.int 2147483629)))) (gV 2)) sNx) (sRt (dV 2))))))
noncomputable def c__law_cell_at : List D → DH → R D := runF 2 1 b__law_cell_at
noncomputable def l__law_grown_1 : DS := (sIf (dTst (dOp opLt (dOp opIx (dV 1) (dV 2)) (dOp opIx (dV 0) (dV 2)))) (sRt (dC (.bl false))) sNx)
noncomputable def b__law_grown : DS := (sSeq (sFor (iRng rng1 (dCons (dFn fLen (dCons (dV 0) dNil)) dNil)) (gV 2) l__law_grown_1) (sRt (dC (.bl true))))
noncomputable def c__law_grown : List D → DH → R D := runF 2 1 b__law_grown
noncomputable def l__law_numbers_1 : DS := (sIf (dOr (dNot (dTst (dFn fIsi (dCons (dV 2) (dCons (dC (.ty "int")) dNil))))) (dTst (dFn fIsi (dCons (dV 2) (dCons (dC (.ty "bool")) dNil))))) (sRt (dC (.bl false))) sNx)
noncomputable def b__law_numbers : DS := (sSeq (sIf (dOr (dNot (dTst (dFn fIsi (dCons (dV 0) (dCons (dC (.ty "list")) dNil))))) (dTst (dOp opNe (dFn fLen (dCons (dV 0) dNil)) (dV 1)))) (sRt (dC (.bl false))) sNx) (sSeq (sFor (iSeq (dV 0)) (gV 2) l__law_numbers_1) (sRt (dC (.bl true)))))
noncomputable def c__law_numbers : List D → DH → R D := runF 2 1 b__law_numbers
noncomputable def l__law_gathered_1 : DS := (sSeq (sAs (dOp opIx (dOp opIx (dV 0) (dV 3)) (dC (.int 0))) (gV 4)) (sIf (dTst (dOp opIsNot (dV 4) (dC .non))) (sAs (dOp opAdd (dOp opIx (dV 2) (dV 4)) (dOp opIx (dV 2) (dV 3))) (gIx (dV 2) (dV 4))) sNx))
noncomputable def b__law_gathered : DS := (sSeq (sAs (dTidy (dFn fList (dCons (dV 1) dNil))) (gV 2)) (sSeq (sFor (iRng rng1 (dCons (dFn fLen (dCons (dV 0) dNil)) dNil)) (gV 3) l__law_gathered_1) (sRt (dV 2))))
noncomputable def c__law_gathered : List D → DH → R D := runF 2 3 b__law_gathered
noncomputable def e__law_out_1 : DE := (dOp opSub (dOp opIx (dOp opIx (dV 1) (dV 0)) (dC (.int 1))) (dOp opIx (dV 2) (dV 0)))
noncomputable def l__law_out_2 : DS := (sIf (dTst (dOp opIsNot (dOp opIx (dOp opIx (dV 0) (dV 3)) (dC (.int 0))) (dC .non))) (sAs (dC (.int 0)) (gIx (dV 2) (dV 3))) sNx)
noncomputable def b__law_out : DS := (sSeq (sAs (dTidy (dFn c__law_gathered (dCons (dV 0) (dCons (dFrz (dComp (iRng rng1 (dCons (dFn fLen (dCons (dV 0) dNil)) dNil)) 1 [0, 1] (gV 0) bTrue e__law_out_1)) dNil)))) (gV 2)) (sSeq (sFor (iRng rng1 (dCons (dFn fLen (dCons (dV 0) dNil)) dNil)) (gV 3) l__law_out_2) (sRt (dV 2))))
noncomputable def c__law_out : List D → DH → R D := runF 2 2 b__law_out
noncomputable def b__law_many : DS := (sSeq (sAs (dFn c__law_cell_at (dCons (dV 0) (dCons (dC (.int 0)) dNil))) (gV 1)) (sSeq (sIf (dTst (dOp opEq (dOp opMod (dOp opDiv (dV 1) (dC (.int 208))) (dC (.int 4))) (dC (.int 1)))) (sRt (dOp opMod (dOp opDiv (dV 1) (dC (.int 832))) (dC (.int 41)))) sNx) (sRt (dOp opMod (dV 1) (dC (.int 13))))))
noncomputable def c__law_many : List D → DH → R D := runF 1 1 b__law_many
noncomputable def l__law_reach_1 : DS := (sSeq (sAs (dOp opMod (dFn c__law_cell_at (dCons (dV 0) (dCons (dOp opAdd (dOp opMulB (dC (.int 4)) (dV 5)) (dC (.int 1))) dNil))) (dOp opSub (dV 1) (dV 5))) (gV 6)) (sSeq (sIf (dTst (dOp opEq (dV 2) (dC (.int 1)))) (sAs (dFn fMin (dCons (dC (.int 1)) (dCons (dOp opSub (dOp opSub (dV 1) (dC (.int 1))) (dV 5)) dNil))) (gV 6)) sNx) (sSeq (sIf (dTst (dOp opEq (dV 2) (dC (.int 2)))) (sAs (dOp opSub (dOp opSub (dV 1) (dC (.int 1))) (dV 5)) (gV 6)) sNx) (sSeq (sAs (dC .non) (gV 7)) (sSeq (sIf (dTst (dOp opGt (dV 6) (dC (.int 0)))) (sAs (dOp opAdd (dV 5) (dV 6)) (gV 7)) sNx) (sSeq (sAs (dFn c__law_amount (dCons (dFn c__law_cell_at (dCons (dV 0) (dCons (dOp opAdd (dOp opMulB (dC (.int 4)) (dV 5)) (dC (.int 2))) dNil))) (dCons (dV 3) dNil))) (gV 8)) (sSeq (sAs (dFn c__law_amount (dCons (dFn c__law_cell_at (dCons (dV 0) (dCons (dOp opAdd (dOp opMulB (dC (.int 4)) (dV 5)) (dC (.int 3))) dNil))) (dCons (dV 3) dNil))) (gV 9)) (sSeq (sIf (dTst (dOp opEq (dV 3) (dC (.int 1)))) (sAs (dOp opMulB (dC (.int 2)) (dV 9)) (gV 9)) sNx) (sSeq (sAs (dOp opMod (dFn c__law_cell_at (dCons (dV 0) (dCons (dOp opAdd (dOp opMulB (dC (.int 4)) (dV 5)) (dC (.int 4))) dNil))) (dC (.int 5))) (gV 10)) (sSeq (sIf (dTst (dOp opEq (dV 3) (dC (.int 2)))) (sAs (dOp opMod (dFn c__law_cell_at (dCons (dV 0) (dCons (dOp opAdd (dOp opMulB (dC (.int 4)) (dV 5)) (dC (.int 4))) dNil))) (dOp opPow (dC (.int 10)) (dC (.int 40)))) (gV 10)) sNx) (sEx (dMtL mAppend (dV 4) (dCons (dFn mkTup (dCons (dV 7) (dCons (dV 8) (dCons (dV 9) (dCons (dV 10) dNil))))) dNil)))))))))))))
noncomputable def b__law_reach : DS := (sSeq (sAs (dFn c__law_many (dCons (dV 0) dNil)) (gV 1)) (sSeq (sAs (dOp opMod (dOp opDiv (dFn c__law_cell_at (dCons (dV 0) (dCons (dC (.int 0)) dNil))) (dC (.int 13))) (dC (.int 4))) (gV 2)) (sSeq (sAs (dOp opMod (dOp opDiv (dFn c__law_cell_at (dCons (dV 0) (dCons (dC (.int 0)) dNil))) (dC (.int 52))) (dC (.int 4))) (gV 3)) (sSeq (sAs (dTidy (dFn mkLst dNil)) (gV 4)) (sSeq (sFor (iRng rng1 (dCons (dV 1) dNil)) (gV 5) l__law_reach_1) (sRt (dV 4)))))))
noncomputable def c__law_reach : List D → DH → R D := runF 1 10 b__law_reach
noncomputable def e_passed_1 : DE := (dOp opSub (dOp opIx (dV 0) (dC (.int 1))) (dV 1))
noncomputable def l_passed_2 : DS := (sIf (dTst (dOp opIsNot (dOp opIx (dV 3) (dC (.int 0))) (dC .non))) (sAuI (dV 2) (dOp opIx (dV 3) (dC (.int 0))) (dOp opIx (dV 2) (dV 4)) ipAdd) sNx)
noncomputable def b_passed : DS := (sSeq (sAs (dComp (iRng (iZipD 2) (dCons (dV 0) (dCons (dV 1) dNil))) 2 [] (gTup' 2 (gCons' (gV 0) (gCons' (gV 1) gNil'))) bTrue e_passed_1) (gV 2)) (sSeq (sFor (iRng iEnumD (dCons (dV 0) dNil)) (gTup' 2 (gCons' (gV 4) (gCons' (gV 3) gNil'))) l_passed_2) (sRt (dV 2))))
noncomputable def c_passed : List D → DH → R D := runF 2 3 b_passed
noncomputable def e_served_1 : DE := (dFn mkTup (dCons (dOp opIx (dV 1) (dC (.int 3))) (dCons (dV 0) dNil)))
noncomputable def e_served_2 : DE := (dV 1)
noncomputable def b_served : DS := (sSeq (sAs (dFrz (dFn fSorted (dCons (dFrz (dComp (iRng iEnumD (dCons (dV 0) dNil)) 2 [] (gTup' 2 (gCons' (gV 0) (gCons' (gV 1) gNil'))) bTrue e_served_1)) dNil))) (gV 1)) (sRt (dComp (iSeq (dV 1)) 2 [] (gTup' 2 (gCons' (gV 0) (gCons' (gV 1) gNil'))) bTrue e_served_2)))
noncomputable def c_served : List D → DH → R D := runF 1 1 b_served
noncomputable def l_way_down_1 : DS := (sSeq (sEx (dMtL mAppend (dV 2) (dCons (dV 3) dNil))) (sAs (dOp opIx (dOp opIx (dV 0) (dV 3)) (dC (.int 0))) (gV 3)))
noncomputable def t_way_down_1 : DB := (dTst (dOp opIsNot (dV 3) (dC .non)))
noncomputable def b_way_down : DS := (sSeq (sAs (dTidy (dFn mkLst (dCons (dV 1) dNil))) (gV 2)) (sSeq (sAs (dOp opIx (dOp opIx (dV 0) (dV 1)) (dC (.int 0))) (gV 3)) (sSeq (sWh t_way_down_1 l_way_down_1 fuel) (sRt (dV 2)))))
noncomputable def c_way_down : List D → DH → R D := runF 2 2 b_way_down
noncomputable def e_shares_1 : DE := (dOp opIx (dV 1) (dV 0))
noncomputable def l_shares_2 : DS := (sAuI (dV 2) (dV 6) (dV 5) opSub)
noncomputable def l_shares_3 : DS := (sSeq (sAs (dFrz (dFn c_way_down (dCons (dV 0) (dCons (dV 3) dNil)))) (gV 4)) (sSeq (sAs (dFn fMin (dCons (dOp opIx (dOp opIx (dV 0) (dV 3)) (dC (.int 2))) (dCons (dFn fMinL (dCons (dFrz (dComp (iSeq (dV 4)) 1 [2] (gV 0) bTrue e_shares_1)) dNil)) dNil))) (gV 5)) (sSeq (sAs (dV 5) (gIx (dV 1) (dV 3))) (sFor (iSeq (dV 4)) (gV 6) l_shares_2))))
noncomputable def b_shares : DS := (sSeq (sAs (dTidy (dOp opRep (dFn mkLst (dCons (dC (.int 0)) dNil)) (dFn fLen (dCons (dV 0) dNil)))) (gV 1)) (sSeq (sAs (dTidy (dFn c_passed (dCons (dV 0) (dCons (dV 1) dNil)))) (gV 2)) (sSeq (sFor (iSeq (dFrz (dFn c_served (dCons (dV 0) dNil)))) (gV 3) l_shares_3) (sRt (dV 1)))))
noncomputable def c_shares : List D → DH → R D := runF 1 6 b_shares
noncomputable def l_law_1 : DS := (sSeq (sAs (dOp opAdd (dOp opIx (dOp opIx (dV 1) (dV 7)) (dC (.int 1))) (dFn c__law_amount (dCons (dFn c__law_cell_at (dCons (dV 0) (dCons (dOp opAdd (dOp opAdd (dV 3) (dC (.int 1))) (dV 7)) dNil))) (dCons (dFn fMin (dCons (dV 2) (dCons (dC (.int 2)) dNil))) dNil)))) (gV 8)) (sEx (dMtL mAppend (dV 6) (dCons (dFn mkTup (dCons (dOp opIx (dOp opIx (dV 1) (dV 7)) (dC (.int 0))) (dCons (dV 8) (dCons (dOp opIx (dOp opIx (dV 1) (dV 7)) (dC (.int 2))) (dCons (dOp opIx (dOp opIx (dV 1) (dV 7)) (dC (.int 3))) dNil))))) dNil))))
noncomputable def l_law_2 : DS := (sIf (dNot (dTst (dFn c__law_numbers (dCons (dV 10) (dCons (dFn fLen (dCons (dV 1) dNil)) dNil))))) (sRt (dC (.bl false))) sNx)
noncomputable def b_law : DS := (sSeq (sAs (dFrz (dFn c__law_reach (dCons (dV 0) dNil))) (gV 1)) (sSeq (sIf (dTst (dOp opEq (dV 1) (dFrz (dFn mkLst dNil)))) (sRt (dC (.bl true))) sNx) (sSeq (sAs (dOp opMod (dOp opDiv (dFn c__law_cell_at (dCons (dV 0) (dCons (dC (.int 0)) dNil))) (dC (.int 52))) (dC (.int 4))) (gV 2)) (sSeq (sAs (dFn fMax (dCons (dC (.int 49)) (dCons (dOp opAdd (dOp opMulB (dC (.int 4)) (dFn fLen (dCons (dV 1) dNil))) (dC (.int 1))) dNil))) (gV 3)) (sSeq (sAs (dOp opMod (dFn c__law_cell_at (dCons (dV 0) (dCons (dV 3) dNil))) (dFn fLen (dCons (dV 1) dNil))) (gV 4)) (sSeq (sAs (dTidy (dFn fList (dCons (dV 1) dNil))) (gV 5)) (sSeq (sAs (dFn mkTup (dCons (dOp opIx (dOp opIx (dV 1) (dV 4)) (dC (.int 0))) (dCons (dOp opAdd (dOp opIx (dOp opIx (dV 1) (dV 4)) (dC (.int 1))) (dC (.int 1))) (dCons (dOp opIx (dOp opIx (dV 1) (dV 4)) (dC (.int 2))) (dCons (dOp opIx (dOp opIx (dV 1) (dV 4)) (dC (.int 3))) dNil))))) (gIx (dV 5) (dV 4))) (sSeq (sFzV 5 (sAs (dTidy (dFn mkLst dNil)) (gV 6))) (sSeq (sFor (iRng rng1 (dCons (dFn fLen (dCons (dV 1) dNil)) dNil)) (gV 7) l_law_1) (sSeq (sFzV 6 (sAs (dFrz (dFn mkLst (dCons (dFrz (dFn c_shares (dCons (dFrz (dFn fList (dCons (dV 1) dNil))) dNil))) (dCons (dFrz (dFn c_shares (dCons (dFrz (dFn fList (dCons (dV 5) dNil))) dNil))) (dCons (dFrz (dFn c_shares (dCons (dFrz (dFn fList (dCons (dV 6) dNil))) dNil))) dNil))))) (gV 9))) (sSeq (sFor (iSeq (dV 9)) (gV 10) l_law_2) (sSeq (sIf (dOr (dNot (dTst (dFn c__law_grown (dCons (dOp opIx (dV 9) (dC (.int 0))) (dCons (dOp opIx (dV 9) (dC (.int 1))) dNil))))) (dNot (dTst (dFn c__law_grown (dCons (dOp opIx (dV 9) (dC (.int 0))) (dCons (dOp opIx (dV 9) (dC (.int 2))) dNil)))))) (sRt (dC (.bl false))) sNx) (sSeq (sAs (dFrz (dFn mkLst (dCons (dFrz (dFn c__law_out (dCons (dV 1) (dCons (dOp opIx (dV 9) (dC (.int 0))) dNil)))) (dCons (dFrz (dFn c__law_out (dCons (dV 5) (dCons (dOp opIx (dV 9) (dC (.int 1))) dNil)))) (dCons (dFrz (dFn c__law_out (dCons (dV 6) (dCons (dOp opIx (dV 9) (dC (.int 2))) dNil)))) dNil))))) (gV 11)) (sSeq (sIf (dOr (dNot (dTst (dFn c__law_grown (dCons (dOp opIx (dV 11) (dC (.int 0))) (dCons (dOp opIx (dV 11) (dC (.int 1))) dNil))))) (dNot (dTst (dFn c__law_grown (dCons (dOp opIx (dV 11) (dC (.int 0))) (dCons (dOp opIx (dV 11) (dC (.int 2))) dNil)))))) (sRt (dC (.bl false))) sNx) (sRt (dAndV (dOp opLe (dFn fSum (dCons (dOp opIx (dV 9) (dC (.int 1))) dNil)) (dOp opAdd (dFn fSum (dCons (dOp opIx (dV 9) (dC (.int 0))) dNil)) (dC (.int 1)))) (dOp opLe (dFn fSum (dCons (dOp opIx (dV 11) (dC (.int 1))) dNil)) (dOp opAdd (dFn fSum (dCons (dOp opIx (dV 11) (dC (.int 0))) dNil)) (dC (.int 1))))))))))))))))))))
noncomputable def c_law : List D → DH → R D := runF 1 11 b_law
/-- the law's promise, of its function over plain data -/
def Holds : Prop := ∀ ns : List Int, ns.length ≤ 63 → (∀ m ∈ ns, m.natAbs.log2 < 1048576) → ∃ G, c_law [.fl (ns.map D.int)] [] = .ok (.bl true) G
end Law
namespace Law
open PySem L2 DL
/-! cells of a script that may be read off the digits -/
theorem c_tape {ns : List Int} : ∃ b, ∀ G, c__law_tape [.fl (ns.map D.int)] G = .ok (.bl b) G := by
  cases ns with
  | nil => exact ⟨false, fun G => by unfold c__law_tape b__law_tape; rw [ev_run]; simp [tidy_same]⟩
  | cons n r =>
    refine ⟨decide (n < 0) || decide (1000000000000000000 ≤ n), fun G => ?_⟩
    unfold c__law_tape b__law_tape
    rw [ev_run]
    have a0 : atI ((n :: r).map D.int) 0 = some (.int n) := atI_of (k := 0) rfl rfl
    by_cases h : n < 0
    · simp [a0, h, tidy_same]
    · simp [a0, h, tidy_same]
def offV : Nat → Int → Int
  | 0, v => v
  | n + 1, v => offV n (v / 100000000)
theorem off_loop {k : D} {G : DH} : ∀ (n : Nat) (j : Nat) (v : Int) (x : Option D), ∃ x', forP (gV 2) l__law_off_1 (rngD j n) [some (.int v), some k, x] G = .nx [some (.int (offV n v)), some k, x'] G
  | 0, j, v, x => ⟨x, by rw [rngD_zero, forP_nil]; rfl⟩
  | n + 1, j, v, x => by
    obtain ⟨x', ih⟩ := off_loop (k := k) (G := G) n (j + 1) (v / 100000000) (some (.int j))
    refine ⟨x', ?_⟩
    have hb : l__law_off_1 [some (.int v), some k, some (.int j)] G = .nx [some (.int (v / 100000000)), some k, some (.int j)] G := by
      unfold l__law_off_1
      simp
    rw [rngD_succ, forP_cons]
    simp only [ev_gV, R.toS_ok, List.set, hb, aft_nx]
    have e1 : ((j : Int) + 1) = ((j + 1 : Nat) : Int) := by omega
    rw [e1, ih]
    rfl
theorem c_off {v : Int} {k : Nat} (hk : k ≤ 1000) : ∃ r : Int, (0 ≤ r ∧ r < 100000000) ∧ ∀ G, c__law_off [.int v, .int k] G = .ok (.int r) G := by
  by_cases h : 0 ≤ v ∧ v < 1000000000000000000
  · let a := (v + 1009 * (k : Int) + 7) % 999999937
    let b := a * a % 999999929
    refine ⟨b * (b + k) % 99999989, by omega, fun G => ?_⟩
    have ha : 0 ≤ a ∧ a < 999999937 := by omega
    have hb : 0 ≤ b ∧ b < 999999929 := by omega
    unfold c__law_off b__law_off
    rw [ev_run]
    have m1 : opMulB (.int a) (.int a) = fun G => R.ok (.int (a * a)) G := by funext G; exact ev_mulBL (by omega) (by omega)
    have m2 : opMulB (.int b) (.int (b + k)) = fun G => R.ok (.int (b * (b + k))) G := by funext G; exact ev_mulBL (by omega) (by omega)
    simp [h.1, h.2]
    rw [show (v + 1009 * (k : Int) + 7) % 999999937 = a from rfl, m1]
    simp
    rw [show a * a % 999999929 = b from rfl, m2]
    simp [tidy_same]
  · refine ⟨offV k v % 100000000, by omega, fun G => ?_⟩
    obtain ⟨x', hx⟩ := off_loop (k := .int k) (G := G) k 0 v none
    have hx' : forP (gV 2) l__law_off_1 (rngD 0 k) [some (.int v), some (.int k), none] G = .nx [some (.int (offV k v)), some (.int k), x'] G := hx
    unfold c__law_off b__law_off
    rw [ev_run]
    have hr : inR (k : Int) := inR_of (by omega) (by omega)
    by_cases h0 : 0 ≤ v
    · have h1 : ¬ v < 1000000000000000000 := fun z => h ⟨h0, z⟩
      simp [h0, h1, hr, hx', tidy_same]
    · simp [h0, hr, hx', tidy_same]
/-- a number of few bits -/
theorem bts_small {v : Int} (h1 : -1000000000000 < v) (h2 : v < 1000000000000) : Bts v := Bts.of_lt (m := 40) (by omega) (by decide) (by decide)
theorem c_cell {ns : List Int} (hb : ∀ m ∈ ns, m.natAbs.log2 < 1048576) (hl : ns.length ≤ 63) {k : Nat} (hk : k ≤ 1000) : ∃ v : Int, Bts v ∧ ∀ G, c__law_cell_at [.fl (ns.map D.int), .int k] G = .ok (.int v) G := by
  obtain ⟨b, ht⟩ := c_tape (ns := ns)
  have hd : ((k : Int) / 14) = ((k / 14 : Nat) : Int) := by omega
  have hm : ((k : Int) % 14) = ((k % 14 : Nat) : Int) := by omega
  cases b with
  | true =>
    by_cases h : 1 + k / 14 < ns.length
    · obtain ⟨r, hr, ho⟩ := c_off (v := ns[1 + k / 14]) (k := k % 14) (by omega)
      refine ⟨r, bts_small (by omega) (by omega), fun G => ?_⟩
      unfold c__law_cell_at b__law_cell_at
      rw [ev_run]
      have a1 : atI (ns.map D.int) (1 + (k : Int) / 14) = some (.int ns[1 + k / 14]) := atI_of (k := 1 + k / 14) (by omega) (by rw [List.getElem?_map, List.getElem?_eq_getElem h]; rfl)
      have hc : (1 + (k : Int) / 14) < ns.length := by omega
      simp [ht, hc, a1]
      rw [hm, ho]
      simp [tidy_same]
    · obtain ⟨r, hr, ho⟩ := c_off (v := 0) (k := k % 14) (by omega)
      refine ⟨r, bts_small (by omega) (by omega), fun G => ?_⟩
      unfold c__law_cell_at b__law_cell_at
      rw [ev_run]
      have hc : ¬ (1 + (k : Int) / 14) < ns.length := by omega
      simp [ht, hc]
      rw [hm, ho]
      simp [tidy_same]
  | false =>
    by_cases h : k < ns.length
    · refine ⟨ns[k], Nat.lt_of_lt_of_le (hb _ (List.getElem_mem h)) (by decide), fun G => ?_⟩
      unfold c__law_cell_at b__law_cell_at
      rw [ev_run]
      have a1 : atI (ns.map D.int) (k : Int) = some (.int ns[k]) := atI_of (k := k) rfl (by rw [List.getElem?_map, List.getElem?_eq_getElem h]; rfl)
      simp [ht, h, a1, tidy_same]
    · have m0 : ∀ G, opMulB (.int k) (.int k) G = R.ok (.int ((k : Int) * k)) G := fun G => ev_mulBL (by omega) (by omega)
      by_cases h0 : 0 < ns.length
      · have hi : k % ns.length < ns.length := Nat.mod_lt _ h0
        refine ⟨48271 * ((k : Int) * k + 7 * ns.length) % 2147483647 + ns[k % ns.length] * 69621 % 2147483629, bts_small (by omega) (by omega), fun G => ?_⟩
        unfold c__law_cell_at b__law_cell_at
        rw [ev_run]
        have a1 : atI (ns.map D.int) ((k : Int) % ns.length) = some (.int ns[k % ns.length]) := atI_of (k := k % ns.length) (by simp) (by rw [List.getElem?_map, List.getElem?_eq_getElem hi]; rfl)
        simp [ht, h, m0, h0, a1, tidy_same]
      · have e : ns = [] := List.eq_nil_of_length_eq_zero (by omega)
        subst e
        refine ⟨48271 * ((k : Int) * k + 7 * 0) % 2147483647, bts_small (by omega) (by omega), fun G => ?_⟩
        unfold c__law_cell_at b__law_cell_at
        rw [ev_run]
        have ht' : ∀ G, c__law_tape [.fl []] G = .ok (.bl false) G := ht
        have hk0 : ¬ (k : Int) < 0 := by omega
        simp [ht', hk0, m0, tidy_same]
/-- the cells, one for each number -/
theorem cells {ns : List Int} (hb : ∀ m ∈ ns, m.natAbs.log2 < 1048576) (hl : ns.length ≤ 63) : ∃ f : Nat → Int, ∀ k, k ≤ 1000 → Bts (f k) ∧ ∀ G, c__law_cell_at [.fl (ns.map D.int), .int k] G = .ok (.int (f k)) G := by
  refine ⟨fun k => if h : k ≤ 1000 then (c_cell hb hl h).choose else 0, fun k hk => ?_⟩
  simp only [dif_pos hk]
  exact (c_cell hb hl hk).choose_spec
/-! reaches -/
structure Row where
  down : Option Nat
  water : Int
  need : Int
  rank : Int
def dnD : Option Nat → D
  | none => .non
  | some d => .int d
def Row.enc (r : Row) : D := .tup [dnD r.down, .int r.water, .int r.need, .int r.rank]
@[simp] theorem bel_dnD {n : Nat} {o : Option Nat} : bel n (dnD o) = true := by cases o <;> rfl
@[simp] theorem bel_row {n : Nat} {r : Row} : bel n r.enc = true := by simp [Row.enc]
@[simp] theorem bels_rows {n : Nat} {rs : List Row} : bels n (rs.map Row.enc) = true := bels_map fun r _ => bel_row
/-- rivers lead to later rows, nothing is below nought -/
structure Fine (k n : Nat) (r : Row) : Prop where
  dn : ∀ d, r.down = some d → k < d ∧ d < n
  w0 : 0 ≤ r.water
  n0 : 0 ≤ r.need
  r0 : 0 ≤ r.rank
def Reach (rs : List Row) : Prop := ∀ k r, rs[k]? = some r → Fine k rs.length r
theorem c_amount {c : Int} {kd : Int} (hc : Bts c) : ∃ v : Int, 0 ≤ v ∧ ∀ G, c__law_amount [.int c, .int kd] G = .ok (.int v) G := by
  have m0 : ∀ G, opMulB (.int c) (.int c) G = R.ok (.int (c * c)) G := fun G => ev_mulB (.inr ⟨hc, hc⟩)
  by_cases h2 : kd = 2
  · refine ⟨c % 1000000, by omega, fun G => ?_⟩
    unfold c__law_amount b__law_amount
    rw [ev_run]
    simp [h2, tidy_same]
  · by_cases h3 : kd = 3
    · refine ⟨c * c % 1000000000000000000000000000000000000000, Int.emod_nonneg _ (by decide), fun G => ?_⟩
      unfold c__law_amount b__law_amount
      rw [ev_run]
      simp [h3, m0, tidy_same]
    · refine ⟨c % 9, by omega, fun G => ?_⟩
      unfold c__law_amount b__law_amount
      rw [ev_run]
      simp [h2, h3, tidy_same]
theorem c_many {ns : List Int} {f : Nat → Int} (hf : ∀ k, k ≤ 1000 → Bts (f k) ∧ ∀ G, c__law_cell_at [.fl (ns.map D.int), .int k] G = .ok (.int (f k)) G) : ∃ n : Nat, n ≤ 40 ∧ ∀ G, c__law_many [.fl (ns.map D.int)] G = .ok (.int n) G := by
  have h0 : ∀ G, c__law_cell_at [.fl (ns.map D.int), .int 0] G = .ok (.int (f 0)) G := (hf 0 (by omega)).2
  by_cases h : f 0 / 208 % 4 = 1
  · refine ⟨(f 0 / 832 % 41).toNat, by omega, fun G => ?_⟩
    unfold c__law_many b__law_many
    rw [ev_run]
    have e : ((f 0 / 832 % 41).toNat : Int) = f 0 / 832 % 41 := by omega
    simp [h0, h, tidy_same, e]
  · refine ⟨(f 0 % 13).toNat, by omega, fun G => ?_⟩
    unfold c__law_many b__law_many
    rw [ev_run]
    have e : ((f 0 % 13).toNat : Int) = f 0 % 13 := by omega
    simp [h0, h, tidy_same, e]
theorem reach_step {ns : List Int} {f : Nat → Int} (hf : ∀ k, k ≤ 1000 → Bts (f k) ∧ ∀ G, c__law_cell_at [.fl (ns.map D.int), .int k] G = .ok (.int (f k)) G) {n k : Nat} {sh kd : Int} (hk : k < n) (hn : n ≤ 40) :
    ∃ r : Row, Fine k n r ∧ ∀ (G : DH) (acc : List Row) (a b c d e : Option D), acc.length ≤ 40 → ∃ a' b' c' d' e', l__law_reach_1 [some (.fl (ns.map D.int)), some (.int n), some (.int sh), some (.int kd), some (.ref G.length), some (.int k), a, b, c, d, e] (G ++ [.lst (acc.map Row.enc)]) =
      .nx [some (.fl (ns.map D.int)), some (.int n), some (.int sh), some (.int kd), some (.ref G.length), some (.int k), a', b', c', d', e'] (G ++ [.lst ((acc ++ [r]).map Row.enc)]) := by
  have q : ∀ i : Nat, i ≤ 4 → ∀ G, c__law_cell_at [.fl (ns.map D.int), .int (4 * (k : Int) + i)] G = .ok (.int (f (4 * k + i))) G := fun i hi G => by
    have e : (4 * (k : Int) + i) = ((4 * k + i : Nat) : Int) := by omega
    rw [e]; exact (hf _ (by omega)).2 G
  have q1 : ∀ G, c__law_cell_at [.fl (ns.map D.int), .int (4 * (k : Int) + 1)] G = .ok (.int (f (4 * k + 1))) G := q 1 (by omega)
  have q2 : ∀ G, c__law_cell_at [.fl (ns.map D.int), .int (4 * (k : Int) + 2)] G = .ok (.int (f (4 * k + 2))) G := q 2 (by omega)
  have q3 : ∀ G, c__law_cell_at [.fl (ns.map D.int), .int (4 * (k : Int) + 3)] G = .ok (.int (f (4 * k + 3))) G := q 3 (by omega)
  have q4 : ∀ G, c__law_cell_at [.fl (ns.map D.int), .int (4 * (k : Int) + 4)] G = .ok (.int (f (4 * k + 4))) G := q 4 (by omega)
  obtain ⟨w, hw, cw⟩ := c_amount (c := f (4 * k + 2)) (kd := kd) (hf _ (by omega)).1
  obtain ⟨m, hm, cm⟩ := c_amount (c := f (4 * k + 3)) (kd := kd) (hf _ (by omega)).1
  let st : Int := if sh = 2 then (n : Int) - 1 - k else if sh = 1 then min 1 ((n : Int) - 1 - k) else f (4 * k + 1) % ((n : Int) - k)
  have hst : 0 ≤ st ∧ st < (n : Int) - k := by
    have h1 : 0 ≤ f (4 * k + 1) % ((n : Int) - k) := Int.emod_nonneg _ (by omega)
    have h2 : f (4 * k + 1) % ((n : Int) - k) < (n : Int) - k := Int.emod_lt_of_pos _ (by omega)
    show 0 ≤ (if sh = 2 then (n : Int) - 1 - k else if sh = 1 then min 1 ((n : Int) - 1 - k) else f (4 * k + 1) % ((n : Int) - k)) ∧ (if sh = 2 then (n : Int) - 1 - k else if sh = 1 then min 1 ((n : Int) - 1 - k) else f (4 * k + 1) % ((n : Int) - k)) < (n : Int) - k
    repeat' split
    all_goals omega
  let nd : Int := if kd = 1 then 2 * m else m
  let rk : Int := if kd = 2 then f (4 * k + 4) % 10000000000000000000000000000000000000000 else f (4 * k + 4) % 5
  refine ⟨⟨if 0 < st then some (k + st.toNat) else none, w, nd, rk⟩, ⟨fun d hd => ?_, hw, ?_, ?_⟩, fun G acc a b c d e hacc => ?_⟩
  · split at hd
    · cases hd; omega
    · cases hd
  · show 0 ≤ if kd = 1 then 2 * m else m
    split <;> omega
  · show 0 ≤ if kd = 2 then f (4 * k + 4) % 10000000000000000000000000000000000000000 else f (4 * k + 4) % 5
    split
    · exact Int.emod_nonneg _ (by decide)
    · omega
  · have hp : (0 : Int) < (n : Int) - k := by omega
    have hl : acc.length < 1000000 := by omega
    have hdn : dnD (if 0 < st then some (k + st.toNat) else none) = if 0 < st then .int ((k : Int) + st) else .non := by
      split
      · show D.int ((k + st.toNat : Nat) : Int) = _
        congr 1
        omega
      · rfl
    refine ⟨some (.int st), some (dnD (if 0 < st then some (k + st.toNat) else none)), some (.int w), some (.int nd), some (.int rk), ?_⟩
    unfold l__law_reach_1
    have e2 : sh = 2 → st = (n : Int) - 1 - k := fun h => by show (if sh = 2 then _ else _) = _; rw [if_pos h]
    have e1 : sh = 1 → st = min 1 ((n : Int) - 1 - k) := fun h => by show (if sh = 2 then _ else if sh = 1 then _ else _) = _; rw [if_neg (by omega), if_pos h]
    have e0 : sh ≠ 1 → sh ≠ 2 → st = f (4 * k + 1) % ((n : Int) - k) := fun h h' => by show (if sh = 2 then _ else if sh = 1 then _ else _) = _; rw [if_neg h', if_neg h]
    have n1 : kd = 1 → nd = 2 * m := fun h => by show (if kd = 1 then _ else _) = _; rw [if_pos h]
    have n0 : kd ≠ 1 → nd = m := fun h => by show (if kd = 1 then _ else _) = _; rw [if_neg h]
    have r1 : kd = 2 → rk = f (4 * k + 4) % 10000000000000000000000000000000000000000 := fun h => by show (if kd = 2 then _ else _) = _; rw [if_pos h]
    have r0 : kd ≠ 2 → rk = f (4 * k + 4) % 5 := fun h => by show (if kd = 2 then _ else _) = _; rw [if_neg h]
    clear_value st nd rk
    rcases (by omega : sh = 1 ∨ sh = 2 ∨ (sh ≠ 1 ∧ sh ≠ 2)) with rfl | rfl | ⟨h, h'⟩ <;> rcases (by omega : kd = 1 ∨ kd = 2 ∨ (kd ≠ 1 ∧ kd ≠ 2)) with rfl | rfl | ⟨g, g'⟩ <;> by_cases s0 : 0 < st <;>
      (first | have es := e1 rfl | have es := e2 rfl | have es := e0 h h') <;> (first | have en := n1 rfl | have en := n0 (by omega)) <;> (first | have er := r1 rfl | have er := r0 (by omega)) <;> (rw [es] at s0) <;> (first | have s1 : (k : Int) < (n : Int) - 1 := by omega | have s1 : ¬ (k : Int) < (n : Int) - 1 := by omega | skip) <;>
      simp [*, hp_get0, hp_set0, Row.enc] <;> first | rfl | (rw [← es]; show D.int _ = D.int _; congr 1; omega)
theorem reach_loop {ns : List Int} {n : Nat} {sh kd : Int} {Rf : Nat → Row} (hn : n ≤ 40)
    (hR : ∀ k, k < n → ∀ (G : DH) (acc : List Row) (a b c d e : Option D), acc.length ≤ 40 → ∃ a' b' c' d' e', l__law_reach_1 [some (.fl (ns.map D.int)), some (.int n), some (.int sh), some (.int kd), some (.ref G.length), some (.int k), a, b, c, d, e] (G ++ [.lst (acc.map Row.enc)]) =
      .nx [some (.fl (ns.map D.int)), some (.int n), some (.int sh), some (.int kd), some (.ref G.length), some (.int k), a', b', c', d', e'] (G ++ [.lst ((acc ++ [Rf k]).map Row.enc)])) (G : DH) :
    ∀ (m j : Nat) (x a b c d e : Option D), j + m = n → ∃ x' a' b' c' d' e', forP (gV 5) l__law_reach_1 (rngD j m) [some (.fl (ns.map D.int)), some (.int n), some (.int sh), some (.int kd), some (.ref G.length), x, a, b, c, d, e] (G ++ [.lst (((List.range j).map Rf).map Row.enc)]) =
      .nx [some (.fl (ns.map D.int)), some (.int n), some (.int sh), some (.int kd), some (.ref G.length), x', a', b', c', d', e'] (G ++ [.lst (((List.range n).map Rf).map Row.enc)])
  | 0, j, x, a, b, c, d, e, h => ⟨x, a, b, c, d, e, by
      have : j = n := by omega
      rw [rngD_zero, forP_nil, this]⟩
  | m + 1, j, x, a, b, c, d, e, h => by
    obtain ⟨a1, b1, c1, d1, e1, hs⟩ := hR j (by omega) G ((List.range j).map Rf) a b c d e (by simp; omega)
    obtain ⟨x', a', b', c', d', e', ih⟩ := reach_loop hn hR G m (j + 1) (some (.int j)) a1 b1 c1 d1 e1 (by omega)
    refine ⟨x', a', b', c', d', e', ?_⟩
    rw [rngD_succ, forP_cons]
    simp only [ev_gV, R.toS_ok, List.set, hs, aft_nx]
    have q1 : ((j : Int) + 1) = ((j + 1 : Nat) : Int) := by omega
    have q2 : (List.range j).map Rf ++ [Rf j] = (List.range (j + 1)).map Rf := by rw [List.range_succ, List.map_append]; rfl
    rw [q1, q2, ih]
theorem c_reach {ns : List Int} (hb : ∀ m ∈ ns, m.natAbs.log2 < 1048576) (hl : ns.length ≤ 63) : ∃ rows : List Row, rows.length ≤ 40 ∧ Reach rows ∧ ∀ G, c__law_reach [.fl (ns.map D.int)] G = .ok (.ref G.length) (G ++ [.lst (rows.map Row.enc)]) := by
  obtain ⟨f, hf⟩ := cells hb hl
  obtain ⟨n, hn, cn⟩ := c_many hf
  have h0 : ∀ G, c__law_cell_at [.fl (ns.map D.int), .int 0] G = .ok (.int (f 0)) G := (hf 0 (by omega)).2
  let sh := f 0 / 13 % 4
  let kd := f 0 / 52 % 4
  let Rf : Nat → Row := fun k => if h : k < n then (reach_step hf (sh := sh) (kd := kd) h hn).choose else ⟨none, 0, 0, 0⟩
  have hR : ∀ k (h : k < n), Rf k = (reach_step hf (sh := sh) (kd := kd) h hn).choose := fun k h => dif_pos h
  refine ⟨(List.range n).map Rf, by simp [hn], fun k r hk => ?_, fun G => ?_⟩
  · have hkn : k < n := by
      have := (List.getElem?_eq_some_iff.mp hk).1
      simpa using this
    rw [List.getElem?_map, List.getElem?_range hkn] at hk
    have e : Rf k = r := by simpa using hk
    rw [← e, hR k hkn, List.length_map, List.length_range]
    exact (reach_step hf (sh := sh) (kd := kd) hkn hn).choose_spec.1
  · obtain ⟨x', a', b', c', d', e', hL⟩ := reach_loop (ns := ns) (n := n) (sh := sh) (kd := kd) (Rf := Rf) hn (fun k hk => by rw [hR k hk]; exact (reach_step hf (sh := sh) (kd := kd) hk hn).choose_spec.2) G n 0 none none none none none none (by omega)
    have hL' : forP (gV 5) l__law_reach_1 (rngD 0 n) [some (.fl (ns.map D.int)), some (.int n), some (.int (f 0 / 13 % 4)), some (.int (f 0 / 52 % 4)), some (.ref G.length), none, none, none, none, none, none] (G ++ [.lst []]) = _ := hL
    unfold c__law_reach b__law_reach
    rw [ev_run]
    have hr : inR (n : Int) := inR_of (by omega) (by omega)
    generalize (List.range n).map Rf = rows at hL' ⊢
    simp [cn, h0, tidy_new0, hr, hL']
/-! tables of numbers, and sums along the rivers -/
def tab (n : Nat) (F : Nat → Int) : List D := (List.range n).map fun i => D.int (F i)
def fset (F : Nat → Int) (d : Nat) (v : Int) : Nat → Int := fun i => if i = d then v else F i
@[simp] theorem tab_length {n : Nat} {F : Nat → Int} : (tab n F).length = n := by simp [tab]
@[simp] theorem bels_tab {m n : Nat} {F : Nat → Int} : bels m (tab n F) = true := bels_map fun _ _ => rfl
theorem tab_get {n : Nat} {F : Nat → Int} {i : Nat} (h : i < n) : (tab n F)[i]? = some (.int (F i)) := by
  unfold tab
  rw [List.getElem?_map, List.getElem?_range h]; rfl
theorem tab_at {n : Nat} {F : Nat → Int} {i : Nat} (h : i < n) : atI (tab n F) (i : Int) = some (.int (F i)) := atI_of rfl (tab_get h)
theorem tab_set {n : Nat} {F : Nat → Int} {d : Nat} {v : Int} : (tab n F).set d (.int v) = tab n (fset F d v) := by
  refine List.ext_getElem? fun i => ?_
  by_cases hi : i < n
  · by_cases e : d = i
    · subst e
      rw [List.getElem?_set_self (by simpa using hi), tab_get hi]
      simp [fset]
    · rw [List.getElem?_set_ne e, tab_get hi, tab_get hi]
      have : i ≠ d := fun z => e z.symm
      simp [fset, this]
  · rw [List.getElem?_eq_none (by simp; omega), List.getElem?_eq_none (by simp; omega)]
/-- what a row has, by its number -/
def col (g : Row → Int) (rs : List Row) (i : Nat) : Int := match rs[i]? with
  | some r => g r
  | none => 0
theorem tab_col {g : Row → Int} {rs : List Row} : rs.map (fun r => D.int (g r)) = tab rs.length (col g rs) := by
  refine List.ext_getElem? fun i => ?_
  by_cases hi : i < rs.length
  · rw [tab_get hi, List.getElem?_map]
    simp [col, List.getElem?_eq_getElem hi]
  · rw [List.getElem?_eq_none (by simp; omega), List.getElem?_eq_none (by simp; omega)]
def dnOf (rs : List Row) (i : Nat) : Option Nat := rs[i]?.bind Row.down
theorem dnOf_lt {rs : List Row} (h : Reach rs) {k d : Nat} (e : dnOf rs k = some d) : k < d ∧ d < rs.length := by
  unfold dnOf at e
  cases hr : rs[k]? with
  | none => rw [hr] at e; cases e
  | some r => rw [hr] at e; exact (h k r hr).dn d e
theorem dnOf_get {rs : List Row} {k : Nat} (hk : k < rs.length) : dnOf rs k = rs[k].down := by
  unfold dnOf
  rw [List.getElem?_eq_getElem hk]; rfl
theorem dnOf_none {rs : List Row} {k : Nat} (hk : ¬ k < rs.length) : dnOf rs k = none := by
  unfold dnOf
  rw [List.getElem?_eq_none (by omega)]; rfl
def gstep (F : Nat → Int) (k : Nat) (o : Option Nat) : Nat → Int := match o with
  | none => F
  | some d => fset F d (F d + F k)
/-- sums along the rivers, from row k on, m rows -/
def gat (rs : List Row) : Nat → Nat → (Nat → Int) → Nat → Int
  | 0, _, F => F
  | m + 1, k, F => gat rs m (k + 1) (gstep F k (dnOf rs k))
/-- all along -/
abbrev gath (rs : List Row) (F : Nat → Int) : Nat → Int := gat rs rs.length 0 F
theorem row_at {rs : List Row} {k : Nat} (hk : k < rs.length) : atI (rs.map Row.enc) (k : Int) = some (.tup [dnD (dnOf rs k), .int (col Row.water rs k), .int (col Row.need rs k), .int (col Row.rank rs k)]) :=
  atI_of rfl (by rw [List.getElem?_map, dnOf_get hk]; simp [col, List.getElem?_eq_getElem hk, Row.enc])
/-- passed -/
theorem passed_loop {rs : List Row} (hR : Reach rs) {t : D} {G : DH} : ∀ (m k : Nat) (F : Nat → Int) (x y : Option D), k + m = rs.length → ∃ x' y',
    forP (gTup' 2 (gCons' (gV 4) (gCons' (gV 3) gNil'))) l_passed_2 ((enumL (rs.map Row.enc)).drop k) [some (.fl (rs.map Row.enc)), some t, some (.ref G.length), x, y] (G ++ [.lst (tab rs.length F)]) =
      .nx [some (.fl (rs.map Row.enc)), some t, some (.ref G.length), x', y'] (G ++ [.lst (tab rs.length (gat rs m k F))])
  | 0, k, F, x, y, h => ⟨x, y, by rw [List.drop_of_length_le (by rw [enumL_length]; simp; omega), forP_nil]; rfl⟩
  | m + 1, k, F, x, y, h => by
    have hk : k < rs.length := by omega
    have e0 : (enumL (rs.map Row.enc)).drop k = .tup [.int k, rs[k].enc] :: (enumL (rs.map Row.enc)).drop (k + 1) := by
      rw [List.drop_eq_getElem_cons (by rw [enumL_length]; simpa using hk)]
      simp [enumL]
    obtain ⟨x', y', ih⟩ := passed_loop hR (t := t) (G := G) m (k + 1) (gstep F k (dnOf rs k)) (some rs[k].enc) (some (.int k)) (by omega)
    refine ⟨x', y', ?_⟩
    have hb : l_passed_2 [some (.fl (rs.map Row.enc)), some t, some (.ref G.length), some rs[k].enc, some (.int k)] (G ++ [.lst (tab rs.length F)]) =
        .nx [some (.fl (rs.map Row.enc)), some t, some (.ref G.length), some rs[k].enc, some (.int k)] (G ++ [.lst (tab rs.length (gstep F k (dnOf rs k)))]) := by
      unfold l_passed_2
      cases hd : dnOf rs k with
      | none =>
        have : rs[k].down = none := by rw [← dnOf_get hk]; exact hd
        simp [Row.enc, this, dnD, gstep]
      | some d =>
        have e : rs[k].down = some d := by rw [← dnOf_get hk]; exact hd
        have hdn := dnOf_lt hR hd
        have g0 : (G ++ [DO.lst (tab rs.length F)])[G.length]? = some (.lst (tab rs.length F)) := by simp
        simp [Row.enc, e, dnD, gstep, ev_ixL g0 (tab_at hdn.2), hp_get0, tab_at hk, hp_set0, ixN_nat, hdn.2, tab_set]
    rw [e0, forP_cons]
    simp [ev_gV, hb]
    exact ih
def rowD (rs : List Row) (i : Nat) : D := .tup [dnD (dnOf rs i), .int (col Row.water rs i), .int (col Row.need rs i), .int (col Row.rank rs i)]
theorem rows_tab {rs : List Row} : rs.map Row.enc = (List.range rs.length).map (rowD rs) := by
  refine List.ext_getElem? fun i => ?_
  by_cases hi : i < rs.length
  · rw [List.getElem?_map, List.getElem?_map, List.getElem?_range hi, List.getElem?_eq_getElem hi]
    simp [rowD, Row.enc, dnOf_get hi, col, List.getElem?_eq_getElem hi]
  · rw [List.getElem?_eq_none (by simp; omega), List.getElem?_eq_none (by simp; omega)]
theorem c_passed_ok {rs : List Row} (hR : Reach rs) (hl : rs.length ≤ 40) {t : D} {T : Nat → Int} {G : DH} (ht : seqOf t G = some (tab rs.length T)) : c_passed [.fl (rs.map Row.enc), t] G = .ok (.ref G.length) (G ++ [.lst (tab rs.length (gath rs fun i => col Row.water rs i - T i))]) := by
  obtain ⟨x', y', hL⟩ := passed_loop hR (t := t) (G := G) rs.length 0 (fun i => col Row.water rs i - T i) none none (by omega)
  have hz : ∀ j, zipF [.fl (rs.map Row.enc), t] j G = some ((List.range rs.length).map fun i => D.tup [rowD rs i, .int (T i)])[j]? := fun j => by
    rw [zipF_2 seqOf_fl ht, zipL, rows_tab, tab, List.zip_map', List.map_map]
    rfl
  let F : D → Option D := fun d => match d with
    | .tup [.tup [_, .int w, _, _], .int v] => some (.int (w - v))
    | _ => none
  have hc : compF (zipF [.fl (rs.map Row.enc), t]) (gTup' 2 (gCons' (gV 0) (gCons' (gV 1) gNil'))) bTrue e_passed_1 (capS 2 [] [some (.fl (rs.map Row.enc)), some t, none, none, none]) rs.length 0 G = .ok (tab rs.length fun i => col Row.water rs i - T i) G := by
    rw [compF_all (F := F) hz (fun x hx => ?_) (by simp)]
    · congr 1
      rw [List.filterMap_map]
      show (List.range rs.length).filterMap (fun i => some (D.int (col Row.water rs i - T i))) = _
      rw [List.filterMap_eq_map']
      rfl
    · obtain ⟨i, _, rfl⟩ := List.mem_map.mp hx
      refine ⟨[some (rowD rs i), some (.int (T i))], by simp [capS], .inr ⟨rfl, .int (col Row.water rs i - T i), ?_, rfl⟩⟩
      unfold e_passed_1
      simp [rowD]
  have hl2 : rs.length ≤ 1000000 := by omega
  unfold c_passed b_passed
  rw [ev_run]
  have hL' : forP (gTup' 2 (gCons' (gV 4) (gCons' (gV 3) gNil'))) l_passed_2 (enumL (rs.map Row.enc)) [some (.fl (rs.map Row.enc)), some t, some (.ref G.length), none, none] (G ++ [.lst (tab rs.length fun i => col Row.water rs i - T i)]) = _ := hL
  have hcf : forF (enumF 0 (.fl (rs.map Row.enc))) (gTup' 2 (gCons' (gV 4) (gCons' (gV 3) gNil'))) l_passed_2 rs.length 0 [some (.fl (rs.map Row.enc)), some t, some (.ref G.length), none, none] (G ++ [.lst (tab rs.length fun i => col Row.water rs i - T i)]) = .nx [some (.fl (rs.map Row.enc)), some t, some (.ref G.length), x', y'] (G ++ [.lst (tab rs.length (gath rs fun i => col Row.water rs i - T i))]) := by
    have := forF_enum (S := [some (.fl (rs.map Row.enc)), some t, some (.ref G.length), none, none]) (G := G ++ [.lst (tab rs.length fun i => col Row.water rs i - T i)]) (g := gTup' 2 (gCons' (gV 4) (gCons' (gV 3) gNil'))) (b := l_passed_2) (xs := rs.map Row.enc)
    rw [List.length_map] at this
    rw [this]
    exact hL'
  simp [ev_zip2 (seqOf_fl (xs := rs.map Row.enc)) ht, hc, mkLst, hl2, hcf, tidy_new0]
theorem col_nn {g : Row → Int} {rs : List Row} (h : ∀ r ∈ rs, 0 ≤ g r) (k : Nat) : 0 ≤ col g rs k := by
  unfold col
  split
  · rename_i r hr
    exact h r (List.mem_of_getElem? hr)
  · exact Int.le_refl _
theorem Reach.need {rs : List Row} (h : Reach rs) (k : Nat) : 0 ≤ col Row.need rs k := col_nn (fun r hr => by
  obtain ⟨i, hi, rfl⟩ := List.getElem_of_mem hr
  exact (h i _ (List.getElem?_eq_getElem hi)).n0) k
theorem Reach.water {rs : List Row} (h : Reach rs) (k : Nat) : 0 ≤ col Row.water rs k := col_nn (fun r hr => by
  obtain ⟨i, hi, rfl⟩ := List.getElem_of_mem hr
  exact (h i _ (List.getElem?_eq_getElem hi)).w0) k
theorem Reach.rank {rs : List Row} (h : Reach rs) (k : Nat) : 0 ≤ col Row.rank rs k := col_nn (fun r hr => by
  obtain ⟨i, hi, rfl⟩ := List.getElem_of_mem hr
  exact (h i _ (List.getElem?_eq_getElem hi)).r0) k
/-- _law_gathered -/
theorem gathered_loop {rs : List Row} (hR : Reach rs) {t : D} {G : DH} : ∀ (m k : Nat) (F : Nat → Int) (x y : Option D), k + m = rs.length → ∃ x' y',
    forP (gV 3) l__law_gathered_1 (rngD k m) [some (.fl (rs.map Row.enc)), some t, some (.ref G.length), x, y] (G ++ [.lst (tab rs.length F)]) =
      .nx [some (.fl (rs.map Row.enc)), some t, some (.ref G.length), x', y'] (G ++ [.lst (tab rs.length (gat rs m k F))])
  | 0, k, F, x, y, h => ⟨x, y, by rw [rngD_zero, forP_nil]; rfl⟩
  | m + 1, k, F, x, y, h => by
    have hk : k < rs.length := by omega
    obtain ⟨x', y', ih⟩ := gathered_loop hR (t := t) (G := G) m (k + 1) (gstep F k (dnOf rs k)) (some (.int k)) (some (dnD (dnOf rs k))) (by omega)
    refine ⟨x', y', ?_⟩
    have hb : l__law_gathered_1 [some (.fl (rs.map Row.enc)), some t, some (.ref G.length), some (.int k), y] (G ++ [.lst (tab rs.length F)]) =
        .nx [some (.fl (rs.map Row.enc)), some t, some (.ref G.length), some (.int k), some (dnD (dnOf rs k))] (G ++ [.lst (tab rs.length (gstep F k (dnOf rs k)))]) := by
      unfold l__law_gathered_1
      cases hd : dnOf rs k with
      | none => simp [row_at hk, hd, dnD, gstep]
      | some d =>
        have hdn := dnOf_lt hR hd
        simp [row_at hk, hd, dnD, gstep, hp_get0, tab_at hk, tab_at hdn.2, hp_set0, ixN_nat, hdn.2, tab_set]
    rw [rngD_succ, forP_cons]
    simp only [ev_gV, R.toS_ok, List.set, hb, aft_nx]
    have q1 : ((k : Int) + 1) = ((k + 1 : Nat) : Int) := by omega
    rw [q1, ih]
    rfl
theorem c_gathered_of {rs : List Row} (hR : Reach rs) (hl : rs.length ≤ 40) {t : D} {T : Nat → Int} {G : DH} (ht : fList [t] G = .ok (.ref G.length) (G ++ [.lst (tab rs.length T)])) : c__law_gathered [.fl (rs.map Row.enc), t] G = .ok (.ref G.length) (G ++ [.lst (tab rs.length (gath rs T))]) := by
  obtain ⟨x', y', hL⟩ := gathered_loop hR (t := t) (G := G) rs.length 0 T none none (by omega)
  have hL' : forP (gV 3) l__law_gathered_1 (rngD 0 rs.length) [some (.fl (rs.map Row.enc)), some t, some (.ref G.length), none, none] (G ++ [.lst (tab rs.length T)]) = _ := hL
  have hr : inR (rs.length : Int) := inR_of (by omega) (by omega)
  unfold c__law_gathered b__law_gathered
  rw [ev_run]
  simp [ht, tidy_new0, hr, hL']
theorem c_gathered_ok {rs : List Row} (hR : Reach rs) (hl : rs.length ≤ 40) {T : Nat → Int} {G : DH} : c__law_gathered [.fl (rs.map Row.enc), .fl (tab rs.length T)] G = .ok (.ref G.length) (G ++ [.lst (tab rs.length (gath rs T))]) := c_gathered_of hR hl rfl
theorem numbers_loop {x y : D} {G : DH} : ∀ (xs : List Int) (z : Option D), ∃ z', forP (gV 2) l__law_numbers_1 (xs.map D.int) [some x, some y, z] G = .nx [some x, some y, z'] G
  | [], z => ⟨z, rfl⟩
  | v :: xs, z => by
    obtain ⟨z', ih⟩ := numbers_loop (x := x) (y := y) (G := G) xs (some (.int v))
    refine ⟨z', ?_⟩
    have hb : l__law_numbers_1 [some x, some y, some (.int v)] G = .nx [some x, some y, some (.int v)] G := by
      unfold l__law_numbers_1
      simp
    rw [List.map_cons, forP_cons]
    simp only [ev_gV, R.toS_ok, List.set, hb, aft_nx]
    exact ih
theorem c_numbers_fl {n : Nat} {F : Nat → Int} {G : DH} : c__law_numbers [.fl (tab n F), .int n] G = .ok (.bl true) G := by
  obtain ⟨z', hL⟩ := numbers_loop (x := .fl (tab n F)) (y := .int n) (G := G) ((List.range n).map F) none
  have e : ((List.range n).map F).map D.int = tab n F := by simp [tab]
  rw [e] at hL
  unfold c__law_numbers b__law_numbers
  rw [ev_run]
  simp [tyD, hL, tidy_same]
/-! one object more below -/
theorem tidy_new1 {G : DH} {A : DO} {ds : List D} {L : DH} (h : bels (G.length + 1) ds = true) : tidy (G ++ [A]) (.ok (.ref (G.length + 1)) (G ++ A :: .lst ds :: L)) = .ok (.ref (G.length + 1)) (G ++ [A, .lst ds]) := by
  have := tidy_new0 (G := G ++ [A]) (ds := ds) (L := L) (by simpa using h)
  simpa using this
theorem freeze_new2 {G : DH} {A B : DO} {ds : List D} {L : DH} (h : bels (G.length + 2) ds = true) : freeze (G ++ [A, B]) (.ok (.ref (G.length + 2)) (G ++ A :: B :: .lst ds :: L)) = .ok (.fl ds) (G ++ [A, B]) := by
  have := freeze_new0 (G := G ++ [A, B]) (ds := ds) (L := L) (by simpa using h)
  simpa using this
/-! the way down -/
def wayF (rs : List Row) : Nat → Nat → List Nat
  | 0, k => [k]
  | m + 1, k => k :: (match dnOf rs k with
    | none => []
    | some d => wayF rs m d)
def way (rs : List Row) (k : Nat) : List Nat := wayF rs rs.length k
theorem wayF_stab {rs : List Row} (hR : Reach rs) : ∀ (m m' k : Nat), rs.length ≤ m + k + 1 → rs.length ≤ m' + k + 1 → wayF rs m k = wayF rs m' k
  | 0, m', k, h, h' => by
    have hn : dnOf rs k = none := by
      cases hd : dnOf rs k with
      | none => rfl
      | some d => have := dnOf_lt hR hd; omega
    cases m' with
    | zero => rfl
    | succ m' => simp [wayF, hn]
  | m + 1, 0, k, h, h' => by
    have hn : dnOf rs k = none := by
      cases hd : dnOf rs k with
      | none => rfl
      | some d => have := dnOf_lt hR hd; omega
    simp [wayF, hn]
  | m + 1, m' + 1, k, h, h' => by
    cases hd : dnOf rs k with
    | none => simp [wayF, hd]
    | some d =>
      have := dnOf_lt hR hd
      simp [wayF, hd, wayF_stab hR m m' d (by omega) (by omega)]
def wayO (rs : List Row) : Option Nat → List Nat
  | none => []
  | some d => way rs d
theorem way_eq {rs : List Row} (hR : Reach rs) (k : Nat) : way rs k = k :: wayO rs (dnOf rs k) := by
  unfold way
  rw [wayF_stab hR rs.length (rs.length + 1) k (by omega) (by omega)]
  show k :: _ = _
  cases hd : dnOf rs k with
  | none => rfl
  | some d => rfl
@[simp] theorem dnD_some {d : Nat} : dnD (some d) = .int d := id rfl
def natD (ws : List Nat) : List D := ws.map fun (i : Nat) => D.int (i : Int)
@[simp] theorem bels_natD {m : Nat} {ws : List Nat} : bels m (natD ws) = true := bels_map fun _ _ => rfl
@[simp] theorem natD_length {ws : List Nat} : (natD ws).length = ws.length := by simp [natD]
theorem way_loop {rs : List Row} (hR : Reach rs) (hl : rs.length ≤ 40) {x : Option D} {G : DH} : ∀ (m : Nat) (o : Option Nat) (acc : List Nat), 0 < m → (∀ d, o = some d → d < rs.length ∧ rs.length - d < m ∧ acc.length + (rs.length - d) ≤ 100) →
    sWh t_way_down_1 l_way_down_1 m [some (.fl (rs.map Row.enc)), x, some (.ref G.length), some (dnD o)] (G ++ [.lst (natD acc)]) = .nx [some (.fl (rs.map Row.enc)), x, some (.ref G.length), some .non] (G ++ [.lst (natD (acc ++ wayO rs o))])
  | 0, o, acc, h0, h => by omega
  | m + 1, none, acc, h0, h => by
    have ht : t_way_down_1 [some (.fl (rs.map Row.enc)), x, some (.ref G.length), some (dnD none)] (G ++ [.lst (natD acc)]) = .ok false (G ++ [.lst (natD acc)]) := by
      unfold t_way_down_1
      simp [dnD]
    unfold sWh
    rw [ht]
    simp [wayO, dnD]
  | m + 1, some d, acc, h0, h => by
    obtain ⟨h1, h2, h3⟩ := h d rfl
    have ht : t_way_down_1 [some (.fl (rs.map Row.enc)), x, some (.ref G.length), some (dnD (some d))] (G ++ [.lst (natD acc)]) = .ok true (G ++ [.lst (natD acc)]) := by
      unfold t_way_down_1
      simp [dnD]
    have hla : acc.length < 1000000 := by omega
    have hb : l_way_down_1 [some (.fl (rs.map Row.enc)), x, some (.ref G.length), some (dnD (some d))] (G ++ [.lst (natD acc)]) = .nx [some (.fl (rs.map Row.enc)), x, some (.ref G.length), some (dnD (dnOf rs d))] (G ++ [.lst (natD (acc ++ [d]))]) := by
      unfold l_way_down_1
      simp [hp_get0, hp_set0, hla, row_at h1, natD]
    unfold sWh
    rw [ht]
    simp only [R.toS_ok, if_true, hb, aft_nx]
    rw [way_loop hR hl m (dnOf rs d) (acc ++ [d]) (by omega) (fun e he => by
      have := dnOf_lt hR he
      simp; omega)]
    have : wayO rs (some d) = d :: wayO rs (dnOf rs d) := way_eq hR d
    rw [this]
    simp
theorem c_way_ok {rs : List Row} (hR : Reach rs) (hl : rs.length ≤ 40) {k : Nat} (hk : k < rs.length) (G : DH) : c_way_down [.fl (rs.map Row.enc), .int k] G = .ok (.ref G.length) (G ++ [.lst (natD (way rs k))]) := by
  have hL := way_loop hR hl (x := some (.int k)) (G := G) fuel (dnOf rs k) [k] (by unfold fuel; omega) (fun d hd => by
    have := dnOf_lt hR hd
    unfold fuel
    simp; omega)
  have hL' : sWh t_way_down_1 l_way_down_1 fuel [some (.fl (rs.map Row.enc)), some (.int k), some (.ref G.length), some (dnD (dnOf rs k))] (G ++ [.lst [.int k]]) = _ := hL
  rw [way_eq hR]
  unfold c_way_down b_way_down
  rw [ev_run]
  simp [mkLst, tidy_new0, row_at hk, hL']
/-! the order in which rows are served -/
def ltK (rs : List Row) (i j : Nat) : Bool := decide (col Row.rank rs i < col Row.rank rs j ∨ (col Row.rank rs i = col Row.rank rs j ∧ i < j))
theorem ltK_wo (rs : List Row) : WO (ltK rs) where
  asy := fun i j h => by
    simp only [ltK, decide_eq_true_eq, decide_eq_false_iff_not] at h ⊢
    omega
  neg := fun i j k h => by
    simp only [ltK, decide_eq_true_eq] at h ⊢
    omega
def ord (rs : List Row) : List Nat := if rs.length < 2 then List.range rs.length else (askR (ltK rs) (PySem.W.kas_sort rs.length)).toList
theorem ord_perm (rs : List Row) : (ord rs).Perm (List.range rs.length) := by
  unfold ord
  split
  · exact .refl _
  · exact (sort_ok (ltK_wo rs) (by omega)).1
theorem ord_lt {rs : List Row} {k : Nat} (h : k ∈ ord rs) : k < rs.length := by
  have := (ord_perm rs).mem_iff.mp h
  simpa using this
theorem ord_length (rs : List Row) : (ord rs).length = rs.length := by rw [(ord_perm rs).length_eq]; simp
theorem askR_congr {n : Nat} {lt lt' : Nat → Nat → Bool} (h : ∀ i j, i < n → j < n → lt i j = lt' i j) {α : Type} {P : α → Prop} : ∀ {t : PySem.W.KasT α}, Safe n P t → askR lt t = askR lt' t
  | .ret _, _ => rfl
  | .ask i j k, hs => by
    show askR lt (k (lt i j)) = askR lt' (k (lt' i j))
    rw [h i j hs.1 hs.2.1]
    exact askR_congr h (hs.2.2 _)
def keyD (rs : List Row) (k : Nat) : D := .tup [.int (col Row.rank rs k), .int k]
theorem keyD_lt {rs : List Row} (i j : Nat) : ltD (keyD rs i) (keyD rs j) = some (ltK rs i j) := by
  have e : ltD (keyD rs i) (keyD rs j) = if col Row.rank rs i = col Row.rank rs j then (if (i : Int) = j then some false else some (decide ((i : Int) < j))) else some (decide (col Row.rank rs i < col Row.rank rs j)) := rfl
  rw [e]
  by_cases h : col Row.rank rs i = col Row.rank rs j
  · rw [if_pos h]
    by_cases h2 : (i : Int) = j
    · rw [if_pos h2]
      congr 1
      simp only [ltK]
      symm
      simp only [decide_eq_false_iff_not]
      omega
    · rw [if_neg h2]
      congr 1
      simp only [ltK]
      rw [decide_eq_decide]
      omega
  · rw [if_neg h]
    congr 1
    simp only [ltK]
    rw [decide_eq_decide]
    omega
def keysD (rs : List Row) : List D := (List.range rs.length).map (keyD rs)
theorem keysD_get {rs : List Row} {i : Nat} (h : i < rs.length) : (keysD rs).getD i .non = keyD rs i := by
  unfold keysD
  rw [List.getD_eq_getElem?_getD, List.getElem?_map, List.getElem?_range h]; rfl
theorem sortD_keys (rs : List Row) : sortD (keysD rs) = (ord rs).map (keyD rs) := by
  have hl : (keysD rs).length = rs.length := by simp [keysD]
  unfold sortD ord
  rw [hl]
  split
  · rfl
  · rename_i h
    have e : askR (ltI (keysD rs)) (PySem.W.kas_sort rs.length) = askR (ltK rs) (PySem.W.kas_sort rs.length) :=
      askR_congr (n := rs.length) (fun i j hi hj => by unfold ltI; rw [keysD_get hi, keysD_get hj, keyD_lt]; rfl) (safe_sort (by omega))
    rw [e]
    refine List.map_congr_left fun i hi => ?_
    have hp := (sort_ok (ltK_wo rs) (n := rs.length) (by omega)).1
    exact keysD_get (by simpa using hp.mem_iff.mp hi)
theorem okKeys_keys (rs : List Row) : okKeys (keysD rs) = true := by
  unfold okKeys keysD
  rw [Bool.and_eq_true, Bool.or_eq_true]
  refine ⟨.inl ?_, ?_⟩
  · rw [List.all_eq_true]
    intro x hx
    obtain ⟨i, _, rfl⟩ := List.mem_map.mp hx
    rfl
  · rw [List.all_eq_true]
    intro x hx
    rw [List.all_eq_true]
    intro y hy
    obtain ⟨i, _, rfl⟩ := List.mem_map.mp hx
    obtain ⟨j, _, rfl⟩ := List.mem_map.mp hy
    rw [keyD_lt]; rfl
@[simp] theorem bels_keys {m : Nat} {rs : List Row} {ws : List Nat} : bels m (ws.map (keyD rs)) = true := bels_map fun _ _ => by simp [keyD]
theorem c_served_ok {rs : List Row} (hl : rs.length ≤ 40) (G : DH) : c_served [.fl (rs.map Row.enc)] G = .ok (.ref G.length) (G ++ [.lst (natD (ord rs))]) := by
  have he : ∀ j, enumF 0 (.fl (rs.map Row.enc)) j G = some ((List.range rs.length).map fun (k : Nat) => D.tup [.int (k : Int), rowD rs k])[j]? := fun j => by
    rw [enumF_fl, enumL, rows_tab, List.zipIdx_map, List.map_map]
    congr 2
    refine List.ext_getElem (by simp) fun i h1 h2 => by simp
  let F : D → Option D := fun d => match d with
    | .tup [.int k, .tup [_, _, _, .int r]] => some (.tup [.int r, .int k])
    | _ => none
  have hc : compF (enumF 0 (.fl (rs.map Row.enc))) (gTup' 2 (gCons' (gV 0) (gCons' (gV 1) gNil'))) bTrue e_served_1 (capS 2 [] [some (.fl (rs.map Row.enc)), none]) rs.length 0 G = .ok (keysD rs) G := by
    rw [compF_all (F := F) he (fun x hx => ?_) (by simp)]
    · congr 1
      rw [List.filterMap_map]
      show (List.range rs.length).filterMap (fun i => some (keyD rs i)) = _
      rw [List.filterMap_eq_map']
      rfl
    · obtain ⟨i, _, rfl⟩ := List.mem_map.mp hx
      refine ⟨[some (.int i), some (rowD rs i)], by simp [capS], .inr ⟨rfl, keyD rs i, ?_, rfl⟩⟩
      unfold e_served_1
      simp [rowD, keyD, mkTup]
  let F2 : D → Option D := fun d => match d with
    | .tup [_, k] => some k
    | _ => none
  have hc2 : ∀ S, compP (gTup' 2 (gCons' (gV 0) (gCons' (gV 1) gNil'))) bTrue e_served_2 (capS 2 [] S) ((ord rs).map (keyD rs)) G = .ok (natD (ord rs)) G := fun S => by
    rw [compP_ok (F := F2) (fun x hx => ?_)]
    · congr 1
      rw [List.filterMap_map]
      show (ord rs).filterMap (fun (i : Nat) => some (D.int (i : Int))) = _
      rw [List.filterMap_eq_map']
      rfl
    · obtain ⟨i, _, rfl⟩ := List.mem_map.mp hx
      refine ⟨[some (.int (col Row.rank rs i)), some (.int i)], by simp [capS, keyD], .inr ⟨rfl, .int i, ?_, rfl⟩⟩
      unfold e_served_2
      simp
  have hkl : (keysD rs).length = rs.length := by simp [keysD]
  have hl2 : rs.length ≤ 1000000 := by omega
  have hs : ∀ G, fSorted [.fl (keysD rs)] G = .ok (.ref G.length) (G ++ [.lst ((ord rs).map (keyD rs))]) := fun G => by
    have h1 : lstOf (.fl (keysD rs)) G = some (keysD rs) := rfl
    simp only [fSorted, h1]
    rw [if_pos ⟨⟨by rw [hkl]; omega, by rw [sortD_keys]; simp [ord_length]; omega⟩, okKeys_keys rs⟩, sortD_keys]
  have hbk : bels G.length (keysD rs) = true := bels_keys
  have hol := ord_length rs
  have hl3 : (ord rs).length ≤ 1000000 := by omega
  unfold c_served b_served
  rw [ev_run]
  simp [hc, mkLst, hkl, hl2, freeze_new0, hbk, hs, hc2, hl3, tidy_new0]
/-! shares -/
def wmin (P : Nat → Int) : List Nat → Int
  | [] => 0
  | k :: r => (r.map P).foldl min (P k)
theorem wmin_le {P : Nat → Int} {ws : List Nat} {b : Nat} (h : b ∈ ws) : wmin P ws ≤ P b := by
  cases ws with
  | nil => cases h
  | cons k r =>
    obtain ⟨h1, h2, _⟩ := foldl_min_le (r.map P) (P k)
    rcases List.mem_cons.mp h with rfl | h
    · exact h1
    · exact h2 _ (List.mem_map.mpr ⟨b, h, rfl⟩)
theorem wmin_mem {P : Nat → Int} {ws : List Nat} (h : ws ≠ []) : ∃ b ∈ ws, wmin P ws = P b := by
  cases ws with
  | nil => exact absurd rfl h
  | cons k r =>
    obtain ⟨_, _, h3⟩ := foldl_min_le (r.map P) (P k)
    rcases h3 with h3 | h3
    · exact ⟨k, List.mem_cons_self, h3⟩
    · obtain ⟨b, hb, e⟩ := List.mem_map.mp h3
      exact ⟨b, List.mem_cons_of_mem _ hb, e.symm⟩
theorem wmin_congr {P Q : Nat → Int} {ws : List Nat} (h : ∀ b ∈ ws, P b = Q b) : wmin P ws = wmin Q ws := by
  cases ws with
  | nil => rfl
  | cons k r =>
    have e : r.map P = r.map Q := List.map_congr_left fun b hb => h b (List.mem_cons_of_mem _ hb)
    show (r.map P).foldl min (P k) = (r.map Q).foldl min (Q k)
    rw [e, h k List.mem_cons_self]
/-- what is left when so much is taken along a way -/
def subW (P : Nat → Int) (ws : List Nat) (t : Int) : Nat → Int := fun i => if i ∈ ws then P i - t else P i
def foldW (P : Nat → Int) (t : Int) (ws : List Nat) : Nat → Int := ws.foldl (fun P b => fset P b (P b - t)) P
theorem foldW_eq {t : Int} : ∀ {ws : List Nat} {P : Nat → Int}, ws.Nodup → foldW P t ws = subW P ws t
  | [], P, _ => by funext i; simp [foldW, subW]
  | b :: ws, P, h => by
    obtain ⟨h1, h2⟩ := List.nodup_cons.mp h
    show foldW (fset P b (P b - t)) t ws = _
    rw [foldW_eq h2]
    funext i
    by_cases e : i = b
    · subst e; simp [subW, fset, h1]
    · simp [subW, fset, e]
theorem way_lt {rs : List Row} (hR : Reach rs) : ∀ (m k : Nat), rs.length ≤ m + k → k < rs.length → ∀ b ∈ way rs k, k ≤ b ∧ b < rs.length
  | 0, k, h, hk, b, hb => by omega
  | m + 1, k, h, hk, b, hb => by
    rw [way_eq hR] at hb
    rcases List.mem_cons.mp hb with rfl | hb
    · omega
    · cases hd : dnOf rs k with
      | none => rw [hd] at hb; cases hb
      | some d =>
        have := dnOf_lt hR hd
        rw [hd] at hb
        have := way_lt hR m d (by omega) (by omega) b hb
        omega
theorem way_mem {rs : List Row} (hR : Reach rs) {k b : Nat} (hk : k < rs.length) (hb : b ∈ way rs k) : k ≤ b ∧ b < rs.length := way_lt hR rs.length k (by omega) hk b hb
theorem way_nodup {rs : List Row} (hR : Reach rs) : ∀ (m k : Nat), rs.length ≤ m + k → (way rs k).Nodup
  | 0, k, h => by
    rw [way_eq hR, dnOf_none (by omega)]
    simp [wayO]
  | m + 1, k, h => by
    rw [way_eq hR]
    cases hd : dnOf rs k with
    | none => simp [wayO]
    | some d =>
      have hlt := dnOf_lt hR hd
      refine List.nodup_cons.mpr ⟨fun hm => ?_, way_nodup hR m d (by omega)⟩
      have := way_mem hR hlt.2 hm
      omega
theorem way_nd {rs : List Row} (hR : Reach rs) (k : Nat) : (way rs k).Nodup := way_nodup hR rs.length k (by omega)
theorem way_len {rs : List Row} (hR : Reach rs) : ∀ (m k : Nat), rs.length ≤ m + k → (way rs k).length ≤ m + 1
  | 0, k, h => by
    rw [way_eq hR, dnOf_none (by omega)]
    simp [wayO]
  | m + 1, k, h => by
    rw [way_eq hR]
    cases hd : dnOf rs k with
    | none => simp [wayO]
    | some d =>
      have hlt := dnOf_lt hR hd
      have := way_len hR m d (by omega)
      show (way rs d).length + 1 ≤ _
      omega
theorem way_self {rs : List Row} (hR : Reach rs) (k : Nat) : k ∈ way rs k := by rw [way_eq hR]; exact List.mem_cons_self
/-- what a row takes -/
def take1 (rs : List Row) (P : Nat → Int) (k : Nat) : Int := min (col Row.need rs k) (wmin P (way rs k))
def srv (rs : List Row) : List Nat → (Nat → Int) → (Nat → Int) → (Nat → Int) × (Nat → Int)
  | [], P, T => (P, T)
  | k :: ks, P, T => srv rs ks (subW P (way rs k) (take1 rs P k)) (fset T k (take1 rs P k))
/-- the shares -/
def shr (rs : List Row) : Nat → Int := (srv rs (ord rs) (gath rs (col Row.water rs)) fun _ => 0).2
/-- numbers picked by a way -/
def pD (P : Nat → Int) (ws : List Nat) : List D := ws.map fun i => D.int (P i)
@[simp] theorem pD_length {P : Nat → Int} {ws : List Nat} : (pD P ws).length = ws.length := by simp [pD]
@[simp] theorem bels_pD {m : Nat} {P : Nat → Int} {ws : List Nat} : bels m (pD P ws) = true := bels_map fun _ _ => rfl
theorem sub_loop {rs : List Row} {a b c d e : Option D} {t : Int} {A : DO} {G : DH} : ∀ (ws : List Nat) (P : Nat → Int) (x : Option D), (∀ b ∈ ws, b < rs.length) → ∃ x',
    forP (gV 6) l_shares_2 (natD ws) [a, b, some (.ref (G.length + 1)), c, d, some (.int t), x] (G ++ [A, .lst (tab rs.length P)]) = .nx [a, b, some (.ref (G.length + 1)), c, d, some (.int t), x'] (G ++ [A, .lst (tab rs.length (foldW P t ws))])
  | [], P, x, h => ⟨x, rfl⟩
  | w :: ws, P, x, h => by
    obtain ⟨x', ih⟩ := sub_loop (a := a) (b := b) (c := c) (d := d) (e := e) (t := t) (A := A) (G := G) ws (fset P w (P w - t)) (some (.int w)) fun b hb => h b (List.mem_cons_of_mem _ hb)
    refine ⟨x', ?_⟩
    have hw := h w List.mem_cons_self
    have g0 : (G ++ [A, DO.lst (tab rs.length P)])[G.length + 1]? = some (.lst (tab rs.length P)) := hp_get _ 1
    have hse : ∀ (L : DH) o, (G ++ L).set (G.length + 1) o = G ++ L.set 1 o := fun L o => hp_set L 1 o
    have hb : l_shares_2 [a, b, some (.ref (G.length + 1)), c, d, some (.int t), some (.int w)] (G ++ [A, .lst (tab rs.length P)]) = .nx [a, b, some (.ref (G.length + 1)), c, d, some (.int t), some (.int w)] (G ++ [A, .lst (tab rs.length (fset P w (P w - t)))]) := by
      unfold l_shares_2
      simp [ev_ixL g0 (tab_at hw), g0, hse, ixN_nat, hw, tab_set]
    show forP _ _ (.int w :: natD ws) _ _ = _
    rw [forP_cons]
    simp only [ev_gV, R.toS_ok, List.set, hb, aft_nx]
    exact ih
theorem shares_loop {rs : List Row} (hR : Reach rs) (hl : rs.length ≤ 40) {G : DH} : ∀ (ks : List Nat) (P T : Nat → Int) (x y z w : Option D), (∀ k ∈ ks, k < rs.length) → ∃ x' y' z' w',
    forP (gV 3) l_shares_3 (natD ks) [some (.fl (rs.map Row.enc)), some (.ref G.length), some (.ref (G.length + 1)), x, y, z, w] (G ++ [.lst (tab rs.length T), .lst (tab rs.length P)]) =
      .nx [some (.fl (rs.map Row.enc)), some (.ref G.length), some (.ref (G.length + 1)), x', y', z', w'] (G ++ [.lst (tab rs.length (srv rs ks P T).2), .lst (tab rs.length (srv rs ks P T).1)])
  | [], P, T, x, y, z, w, h => ⟨x, y, z, w, rfl⟩
  | k :: ks, P, T, x, y, z, w, h => by
    have hk := h k List.mem_cons_self
    have hwl : ∀ b ∈ way rs k, b < rs.length := fun b hb => (way_mem hR hk hb).2
    obtain ⟨w1, hsub⟩ := sub_loop (rs := rs) (a := some (.fl (rs.map Row.enc))) (b := some (.ref G.length)) (c := some (.int k)) (d := some (.fl (natD (way rs k)))) (e := none) (t := take1 rs P k) (A := .lst (tab rs.length (fset T k (take1 rs P k)))) (G := G) (way rs k) P w hwl
    rw [foldW_eq (way_nd hR k)] at hsub
    obtain ⟨x', y', z', w', ih⟩ := shares_loop hR hl (G := G) ks (subW P (way rs k) (take1 rs P k)) (fset T k (take1 rs P k)) (some (.int k)) (some (.fl (natD (way rs k)))) (some (.int (take1 rs P k))) w1 fun j hj => h j (List.mem_cons_of_mem _ hj)
    refine ⟨x', y', z', w', ?_⟩
    have g0 : (G ++ [DO.lst (tab rs.length T), DO.lst (tab rs.length P)])[G.length + 1]? = some (.lst (tab rs.length P)) := hp_get _ 1
    have hcomp : compP (gV 0) bTrue e_shares_1 (capS 1 [2] [some (.fl (rs.map Row.enc)), some (.ref G.length), some (.ref (G.length + 1)), some (.int k), some (.fl (natD (way rs k))), z, w]) (natD (way rs k)) (G ++ [DO.lst (tab rs.length T), DO.lst (tab rs.length P)]) = .ok (pD P (way rs k)) (G ++ [DO.lst (tab rs.length T), DO.lst (tab rs.length P)]) := by
      rw [compP_ok (F := fun d => match d with | .int i => some (.int (P i.toNat)) | _ => none) (fun q hq => ?_)]
      · congr 1
        unfold natD
        rw [List.filterMap_map]
        show (way rs k).filterMap (fun (i : Nat) => some (D.int (P ((i : Int).toNat)))) = _
        rw [List.filterMap_eq_map']
        simp [pD]
      · obtain ⟨i, hi, rfl⟩ := List.mem_map.mp hq
        refine ⟨[some (.int i), some (.ref (G.length + 1))], by simp [capS], .inr ⟨rfl, .int (P i), ?_, by simp⟩⟩
        unfold e_shares_1
        simp [g0, tab_at (hwl i hi)]
    have hwn : (way rs k).length ≤ 1000000 := by
      have h1 := way_len hR rs.length k (by omega)
      omega
    have hmin : ∀ G, fMinL [.fl (pD P (way rs k))] G = .ok (.int (wmin P (way rs k))) G := fun G => by
      rw [way_eq hR]
      exact ev_minL (n := P k) (ns := (wayO rs (dnOf rs k)).map P) (by simp [pD])
    have hfr : freeze (G ++ [DO.lst (tab rs.length T), DO.lst (tab rs.length P)]) (.ok (.ref (G.length + 2)) (G ++ [DO.lst (tab rs.length T), DO.lst (tab rs.length P), .lst (pD P (way rs k))])) = .ok (.fl (pD P (way rs k))) (G ++ [DO.lst (tab rs.length T), DO.lst (tab rs.length P)]) := freeze_new2 bels_pD
    have hfw : freeze (G ++ [DO.lst (tab rs.length T), DO.lst (tab rs.length P)]) (.ok (.ref (G.length + 2)) (G ++ [DO.lst (tab rs.length T), DO.lst (tab rs.length P), .lst (natD (way rs k))])) = .ok (.fl (natD (way rs k))) (G ++ [DO.lst (tab rs.length T), DO.lst (tab rs.length P)]) := freeze_new2 bels_natD
    have hb : l_shares_3 [some (.fl (rs.map Row.enc)), some (.ref G.length), some (.ref (G.length + 1)), some (.int k), y, z, w] (G ++ [.lst (tab rs.length T), .lst (tab rs.length P)]) =
        .nx [some (.fl (rs.map Row.enc)), some (.ref G.length), some (.ref (G.length + 1)), some (.int k), some (.fl (natD (way rs k))), some (.int (take1 rs P k)), w1] (G ++ [.lst (tab rs.length (fset T k (take1 rs P k))), .lst (tab rs.length (subW P (way rs k) (take1 rs P k)))]) := by
      unfold l_shares_3
      have ht1 : min (col Row.need rs k) (wmin P (way rs k)) = take1 rs P k := rfl
      simp [c_way_ok hR hl hk, hfw, row_at hk, hcomp, mkLst, hwn, hfr, hmin, ht1, hp_get0, hp_set0, ixN_nat, hk, tab_set, hsub]
    show forP _ _ (.int k :: natD ks) _ _ = _
    rw [forP_cons]
    simp only [ev_gV, R.toS_ok, List.set, hb, aft_nx]
    exact ih
theorem c_shares_ok {rs : List Row} (hR : Reach rs) (hl : rs.length ≤ 40) (G : DH) : c_shares [.fl (rs.map Row.enc)] G = .ok (.ref G.length) (G ++ [.lst (tab rs.length (shr rs))]) := by
  have hz : List.replicate rs.length (D.int 0) = tab rs.length fun _ => 0 := by
    unfold tab
    refine List.ext_getElem (by simp) fun i h1 h2 => by simp
  have hrep : opRep (.ref G.length) (.int (rs.length : Int)) (G ++ [.lst [.int 0]]) = .ok (.ref (G.length + 1)) (G ++ [.lst [.int 0], .lst (tab rs.length fun _ => 0)]) := by
    rw [ev_rep1 (d := .int 0) (by rw [hp_get0]; rfl) (by omega), hz]
    simp
  have ht1 : tidy G (.ok (.ref (G.length + 1)) (G ++ [.lst [.int 0], .lst (tab rs.length fun _ => 0)])) = .ok (.ref G.length) (G ++ [.lst (tab rs.length fun _ => 0)]) := tidy_new _ (k := 1) rfl bels_tab
  have hp : c_passed [.fl (rs.map Row.enc), .ref G.length] (G ++ [.lst (tab rs.length fun _ => 0)]) = .ok (.ref (G.length + 1)) (G ++ [.lst (tab rs.length fun _ => 0), .lst (tab rs.length (gath rs (col Row.water rs)))]) := by
    rw [c_passed_ok hR hl (T := fun _ => 0) (seqOf_ref (by rw [hp_get0]; rfl))]
    simp
  have ht2 : tidy (G ++ [.lst (tab rs.length fun _ => 0)]) (.ok (.ref (G.length + 1)) (G ++ [.lst (tab rs.length fun _ => 0), .lst (tab rs.length (gath rs (col Row.water rs)))])) = .ok (.ref (G.length + 1)) (G ++ [.lst (tab rs.length fun _ => 0), .lst (tab rs.length (gath rs (col Row.water rs)))]) := tidy_new1 bels_tab
  have hfs : freeze (G ++ [.lst (tab rs.length fun _ => 0), .lst (tab rs.length (gath rs (col Row.water rs)))]) (.ok (.ref (G.length + 2)) (G ++ [.lst (tab rs.length fun _ => 0), .lst (tab rs.length (gath rs (col Row.water rs))), .lst (natD (ord rs))])) = .ok (.fl (natD (ord rs))) (G ++ [.lst (tab rs.length fun _ => 0), .lst (tab rs.length (gath rs (col Row.water rs)))]) := freeze_new2 bels_natD
  obtain ⟨x', y', z', w', hL⟩ := shares_loop hR hl (G := G) (ord rs) (gath rs (col Row.water rs)) (fun _ => 0) none none none none fun k hk => ord_lt hk
  have hfin : ∀ A, tidy G (.ok (.ref G.length) (G ++ [.lst (tab rs.length (shr rs)), A])) = .ok (.ref G.length) (G ++ [.lst (tab rs.length (shr rs))]) := fun A => tidy_new0 bels_tab
  have hL' : forP (gV 3) l_shares_3 (natD (ord rs)) [some (.fl (rs.map Row.enc)), some (.ref G.length), some (.ref (G.length + 1)), none, none, none, none] (G ++ [.lst (tab rs.length fun _ => 0), .lst (tab rs.length (gath rs (col Row.water rs)))]) =
      .nx [some (.fl (rs.map Row.enc)), some (.ref G.length), some (.ref (G.length + 1)), x', y', z', w'] (G ++ [.lst (tab rs.length (shr rs)), .lst (tab rs.length (srv rs (ord rs) (gath rs (col Row.water rs)) fun _ => 0).1)]) := hL
  unfold c_shares b_shares
  rw [ev_run]
  simp [mkLst, hrep, ht1, hp, ht2, c_served_ok hl, hfs, hL', hfin]
/-! what is taken is missing along the way, and nowhere else -/
def ind (t : Int) (ws : List Nat) : Nat → Int := fun i => if i ∈ ws then t else 0
theorem gat_carry {rs : List Row} (hR : Reach rs) {k : Nat} {t : Int} : ∀ (m j : Nat) (A : Nat → Int), k < j → gat rs m j (fun i => A i + ind t [k] i) = fun i => gat rs m j A i + ind t [k] i
  | 0, j, A, h => rfl
  | m + 1, j, A, h => by
    unfold gat
    have e : gstep (fun i => A i + ind t [k] i) j (dnOf rs j) = fun i => gstep A j (dnOf rs j) i + ind t [k] i := by
      cases hd : dnOf rs j with
      | none => rfl
      | some d =>
        have := dnOf_lt hR hd
        funext i
        simp only [gstep, fset, ind, List.mem_singleton]
        have h1 : j ≠ k := by omega
        have h2 : d ≠ k := by omega
        by_cases hi : i = d
        · subst hi; simp [h1, h2]
        · simp [hi]
    rw [e, gat_carry hR m (j + 1) _ (by omega)]
theorem gat_unit {rs : List Row} (hR : Reach rs) {t : Int} : ∀ (m j k : Nat) (A : Nat → Int), j + m = rs.length → j ≤ k → k < rs.length → gat rs m j (fun i => A i + ind t [k] i) = fun i => gat rs m j A i + ind t (way rs k) i
  | 0, j, k, A, h, h1, h2 => by omega
  | m + 1, j, k, A, h, h1, h2 => by
    unfold gat
    by_cases hjk : j < k
    · have e : gstep (fun i => A i + ind t [k] i) j (dnOf rs j) = fun i => gstep A j (dnOf rs j) i + ind t [k] i := by
        cases hd : dnOf rs j with
        | none => rfl
        | some d =>
          funext i
          simp only [gstep, fset, ind, List.mem_singleton]
          have h3 : j ≠ k := by omega
          by_cases hi : i = d
          · subst hi; simp [h3]; split <;> omega
          · simp [hi]
      rw [e, gat_unit hR m (j + 1) k _ (by omega) (by omega) h2]
    · have ej : j = k := by omega
      subst ej
      cases hd : dnOf rs j with
      | none =>
        have hw : way rs j = [j] := by rw [way_eq hR, hd]; rfl
        show gat rs m (j + 1) (fun i => A i + ind t [j] i) = _
        rw [gat_carry hR m (j + 1) A (by omega), hw]
        rfl
      | some d =>
        have hlt := dnOf_lt hR hd
        have hw : way rs j = j :: way rs d := by rw [way_eq hR, hd]; rfl
        have e : gstep (fun i => A i + ind t [j] i) j (some d) = fun i => (gstep A j (some d) i + ind t [d] i) + ind t [j] i := by
          funext i
          simp only [gstep, fset, ind, List.mem_singleton]
          have h3 : d ≠ j := by omega
          by_cases hi : i = d
          · subst hi; simp [h3]; omega
          · simp [hi]
        rw [e, gat_carry hR m (j + 1) _ (by omega), gat_unit hR m (j + 1) d _ (by omega) (by omega) hlt.2]
        funext i
        have hnj : j ∉ way rs d := fun hm => by have := way_mem hR hlt.2 hm; omega
        simp only [ind, hw, List.mem_cons, List.mem_singleton]
        by_cases hi : i = j
        · subst hi; simp [hnj]
        · simp [hi]
theorem gath_take {rs : List Row} (hR : Reach rs) {W T : Nat → Int} {k : Nat} {t : Int} (hk : k < rs.length) (h0 : T k = 0) : gath rs (fun i => W i - fset T k t i) = subW (gath rs fun i => W i - T i) (way rs k) t := by
  have e : (fun i => W i - fset T k t i) = fun i => (W i - T i) + ind (-t) [k] i := by
    funext i
    simp only [fset, ind, List.mem_singleton]
    by_cases hi : i = k
    · subst hi; simp [h0]; omega
    · simp [hi]
  rw [e]
  show gat rs rs.length 0 _ = _
  rw [gat_unit hR rs.length 0 k _ (by omega) (by omega) hk]
  funext i
  simp only [ind, subW, gath]
  split <;> omega
theorem gat_nn {rs : List Row} : ∀ (m k : Nat) (F : Nat → Int), (∀ i, 0 ≤ F i) → ∀ i, 0 ≤ gat rs m k F i
  | 0, k, F, h, i => h i
  | m + 1, k, F, h, i => by
    refine gat_nn m (k + 1) _ (fun j => ?_) i
    cases dnOf rs k with
    | none => exact h j
    | some d =>
      simp only [gstep, fset]
      have := h d; have := h k; have := h j
      split <;> omega
/-- what holds while rows are served -/
structure SI (rs : List Row) (P T : Nat → Int) : Prop where
  pg : P = gath rs fun i => col Row.water rs i - T i
  t0 : ∀ i, 0 ≤ T i
  tn : ∀ i, T i ≤ col Row.need rs i
  p0 : ∀ i, i < rs.length → 0 ≤ P i
theorem wmin_nn {P : Nat → Int} {ws : List Nat} (h : ∀ b ∈ ws, 0 ≤ P b) : 0 ≤ wmin P ws := by
  cases ws with
  | nil => exact Int.le_refl _
  | cons k r =>
    obtain ⟨b, hb, e⟩ := wmin_mem (P := P) (ws := k :: r) (by simp)
    rw [e]; exact h b hb
theorem SI.take {rs : List Row} (hR : Reach rs) {P T : Nat → Int} (s : SI rs P T) {k : Nat} (hk : k < rs.length) : 0 ≤ take1 rs P k ∧ take1 rs P k ≤ col Row.need rs k ∧ ∀ b ∈ way rs k, take1 rs P k ≤ P b := by
  have h1 : 0 ≤ wmin P (way rs k) := wmin_nn fun b hb => s.p0 b (way_mem hR hk hb).2
  have h2 := hR.need k
  unfold take1
  refine ⟨by omega, by omega, fun b hb => ?_⟩
  have := wmin_le (P := P) hb
  omega
theorem SI.step {rs : List Row} (hR : Reach rs) {P T : Nat → Int} (s : SI rs P T) {k : Nat} (hk : k < rs.length) (h0 : T k = 0) : SI rs (subW P (way rs k) (take1 rs P k)) (fset T k (take1 rs P k)) := by
  obtain ⟨a, b, c⟩ := s.take hR hk
  refine ⟨?_, fun i => ?_, fun i => ?_, fun i hi => ?_⟩
  · rw [gath_take hR hk h0, ← s.pg]
  · simp only [fset]; split
    · exact a
    · exact s.t0 i
  · simp only [fset]; split
    · rename_i e; rw [e]; exact b
    · exact s.tn i
  · simp only [subW]; split
    · rename_i hm
      have := c i hm
      omega
    · exact s.p0 i hi
theorem SI.run {rs : List Row} (hR : Reach rs) : ∀ (ks : List Nat) (P T : Nat → Int), SI rs P T → ks.Nodup → (∀ k ∈ ks, k < rs.length ∧ T k = 0) → SI rs (srv rs ks P T).1 (srv rs ks P T).2
  | [], P, T, s, _, _ => s
  | k :: ks, P, T, s, nd, h => by
    obtain ⟨n1, n2⟩ := List.nodup_cons.mp nd
    obtain ⟨hk, h0⟩ := h k List.mem_cons_self
    refine SI.run hR ks _ _ (s.step hR hk h0) n2 fun j hj => ?_
    obtain ⟨hj1, hj2⟩ := h j (List.mem_cons_of_mem _ hj)
    have : j ≠ k := fun e => n1 (e ▸ hj)
    exact ⟨hj1, by simp [fset, this, hj2]⟩
theorem ord_nodup (rs : List Row) : (ord rs).Nodup := (ord_perm rs).nodup_iff.mpr List.nodup_range
theorem SI.first {rs : List Row} (hR : Reach rs) : SI rs (gath rs (col Row.water rs)) fun _ => 0 :=
  ⟨by simp, fun _ => Int.le_refl _, hR.need, fun i _ => gat_nn _ _ _ hR.water i⟩
/-- shares are possible -/
theorem shr_ok {rs : List Row} (hR : Reach rs) : SI rs (srv rs (ord rs) (gath rs (col Row.water rs)) fun _ => 0).1 (shr rs) :=
  SI.run hR (ord rs) _ _ (SI.first hR) (ord_nodup rs) fun k hk => ⟨ord_lt hk, rfl⟩
/-! each by its rank -/
theorem srv_not {rs : List Row} {j : Nat} : ∀ (ks : List Nat) (P T : Nat → Int), j ∉ ks → (srv rs ks P T).2 j = T j
  | [], P, T, h => rfl
  | k :: ks, P, T, h => by
    simp only [List.mem_cons, not_or] at h
    show (srv rs ks _ _).2 j = _
    rw [srv_not ks _ _ h.2]
    simp [fset, h.1]
/-! reaches alike in rivers and ranks -/
structure SameR (rs rs' : List Row) : Prop where
  len : rs'.length = rs.length
  dn : ∀ k, dnOf rs' k = dnOf rs k
  rk : ∀ k, col Row.rank rs' k = col Row.rank rs k
theorem wayF_same {rs rs' : List Row} (h : SameR rs rs') : ∀ (m k : Nat), wayF rs' m k = wayF rs m k
  | 0, k => rfl
  | m + 1, k => by
    show k :: _ = k :: _
    rw [h.dn k]
    cases dnOf rs k with
    | none => rfl
    | some d => show k :: wayF rs' m d = k :: wayF rs m d; rw [wayF_same h m d]
theorem SameR.way {rs rs' : List Row} (h : SameR rs rs') (k : Nat) : way rs' k = way rs k := by
  unfold Law.way
  rw [h.len, wayF_same h]
theorem SameR.ltK {rs rs' : List Row} (h : SameR rs rs') : ltK rs' = ltK rs := by
  funext i j
  unfold Law.ltK
  rw [h.rk, h.rk]
theorem SameR.ord {rs rs' : List Row} (h : SameR rs rs') : ord rs' = ord rs := by
  unfold Law.ord
  rw [h.len, h.ltK]
theorem SameR.gat {rs rs' : List Row} (h : SameR rs rs') : ∀ (m k : Nat) (F : Nat → Int), gat rs' m k F = gat rs m k F
  | 0, k, F => rfl
  | m + 1, k, F => by
    show Law.gat rs' m (k + 1) (gstep F k (dnOf rs' k)) = Law.gat rs m (k + 1) (gstep F k (dnOf rs k))
    rw [h.dn k, SameR.gat h]
theorem SameR.gath {rs rs' : List Row} (h : SameR rs rs') (F : Nat → Int) : gath rs' F = gath rs F := by
  show Law.gat rs' rs'.length 0 F = _
  rw [h.len, h.gat]
theorem srv_same {rs rs' : List Row} (h : SameR rs rs') : ∀ (ks : List Nat) (P T : Nat → Int), (∀ k ∈ ks, col Row.need rs' k = col Row.need rs k) → srv rs' ks P T = srv rs ks P T
  | [], P, T, _ => rfl
  | k :: ks, P, T, hn => by
    have e : take1 rs' P k = take1 rs P k := by
      unfold take1
      rw [hn k List.mem_cons_self, h.way]
    show srv rs' ks (subW P (way rs' k) (take1 rs' P k)) (fset T k (take1 rs' P k)) = _
    rw [e, h.way, srv_same h ks _ _ fun j hj => hn j (List.mem_cons_of_mem _ hj)]
    rfl
/-- a reach with other waters and needs -/
def remk (rs : List Row) (w v : Nat → Int) : List Row := (List.range rs.length).map fun k => ⟨dnOf rs k, w k, v k, col Row.rank rs k⟩
theorem remk_len {rs : List Row} {w v : Nat → Int} : (remk rs w v).length = rs.length := by simp [remk]
theorem remk_get {rs : List Row} {w v : Nat → Int} {k : Nat} (h : k < rs.length) : (remk rs w v)[k]? = some ⟨dnOf rs k, w k, v k, col Row.rank rs k⟩ := by
  unfold remk
  rw [List.getElem?_map, List.getElem?_range h]; rfl
theorem remk_out {rs : List Row} {w v : Nat → Int} {k : Nat} (h : ¬ k < rs.length) : (remk rs w v)[k]? = none := List.getElem?_eq_none (by rw [remk_len]; omega)
theorem col_out {g : Row → Int} {rs : List Row} {k : Nat} (h : ¬ k < rs.length) : col g rs k = 0 := by
  unfold col
  rw [List.getElem?_eq_none (by omega)]
theorem remk_same {rs : List Row} {w v : Nat → Int} : SameR rs (remk rs w v) where
  len := remk_len
  dn := fun k => by
    by_cases h : k < rs.length
    · unfold dnOf
      rw [remk_get h]; rfl
    · rw [dnOf_none h, dnOf_none (by rw [remk_len]; exact h)]
  rk := fun k => by
    by_cases h : k < rs.length
    · conv => lhs; unfold col
      rw [remk_get h]
    · rw [col_out h, col_out (by rw [remk_len]; exact h)]
theorem remk_water {rs : List Row} {w v : Nat → Int} {k : Nat} (h : k < rs.length) : col Row.water (remk rs w v) k = w k := by
  unfold col
  rw [remk_get h]
theorem remk_need {rs : List Row} {w v : Nat → Int} {k : Nat} (h : k < rs.length) : col Row.need (remk rs w v) k = v k := by
  unfold col
  rw [remk_get h]
theorem remk_reach {rs : List Row} (hR : Reach rs) {w v : Nat → Int} (hw : ∀ k, k < rs.length → 0 ≤ w k) (hv : ∀ k, k < rs.length → 0 ≤ v k) : Reach (remk rs w v) := fun k r hr => by
  by_cases h : k < rs.length
  · rw [remk_get h] at hr
    cases hr
    rw [remk_len]
    refine ⟨fun d hd => dnOf_lt hR hd, hw k h, hv k h, ?_⟩
    show 0 ≤ col Row.rank rs k
    unfold col
    rw [List.getElem?_eq_getElem h]
    exact (hR k _ (List.getElem?_eq_getElem h)).r0
  · rw [remk_out h] at hr; cases hr
theorem okD_rows {rs : List Row} : okD 30 (.fl (rs.map Row.enc)) = true := okD_fl (n := 29) fun d hd => by
  obtain ⟨r, _, rfl⟩ := List.mem_map.mp hd
  unfold Row.enc
  refine okD_tup (n := 28) fun d hd => ?_
  have : ∀ o : Option Nat, okD 28 (dnD o) = true := fun o => by cases o <;> rfl
  simp only [List.mem_cons, List.not_mem_nil, or_false] at hd
  rcases hd with rfl | rfl | rfl | rfl
  · exact this _
  · rfl
  · rfl
  · rfl
/-! more water never harms -/
theorem way_sub {rs : List Row} (hR : Reach rs) : ∀ (m k : Nat), rs.length ≤ m + k → ∀ b ∈ way rs k, ∀ c ∈ way rs b, c ∈ way rs k
  | 0, k, h, b, hb, c, hc => by
    rw [way_eq hR, dnOf_none (by omega)] at hb
    have e : b = k := by simpa [wayO] using hb
    rw [e] at hc; exact hc
  | m + 1, k, h, b, hb, c, hc => by
    rw [way_eq hR] at hb ⊢
    rcases List.mem_cons.mp hb with rfl | hb
    · rw [way_eq hR] at hc; exact hc
    · cases hd : dnOf rs k with
      | none => rw [hd] at hb; cases hb
      | some d =>
        rw [hd] at hb
        have := dnOf_lt hR hd
        exact List.mem_cons_of_mem _ (way_sub hR m d (by omega) b hb c hc)
theorem way_tr {rs : List Row} (hR : Reach rs) {k b c : Nat} (hb : b ∈ way rs k) (hc : c ∈ way rs b) : c ∈ way rs k := way_sub hR rs.length k (by omega) b hb c hc
theorem way_line {rs : List Row} (hR : Reach rs) : ∀ (m k : Nat), rs.length ≤ m + k → ∀ b ∈ way rs k, ∀ c ∈ way rs k, c ∈ way rs b ∨ b ∈ way rs c
  | 0, k, h, b, hb, c, hc => by
    rw [way_eq hR, dnOf_none (by omega)] at hb hc
    have e : b = k := by simpa [wayO] using hb
    have e2 : c = k := by simpa [wayO] using hc
    subst e; subst e2
    exact .inl (way_self hR _)
  | m + 1, k, h, b, hb, c, hc => by
    have hb0 := hb
    have hc0 := hc
    rw [way_eq hR] at hb hc
    rcases List.mem_cons.mp hb with rfl | hb
    · exact .inl hc0
    · rcases List.mem_cons.mp hc with rfl | hc
      · exact .inr hb0
      · cases hd : dnOf rs k with
        | none => rw [hd] at hb; cases hb
        | some d =>
          rw [hd] at hb hc
          have := dnOf_lt hR hd
          exact way_line hR m d (by omega) b hb c hc
theorem way_two {rs : List Row} (hR : Reach rs) {k b c : Nat} (hb : b ∈ way rs k) (hc : c ∈ way rs k) : c ∈ way rs b ∨ b ∈ way rs c := way_line hR rs.length k (by omega) b hb c hc
theorem way_root {rs : List Row} (hR : Reach rs) {k : Nat} (h : dnOf rs k = none) : way rs k = [k] := by rw [way_eq hR, h]; rfl
/-- one cube more along way one: either it is still there, or one row has it, and its place is dry -/
def MW (rs : List Row) (one : Nat) (ks : List Nat) (A B : (Nat → Int) × (Nat → Int)) : Prop :=
  ((∀ i, B.1 i = A.1 i + ind 1 (way rs one) i) ∧ ∀ i, B.2 i = A.2 i) ∨
  ∃ k c, k ∉ ks ∧ (∀ i, B.1 i = A.1 i + ind 1 (way rs one) i - ind 1 (way rs k) i) ∧ (∀ i, B.2 i = A.2 i + ind 1 [k] i) ∧ c ∈ way rs one ∧ c ∈ way rs k ∧ c < rs.length ∧ A.1 c = 0
theorem take_nn {rs : List Row} (hR : Reach rs) {P : Nat → Int} (p0 : ∀ i, i < rs.length → 0 ≤ P i) {k : Nat} (hk : k < rs.length) : 0 ≤ take1 rs P k ∧ ∀ b ∈ way rs k, take1 rs P k ≤ P b := by
  have h1 : 0 ≤ wmin P (way rs k) := wmin_nn fun b hb => p0 b (way_mem hR hk hb).2
  have h2 := hR.need k
  unfold take1
  refine ⟨by omega, fun b hb => ?_⟩
  have := wmin_le (P := P) hb
  omega
theorem sub_nn {rs : List Row} (hR : Reach rs) {P : Nat → Int} (p0 : ∀ i, i < rs.length → 0 ≤ P i) {k : Nat} (hk : k < rs.length) : ∀ i, i < rs.length → 0 ≤ subW P (way rs k) (take1 rs P k) i := fun i hi => by
  obtain ⟨_, h⟩ := take_nn hR p0 hk
  simp only [subW]
  split
  · rename_i hm; have := h i hm; omega
  · exact p0 i hi
theorem ind_le {t : Int} {ws : List Nat} {i : Nat} (ht : 0 ≤ t) : 0 ≤ ind t ws i ∧ ind t ws i ≤ t := by
  unfold ind
  split <;> omega
theorem mw_step {rs : List Row} (hR : Reach rs) {one : Nat} : ∀ (ks : List Nat) (P T P' T' : Nat → Int), ks.Nodup → (∀ k ∈ ks, k < rs.length) → (∀ i, i < rs.length → 0 ≤ P i) → (∀ i, i < rs.length → 0 ≤ P' i) → MW rs one ks (P, T) (P', T') → MW rs one [] (srv rs ks P T) (srv rs ks P' T')
  | [], P, T, P', T', _, _, _, _, h => h
  | k :: ks, P, T, P', T', nd, hks, p0, p0', h => by
    obtain ⟨n1, n2⟩ := List.nodup_cons.mp nd
    have hk := hks k List.mem_cons_self
    refine mw_step hR ks _ _ _ _ n2 (fun j hj => hks j (List.mem_cons_of_mem _ hj)) (sub_nn hR p0 hk) (sub_nn hR p0' hk) ?_
    have wne : way rs k ≠ [] := by rw [way_eq hR]; simp
    rcases h with ⟨hP, hT⟩ | ⟨q, c, hq, hP, hT, c1, c2, cn, c0⟩
    · simp only at hP hT
      obtain ⟨b, hb, eb⟩ := wmin_mem (P := P) wne
      obtain ⟨b', hb', eb'⟩ := wmin_mem (P := P') wne
      have h1 := wmin_le (P := P') hb
      have h2 := wmin_le (P := P) hb'
      rw [hP] at h1 eb'
      have i1 := ind_le (t := 1) (ws := way rs one) (i := b) (by decide)
      have i2 := ind_le (t := 1) (ws := way rs one) (i := b') (by decide)
      by_cases ht : take1 rs P' k = take1 rs P k
      · refine .inl ⟨fun i => ?_, fun i => ?_⟩
        · show subW P' (way rs k) (take1 rs P' k) i = subW P (way rs k) (take1 rs P k) i + _
          rw [ht]
          simp only [subW, hP]
          split <;> omega
        · show fset T' k (take1 rs P' k) i = fset T k (take1 rs P k) i
          rw [ht]
          simp only [fset, hT]
      · have e1 : take1 rs P' k = take1 rs P k + 1 := by
          unfold take1 at ht ⊢
          omega
        have e2 : take1 rs P k = P b := by
          unfold take1 at e1 ⊢
          omega
        have hbR : b ∈ way rs one := by
          apply Classical.byContradiction
          intro hn
          have : ind 1 (way rs one) b = 0 := if_neg hn
          unfold take1 at e1
          omega
        refine .inr ⟨k, b, n1, fun i => ?_, fun i => ?_, hbR, hb, (way_mem hR hk hb).2, ?_⟩
        · show subW P' (way rs k) (take1 rs P' k) i = subW P (way rs k) (take1 rs P k) i + ind 1 (way rs one) i - ind 1 (way rs k) i
          rw [e1]
          simp only [subW, hP]
          by_cases hi : i ∈ way rs k
          · have : ind 1 (way rs k) i = 1 := if_pos hi
            rw [if_pos hi, if_pos hi]; omega
          · have : ind 1 (way rs k) i = 0 := if_neg hi
            rw [if_neg hi, if_neg hi]; omega
        · show fset T' k (take1 rs P' k) i = fset T k (take1 rs P k) i + ind 1 [k] i
          rw [e1]
          simp only [fset, hT, ind, List.mem_singleton]
          split <;> omega
        · show subW P (way rs k) (take1 rs P k) b = 0
          simp only [subW, hb, if_true]
          omega
    · simp only at hP hT c0
      simp only [List.mem_cons, not_or] at hq
      have hne : k ≠ q := fun e => hq.1 e.symm
      have c0' : P' c = 0 := by
        rw [hP]
        have e1 : ind 1 (way rs one) c = 1 := if_pos c1
        have e2 : ind 1 (way rs q) c = 1 := if_pos c2
        omega
      have ht : take1 rs P' k = take1 rs P k ∧ (c ∈ way rs k → take1 rs P k = 0) := by
        by_cases hc : c ∈ way rs k
        · obtain ⟨a1, a2⟩ := take_nn hR p0 hk
          obtain ⟨a3, a4⟩ := take_nn hR p0' hk
          have := a2 c hc
          have := a4 c hc
          exact ⟨by omega, fun _ => by omega⟩
        · refine ⟨?_, fun h => absurd h hc⟩
          unfold take1
          rw [wmin_congr (P := P') (Q := P) fun b hb => ?_]
          rw [hP]
          have : ind 1 (way rs one) b = ind 1 (way rs q) b := by
            unfold ind
            by_cases b1 : b ∈ way rs one
            · by_cases b2 : b ∈ way rs q
              · rw [if_pos b1, if_pos b2]
              · exfalso
                rcases way_two hR b1 c1 with z | z
                · exact hc (way_tr hR hb z)
                · exact b2 (way_tr hR c2 z)
            · by_cases b2 : b ∈ way rs q
              · exfalso
                rcases way_two hR b2 c2 with z | z
                · exact hc (way_tr hR hb z)
                · exact b1 (way_tr hR c1 z)
              · rw [if_neg b1, if_neg b2]
          omega
      obtain ⟨ht, h0⟩ := ht
      refine .inr ⟨q, c, hq.2, fun i => ?_, fun i => ?_, c1, c2, cn, ?_⟩
      · show subW P' (way rs k) (take1 rs P' k) i = subW P (way rs k) (take1 rs P k) i + ind 1 (way rs one) i - ind 1 (way rs q) i
        rw [ht]
        simp only [subW, hP]
        split <;> omega
      · show fset T' k (take1 rs P' k) i = fset T k (take1 rs P k) i + ind 1 [q] i
        rw [ht]
        simp only [fset, hT]
        split
        · rename_i e
          have : ind 1 [q] i = 0 := if_neg (by rw [e]; simpa using hne)
          omega
        · rfl
      · show subW P (way rs k) (take1 rs P k) c = 0
        simp only [subW]
        split
        · rename_i hm; rw [h0 hm]; omega
        · exact c0
/-- what is served and left, by waters -/
def Sh (rs : List Row) (W : Nat → Int) : (Nat → Int) × (Nat → Int) := srv rs (ord rs) (gath rs W) fun _ => 0
def LeS (rs : List Row) (A B : (Nat → Int) × (Nat → Int)) : Prop := (∀ i, A.2 i ≤ B.2 i) ∧ ∀ i, dnOf rs i = none → A.1 i ≤ B.1 i
theorem one_more {rs : List Row} (hR : Reach rs) {W : Nat → Int} (hW : ∀ i, 0 ≤ W i) {k : Nat} (hk : k < rs.length) : MW rs k [] (Sh rs W) (Sh rs fun i => W i + ind 1 [k] i) := by
  have e : gath rs (fun i => W i + ind 1 [k] i) = fun i => gath rs W i + ind 1 (way rs k) i := gat_unit hR rs.length 0 k W (by omega) (by omega) hk
  unfold Sh
  rw [e]
  have h0 := fun i => gat_nn (rs := rs) rs.length 0 W hW i
  exact mw_step hR (ord rs) _ _ _ _ (ord_nodup rs) (fun j hj => ord_lt hj) (fun i _ => h0 i) (fun i _ => by
    have := ind_le (t := 1) (ws := way rs k) (i := i) (by decide)
    have := h0 i
    show 0 ≤ gat rs rs.length 0 W i + ind 1 (way rs k) i
    omega) (.inl ⟨fun i => rfl, fun i => rfl⟩)
theorem MW.le {rs : List Row} (hR : Reach rs) {one : Nat} {A B : (Nat → Int) × (Nat → Int)} (h : MW rs one [] A B) : LeS rs A B := by
  rcases h with ⟨hP, hT⟩ | ⟨q, c, _, hP, hT, c1, c2, cn, c0⟩
  · refine ⟨fun i => by rw [hT]; exact Int.le_refl _, fun i _ => ?_⟩
    have := ind_le (t := 1) (ws := way rs one) (i := i) (by decide)
    rw [hP]; omega
  · refine ⟨fun i => ?_, fun i hi => ?_⟩
    · have := ind_le (t := 1) (ws := [q]) (i := i) (by decide)
      rw [hT]; omega
    · rw [hP]
      by_cases hm : i ∈ way rs q
      · have hm2 : i ∈ way rs one := by
          rcases way_two hR hm c2 with z | z
          · rw [way_root hR hi] at z
            have e : c = i := by simpa using z
            rw [← e]; exact c1
          · exact way_tr hR c1 z
        have e1 : ind 1 (way rs one) i = 1 := if_pos hm2
        have e2 : ind 1 (way rs q) i = 1 := if_pos hm
        omega
      · have e2 : ind 1 (way rs q) i = 0 := if_neg hm
        have := ind_le (t := 1) (ws := way rs one) (i := i) (by decide)
        omega
/-- and by no more than one -/
theorem MW.one {rs : List Row} (hR : Reach rs) {one : Nat} {A B : (Nat → Int) × (Nat → Int)} (h : MW rs one [] A B) : (∃ r, ∀ i, B.2 i ≤ A.2 i + ind 1 [r] i) ∧ ∃ r, ∀ i, dnOf rs i = none → B.1 i ≤ A.1 i + ind 1 [r] i := by
  have h1 : ∃ r, ∀ i, dnOf rs i = none → ind 1 (way rs one) i ≤ ind 1 [r] i := by
    by_cases hx : ∃ r, dnOf rs r = none ∧ r ∈ way rs one
    · obtain ⟨r, hr, hm⟩ := hx
      refine ⟨r, fun i hi => ?_⟩
      by_cases e : i = r
      · have e1 : ind 1 [r] i = 1 := if_pos (by simpa using e)
        have := ind_le (t := 1) (ws := way rs one) (i := i) (by decide)
        omega
      · by_cases hi2 : i ∈ way rs one
        · exfalso
          rcases way_two hR hm hi2 with z | z
          · rw [way_root hR hr] at z; exact e (by simpa using z)
          · rw [way_root hR hi] at z; exact e (List.mem_singleton.mp z).symm
        · have e1 : ind 1 (way rs one) i = 0 := if_neg hi2
          have := ind_le (t := 1) (ws := [r]) (i := i) (by decide)
          omega
    · refine ⟨0, fun i hi => ?_⟩
      have e1 : ind 1 (way rs one) i = 0 := if_neg fun z => hx ⟨i, hi, z⟩
      have := ind_le (t := 1) (ws := [0]) (i := i) (by decide)
      omega
  obtain ⟨r, hr⟩ := h1
  rcases h with ⟨hP, hT⟩ | ⟨q, c, _, hP, hT, c1, c2, cn, c0⟩
  · refine ⟨⟨0, fun i => ?_⟩, r, fun i hi => ?_⟩
    · have := ind_le (t := 1) (ws := [0]) (i := i) (by decide)
      rw [hT]; omega
    · have := hr i hi
      rw [hP]; omega
  · refine ⟨⟨q, fun i => by rw [hT]; exact Int.le_refl _⟩, r, fun i hi => ?_⟩
    have := hr i hi
    have := ind_le (t := 1) (ws := way rs q) (i := i) (by decide)
    rw [hP]; omega
theorem LeS.trans {rs : List Row} {A B C : (Nat → Int) × (Nat → Int)} (h1 : LeS rs A B) (h2 : LeS rs B C) : LeS rs A C := ⟨fun i => Int.le_trans (h1.1 i) (h2.1 i), fun i hi => Int.le_trans (h1.2 i hi) (h2.2 i hi)⟩
theorem LeS.refl {rs : List Row} {A : (Nat → Int) × (Nat → Int)} : LeS rs A A := ⟨fun _ => Int.le_refl _, fun _ _ => Int.le_refl _⟩
theorem more_at {rs : List Row} (hR : Reach rs) {k : Nat} (hk : k < rs.length) : ∀ (m : Nat) (W : Nat → Int), (∀ i, 0 ≤ W i) → LeS rs (Sh rs W) (Sh rs fun i => W i + ind (m : Int) [k] i)
  | 0, W, hW => by
    have e : (fun i => W i + ind ((0 : Nat) : Int) [k] i) = W := by
      funext i
      unfold ind
      split <;> simp
    rw [e]; exact .refl
  | m + 1, W, hW => by
    have h1 := more_at hR hk m W hW
    have h2 := (one_more hR (W := fun i => W i + ind (m : Int) [k] i) (fun i => by
      have := ind_le (t := (m : Int)) (ws := [k]) (i := i) (by omega)
      have := hW i
      show 0 ≤ W i + ind (m : Int) [k] i
      omega) hk).le hR
    have e : (fun i => (W i + ind (m : Int) [k] i) + ind 1 [k] i) = fun i => W i + ind ((m + 1 : Nat) : Int) [k] i := by
      funext i
      unfold ind
      split <;> omega
    rw [e] at h2
    exact h1.trans h2
theorem more_upto {rs : List Row} (hR : Reach rs) {W W' : Nat → Int} (hW : ∀ i, 0 ≤ W i) (hle : ∀ i, W i ≤ W' i) : ∀ j, j ≤ rs.length → LeS rs (Sh rs W) (Sh rs fun i => if i < j then W' i else W i)
  | 0, _ => by simp only [Nat.not_lt_zero, if_false]; exact .refl
  | j + 1, h => by
    have h1 := more_upto hR hW hle j (by omega)
    have h2 := more_at hR (k := j) (by omega) (W' j - W j).toNat (fun i => if i < j then W' i else W i) fun i => by
      have := hW i
      have := hle i
      show 0 ≤ if i < j then W' i else W i
      split <;> omega
    have e : (fun i => (if i < j then W' i else W i) + ind ((W' j - W j).toNat : Int) [j] i) = fun i => if i < j + 1 then W' i else W i := by
      funext i
      simp only [ind, List.mem_singleton]
      by_cases e1 : i = j
      · subst e1
        have := hle i
        simp
        omega
      · by_cases e2 : i < j
        · have e3 : i < j + 1 := by omega
          simp [e1, e2, e3]
        · have e3 : ¬ i < j + 1 := by omega
          simp [e1, e2, e3]
    rw [e] at h2
    exact h1.trans h2
theorem more_water {rs : List Row} (hR : Reach rs) {W W' : Nat → Int} (hW : ∀ i, 0 ≤ W i) (hle : ∀ i, W i ≤ W' i) (ho : ∀ i, ¬ i < rs.length → W' i = W i) : LeS rs (Sh rs W) (Sh rs W') := by
  have h := more_upto hR hW hle rs.length (Nat.le_refl _)
  have e : (fun i => if i < rs.length then W' i else W i) = W' := by
    funext i
    split
    · rfl
    · rename_i hi; exact (ho i hi).symm
  rw [e] at h; exact h
theorem sh_same {rs rs' : List Row} (hS : SameR rs rs') (hn : ∀ k, col Row.need rs' k = col Row.need rs k) : srv rs' (ord rs') (gath rs' (col Row.water rs')) (fun _ => 0) = Sh rs (col Row.water rs') := by
  unfold Sh
  rw [hS.ord, hS.gath, srv_same hS _ _ _ fun k _ => hn k]
theorem sh_shr {rs rs' : List Row} (hS : SameR rs rs') (hn : ∀ k, col Row.need rs' k = col Row.need rs k) : shr rs' = (Sh rs (col Row.water rs')).2 := by
  unfold shr
  rw [sh_same hS hn]
theorem sh_left {rs rs' : List Row} (hR : Reach rs') (hS : SameR rs rs') (hn : ∀ k, col Row.need rs' k = col Row.need rs k) : gath rs' (fun i => col Row.water rs' i - shr rs' i) = (Sh rs (col Row.water rs')).1 := by
  rw [← (shr_ok hR).pg, sh_same hS hn]
/-- _law_grown -/
theorem grown_loop {n : Nat} {F F' : Nat → Int} {G : DH} (h : ∀ i, i < n → F i ≤ F' i) : ∀ (m k : Nat) (x : Option D), k + m = n → ∃ x',
    forP (gV 2) l__law_grown_1 (rngD k m) [some (.fl (tab n F)), some (.fl (tab n F')), x] G = .nx [some (.fl (tab n F)), some (.fl (tab n F')), x'] G
  | 0, k, x, e => ⟨x, by rw [rngD_zero, forP_nil]⟩
  | m + 1, k, x, e => by
    have hk : k < n := by omega
    obtain ⟨x', ih⟩ := grown_loop h (G := G) m (k + 1) (some (.int k)) (by omega)
    refine ⟨x', ?_⟩
    have hle : ¬ F' k < F k := by have := h k hk; omega
    have hb : l__law_grown_1 [some (.fl (tab n F)), some (.fl (tab n F')), some (.int k)] G = .nx [some (.fl (tab n F)), some (.fl (tab n F')), some (.int k)] G := by
      unfold l__law_grown_1
      simp [tab_at hk, hle]
    rw [rngD_succ, forP_cons]
    simp only [ev_gV, R.toS_ok, List.set, hb, aft_nx]
    have q1 : ((k : Int) + 1) = ((k + 1 : Nat) : Int) := by omega
    rw [q1, ih]
theorem c_grown_ok {n : Nat} (hn : n ≤ 40) {F F' : Nat → Int} (h : ∀ i, i < n → F i ≤ F' i) (G : DH) : c__law_grown [.fl (tab n F), .fl (tab n F')] G = .ok (.bl true) G := by
  obtain ⟨x', hL⟩ := grown_loop (G := G) h n 0 none (by omega)
  have hL' : forP (gV 2) l__law_grown_1 (rngD 0 n) [some (.fl (tab n F)), some (.fl (tab n F')), none] G = _ := hL
  have hr : inR (n : Int) := inR_of (by omega) (by omega)
  unfold c__law_grown b__law_grown
  rw [ev_run]
  simp [hr, hL', tidy_same]
/-- _law_out -/
def zro (rs : List Row) (k : Nat) (F : Nat → Int) : Nat → Int := fun i => if i < k ∧ dnOf rs i ≠ none then 0 else F i
theorem zro_succ {rs : List Row} {k : Nat} {F : Nat → Int} : zro rs (k + 1) F = if dnOf rs k ≠ none then fset (zro rs k F) k 0 else zro rs k F := by
  by_cases h : dnOf rs k ≠ none
  · rw [if_pos h]
    funext i
    simp only [zro, fset]
    by_cases e : i = k
    · subst e; simp [h]
    · by_cases h2 : i < k
      · have h3 : i < k + 1 := by omega
        simp [e, h2, h3]
      · have h3 : ¬ i < k + 1 := by omega
        simp [e, h2, h3]
  · rw [if_neg h]
    funext i
    simp only [zro]
    by_cases e : i = k
    · subst e; simp [h]
    · by_cases h2 : i < k
      · have h3 : i < k + 1 := by omega
        simp [h2, h3]
      · have h3 : ¬ i < k + 1 := by omega
        simp [h2, h3]
theorem out_loop {rs : List Row} {t : D} {F : Nat → Int} {G : DH} : ∀ (m k : Nat) (x : Option D), k + m = rs.length → ∃ x',
    forP (gV 3) l__law_out_2 (rngD k m) [some (.fl (rs.map Row.enc)), some t, some (.ref G.length), x] (G ++ [.lst (tab rs.length (zro rs k F))]) =
      .nx [some (.fl (rs.map Row.enc)), some t, some (.ref G.length), x'] (G ++ [.lst (tab rs.length (zro rs rs.length F))])
  | 0, k, x, e => ⟨x, by
      have : k = rs.length := by omega
      rw [rngD_zero, forP_nil, this]⟩
  | m + 1, k, x, e => by
    have hk : k < rs.length := by omega
    obtain ⟨x', ih⟩ := out_loop (rs := rs) (t := t) (F := F) (G := G) m (k + 1) (some (.int k)) (by omega)
    refine ⟨x', ?_⟩
    have hb : l__law_out_2 [some (.fl (rs.map Row.enc)), some t, some (.ref G.length), some (.int k)] (G ++ [.lst (tab rs.length (zro rs k F))]) = .nx [some (.fl (rs.map Row.enc)), some t, some (.ref G.length), some (.int k)] (G ++ [.lst (tab rs.length (zro rs (k + 1) F))]) := by
      rw [zro_succ]
      unfold l__law_out_2
      cases hd : dnOf rs k with
      | none => simp [row_at hk, hd, dnD]
      | some d => simp [row_at hk, hd, dnD, hp_get0, hp_set0, ixN_nat, hk, tab_set]
    rw [rngD_succ, forP_cons]
    simp only [ev_gV, R.toS_ok, List.set, hb, aft_nx]
    have q1 : ((k : Int) + 1) = ((k + 1 : Nat) : Int) := by omega
    rw [q1, ih]
theorem c_out_ok {rs : List Row} (hR : Reach rs) (hl : rs.length ≤ 40) {T : Nat → Int} (G : DH) : c__law_out [.fl (rs.map Row.enc), .fl (tab rs.length T)] G = .ok (.ref G.length) (G ++ [.lst (tab rs.length (zro rs rs.length (gath rs fun i => col Row.water rs i - T i)))]) := by
  obtain ⟨x', hL⟩ := out_loop (rs := rs) (t := .fl (tab rs.length T)) (F := gath rs fun i => col Row.water rs i - T i) (G := G) rs.length 0 none (by omega)
  have ez : zro rs 0 (gath rs fun i => col Row.water rs i - T i) = gath rs fun i => col Row.water rs i - T i := by
    funext i
    simp [zro]
  rw [ez] at hL
  have hL' : forP (gV 3) l__law_out_2 (rngD 0 rs.length) [some (.fl (rs.map Row.enc)), some (.fl (tab rs.length T)), some (.ref G.length), none] (G ++ [.lst (tab rs.length (gath rs fun i => col Row.water rs i - T i))]) = _ := hL
  have hcomp : compP (gV 0) bTrue e__law_out_1 (capS 1 [0, 1] [some (.fl (rs.map Row.enc)), some (.fl (tab rs.length T)), none, none]) (rngD 0 rs.length) G = .ok (tab rs.length fun i => col Row.water rs i - T i) G := by
    rw [compP_ok (F := fun d => match d with | .int i => some (.int (col Row.water rs i.toNat - T i.toNat)) | _ => none) (fun q hq => ?_)]
    · congr 1
      have e : rngD 0 rs.length = (List.range rs.length).map fun (i : Nat) => D.int (i : Int) := by
        refine List.ext_getElem? fun i => ?_
        simp [rngD]
      rw [e, List.filterMap_map]
      show (List.range rs.length).filterMap (fun (i : Nat) => some (D.int (col Row.water rs ((i : Int).toNat) - T ((i : Int).toNat)))) = _
      rw [List.filterMap_eq_map']
      simp [tab]
    · have e : rngD 0 rs.length = (List.range rs.length).map fun (i : Nat) => D.int (i : Int) := by
        refine List.ext_getElem? fun i => ?_
        simp [rngD]
      rw [e] at hq
      obtain ⟨i, hi, rfl⟩ := List.mem_map.mp hq
      have hi' := List.mem_range.mp hi
      refine ⟨[some (.int i), some (.fl (rs.map Row.enc)), some (.fl (tab rs.length T))], by simp [capS], .inr ⟨rfl, .int (col Row.water rs i - T i), ?_, by simp⟩⟩
      unfold e__law_out_1
      simp [row_at hi', tab_at hi']
  have hr : inR (rs.length : Int) := inR_of (by omega) (by omega)
  have hl3 : rs.length ≤ 1000000 := by omega
  unfold c__law_out b__law_out
  rw [ev_run]
  simp [hr, hcomp, mkLst, hl3, freeze_new0, c_gathered_ok hR hl, tidy_new0, hL']
theorem sum_le {F F' : Nat → Int} {r : Nat} : ∀ n : Nat, (∀ i, i < n → F' i ≤ F i + ind 1 [r] i) → ((List.range n).map F').sum ≤ ((List.range n).map F).sum + if r < n then 1 else 0
  | 0, h => by simp
  | n + 1, h => by
    have ih := sum_le n fun i hi => h i (by omega)
    have hn := h n (by omega)
    rw [List.range_succ, List.map_append, List.map_append, List.sum_append, List.sum_append]
    simp only [List.map_cons, List.map_nil, List.sum_cons, List.sum_nil]
    simp only [ind, List.mem_singleton] at hn
    by_cases e : n = r
    · subst e
      simp at ih hn ⊢
      omega
    · by_cases h2 : r < n
      · have h3 : r < n + 1 := by omega
        simp [e, h2, h3] at ih hn ⊢
        omega
      · have h3 : ¬ r < n + 1 := by omega
        simp [e, h2, h3] at ih hn ⊢
        omega
theorem sum_one {F F' : Nat → Int} {r n : Nat} (h : ∀ i, i < n → F' i ≤ F i + ind 1 [r] i) : ((List.range n).map F').sum ≤ ((List.range n).map F).sum + 1 := by
  have := sum_le n h
  split at this <;> omega
theorem ev_sumTab {n : Nat} {F : Nat → Int} {G : DH} : fSum [.fl (tab n F)] G = .ok (.int ((List.range n).map F).sum) G := by
  have e : tab n F = ((List.range n).map F).map D.int := by simp [tab]
  rw [e, ev_sumF]
def manyR (rs : List Row) (u : Nat → Int) (k : Nat) : Row := ⟨dnOf rs k, col Row.water rs k + u k, col Row.need rs k, col Row.rank rs k⟩
theorem law_loop {ns : List Int} {rs : List Row} (hl : rs.length ≤ 40) {kd : Int} {b : Nat} {f u : Nat → Int}
    (hc : ∀ k, k < rs.length → ∀ G, c__law_cell_at [.fl (ns.map D.int), .int ((b : Int) + 1 + k)] G = .ok (.int (f k)) G)
    (hu : ∀ k, k < rs.length → ∀ G, c__law_amount [.int (f k), .int (min kd 2)] G = .ok (.int (u k)) G) {s4 s5 s9 s10 s11 : Option D} {A : DO} {G : DH} : ∀ (m k : Nat) (x1 x2 : Option D), k + m = rs.length → ∃ y1 y2,
    forP (gV 7) l_law_1 (rngD k m) [some (.fl (ns.map D.int)), some (.fl (rs.map Row.enc)), some (.int kd), some (.int b), s4, s5, some (.ref (G.length + 1)), x1, x2, s9, s10, s11] (G ++ [A, .lst (((List.range k).map (manyR rs u)).map Row.enc)]) =
      .nx [some (.fl (ns.map D.int)), some (.fl (rs.map Row.enc)), some (.int kd), some (.int b), s4, s5, some (.ref (G.length + 1)), y1, y2, s9, s10, s11] (G ++ [A, .lst ((remk rs (fun i => col Row.water rs i + u i) (col Row.need rs)).map Row.enc)])
  | 0, k, x1, x2, h => ⟨x1, x2, by
      have e : k = rs.length := by omega
      rw [rngD_zero, forP_nil, e]; rfl⟩
  | m + 1, k, x1, x2, h => by
    have hk : k < rs.length := by omega
    obtain ⟨y1, y2, ih⟩ := law_loop hl hc hu (s4 := s4) (s5 := s5) (s9 := s9) (s10 := s10) (s11 := s11) (A := A) (G := G) m (k + 1) (some (.int k)) (some (.int (col Row.water rs k + u k))) (by omega)
    refine ⟨y1, y2, ?_⟩
    have hkb : k < 1000000 := by omega
    have hge : ∀ L : DH, (G ++ L)[G.length + 1]? = L[1]? := fun L => hp_get L 1
    have hse : ∀ (L : DH) o, (G ++ L).set (G.length + 1) o = G ++ L.set 1 o := fun L o => hp_set L 1 o
    have q2 : (List.range (k + 1)).map (manyR rs u) = (List.range k).map (manyR rs u) ++ [manyR rs u k] := by rw [List.range_succ, List.map_append]; rfl
    have q3 : (manyR rs u k).enc = .tup [dnD (dnOf rs k), .int (col Row.water rs k + u k), .int (col Row.need rs k), .int (col Row.rank rs k)] := rfl
    have hs : l_law_1 [some (.fl (ns.map D.int)), some (.fl (rs.map Row.enc)), some (.int kd), some (.int b), s4, s5, some (.ref (G.length + 1)), some (.int k), x2, s9, s10, s11] (G ++ [A, .lst (((List.range k).map (manyR rs u)).map Row.enc)]) =
        .nx [some (.fl (ns.map D.int)), some (.fl (rs.map Row.enc)), some (.int kd), some (.int b), s4, s5, some (.ref (G.length + 1)), some (.int k), some (.int (col Row.water rs k + u k)), s9, s10, s11] (G ++ [A, .lst (((List.range (k + 1)).map (manyR rs u)).map Row.enc)]) := by
      rw [q2, List.map_append, List.map_singleton, q3]
      have hll : (((List.range k).map (manyR rs u)).map Row.enc).length = k := by simp
      generalize ((List.range k).map (manyR rs u)).map Row.enc = acc at hll ⊢
      unfold l_law_1
      simp [row_at hk, hc k hk, hu k hk, hge, hse, hkb, hll, mkTup]
    rw [rngD_succ, forP_cons]
    simp only [ev_gV, R.toS_ok, List.set, hs, aft_nx]
    have q1 : ((k : Int) + 1) = ((k + 1 : Nat) : Int) := by omega
    rw [q1, ih]
theorem set_more {rs : List Row} {one : Nat} (ho : one < rs.length) : (rs.map Row.enc).set one (.tup [dnD (dnOf rs one), .int (col Row.water rs one + 1), .int (col Row.need rs one), .int (col Row.rank rs one)]) = (remk rs (fun i => col Row.water rs i + ind 1 [one] i) (col Row.need rs)).map Row.enc := by
  refine List.ext_getElem? fun i => ?_
  by_cases hi : i < rs.length
  · rw [List.getElem?_map (f := Row.enc) (l := remk _ _ _), remk_get hi]
    by_cases e : one = i
    · subst e
      rw [List.getElem?_set_self (by simpa using hi)]
      simp [Row.enc, ind]
    · rw [List.getElem?_set_ne e, List.getElem?_map, List.getElem?_eq_getElem hi]
      have e2 : i ≠ one := fun z => e z.symm
      simp [Row.enc, ind, e2, dnOf_get hi, col, List.getElem?_eq_getElem hi]
  · rw [List.getElem?_eq_none (by simp; omega), List.getElem?_eq_none (by rw [List.length_map, remk_len]; omega)]
theorem need_same {rs : List Row} {w : Nat → Int} (k : Nat) : col Row.need (remk rs w (col Row.need rs)) k = col Row.need rs k := by
  by_cases h : k < rs.length
  · exact remk_need h
  · rw [col_out h, col_out (by rw [remk_len]; exact h)]
theorem water_same {rs : List Row} {w v : Nat → Int} (h0 : ∀ i, ¬ i < rs.length → w i = 0) : col Row.water (remk rs w v) = w := by
  funext k
  by_cases h : k < rs.length
  · exact remk_water h
  · rw [h0 k h, col_out (by rw [remk_len]; exact h)]
/-- what is told of a reach with other waters -/
theorem told {rs : List Row} (hR : Reach rs) {w : Nat → Int} (hw : ∀ i, 0 ≤ w i) (h0 : ∀ i, ¬ i < rs.length → w i = 0) (hl : rs.length ≤ 40) :
    (∀ G, c_shares [.fl ((remk rs w (col Row.need rs)).map Row.enc)] G = .ok (.ref G.length) (G ++ [.lst (tab rs.length (Sh rs w).2)])) ∧
    ∀ G, c__law_out [.fl ((remk rs w (col Row.need rs)).map Row.enc), .fl (tab rs.length (Sh rs w).2)] G = .ok (.ref G.length) (G ++ [.lst (tab rs.length (zro rs rs.length (Sh rs w).1))]) := by
  have hR2 : Reach (remk rs w (col Row.need rs)) := remk_reach hR (fun k _ => hw k) (fun k _ => hR.need k)
  have hl2 : (remk rs w (col Row.need rs)).length ≤ 40 := by rw [remk_len]; exact hl
  have hS : SameR rs (remk rs w (col Row.need rs)) := remk_same
  have e1 := sh_shr hS need_same
  have e2 := sh_left hR2 hS need_same
  rw [water_same h0] at e1 e2
  refine ⟨fun G => ?_, fun G => ?_⟩
  · rw [c_shares_ok hR2 hl2, remk_len, e1]
  · have h := c_out_ok hR2 hl2 (T := shr (remk rs w (col Row.need rs))) G
    rw [water_same h0, e2, remk_len, e1] at h
    rw [h]
    have ez : zro (remk rs w (col Row.need rs)) rs.length (Sh rs w).1 = zro rs rs.length (Sh rs w).1 := by
      funext i
      simp only [zro, hS.dn]
    rw [ez]
theorem remk_id {rs : List Row} : remk rs (col Row.water rs) (col Row.need rs) = rs := by
  refine List.ext_getElem? fun i => ?_
  by_cases hi : i < rs.length
  · rw [remk_get hi, List.getElem?_eq_getElem hi]
    simp [dnOf_get hi, col, List.getElem?_eq_getElem hi]
  · rw [remk_out hi, List.getElem?_eq_none (by omega)]
theorem zro_le {rs : List Row} {F F' : Nat → Int} (h : ∀ i, dnOf rs i = none → F i ≤ F' i) : ∀ i, i < rs.length → zro rs rs.length F i ≤ zro rs rs.length F' i := fun i hi => by
  simp only [zro]
  by_cases hd : dnOf rs i = none
  · simp [hd, h i hd]
  · simp [hd, hi]
theorem zro_one {rs : List Row} {F F' : Nat → Int} {r : Nat} (h : ∀ i, dnOf rs i = none → F' i ≤ F i + ind 1 [r] i) : ∀ i, i < rs.length → zro rs rs.length F' i ≤ zro rs rs.length F i + ind 1 [r] i := fun i hi => by
  simp only [zro]
  by_cases hd : dnOf rs i = none
  · simp [hd, h i hd]
  · have := ind_le (t := 1) (ws := [r]) (i := i) (by decide)
    simp [hd, hi]
    omega
theorem law_run {ns : List Int} (hl : ns.length ≤ 63) (hb : ∀ m ∈ ns, m.natAbs.log2 < 1048576) (G : DH) : c_law [.fl (ns.map D.int)] G = .ok (.bl true) G := by
  obtain ⟨rs, hl2, hR, cr⟩ := c_reach hb hl
  obtain ⟨f, hf⟩ := cells hb hl
  have h0 : ∀ G, c__law_cell_at [.fl (ns.map D.int), .int 0] G = .ok (.int (f 0)) G := (hf 0 (by omega)).2
  by_cases hz : rs.length = 0
  · have e : rs = [] := List.length_eq_zero_iff.mp hz
    subst e
    have heq : ∀ G, opEq (.fl []) (.fl []) G = .ok (.bl true) G := fun G => ev_eqSame rfl
    unfold c_law b_law
    rw [ev_run]
    simp [cr, freeze_new0, mkLst, tidy_same, heq]
  have hn : 0 < rs.length := by omega
  have hne' : rs ≠ [] := fun z => by rw [z] at hn; simp at hn
  let b : Nat := max 49 (4 * rs.length + 1)
  have hbb : b ≤ 200 := by show max 49 (4 * rs.length + 1) ≤ 200; omega
  have eb : max (49 : Int) (4 * (rs.length : Int) + 1) = (b : Int) := by show _ = ((max 49 (4 * rs.length + 1) : Nat) : Int); omega
  let one : Nat := (f b % (rs.length : Int)).toNat
  have hp : (0 : Int) < rs.length := by omega
  have h1 : 0 ≤ f b % (rs.length : Int) := Int.emod_nonneg _ (by omega)
  have h2 : f b % (rs.length : Int) < rs.length := Int.emod_lt_of_pos _ hp
  have eo : f b % (rs.length : Int) = (one : Int) := by show _ = (((f b % (rs.length : Int)).toNat : Nat) : Int); omega
  have ho : one < rs.length := by omega
  let kd : Int := f 0 / 52 % 4
  have ekd : f 0 / 52 % 4 = kd := rfl
  have hbc : ∀ G, c__law_cell_at [.fl (ns.map D.int), .int b] G = .ok (.int (f b)) G := (hf b (by omega)).2
  clear_value b one kd
  have hc : ∀ k, k < rs.length → ∀ G, c__law_cell_at [.fl (ns.map D.int), .int ((b : Int) + 1 + k)] G = .ok (.int (f (b + 1 + k))) G := fun k hk G => by
    have e : ((b : Int) + 1 + k) = ((b + 1 + k : Nat) : Int) := by omega
    rw [e]; exact (hf _ (by omega)).2 G
  obtain ⟨u, hu, hu0, hu1⟩ : ∃ u : Nat → Int, (∀ k, k < rs.length → ∀ G, c__law_amount [.int (f (b + 1 + k)), .int (min kd 2)] G = .ok (.int (u k)) G) ∧ (∀ k, 0 ≤ u k) ∧ ∀ k, ¬ k < rs.length → u k = 0 := by
    have ex : ∀ k, ∃ v : Int, (k < rs.length → ∀ G, c__law_amount [.int (f (b + 1 + k)), .int (min kd 2)] G = .ok (.int v) G) ∧ 0 ≤ v ∧ (¬ k < rs.length → v = 0) := fun k => by
      by_cases hk : k < rs.length
      · obtain ⟨v, h⟩ := c_amount (kd := min kd 2) (hf (b + 1 + k) (by omega)).1
        exact ⟨v, fun _ => h.2, h.1, fun z => absurd hk z⟩
      · exact ⟨0, fun h => absurd h hk, Int.le_refl _, fun _ => rfl⟩
    exact ⟨fun k => (ex k).choose, fun k => (ex k).choose_spec.1, fun k => (ex k).choose_spec.2.1, fun k => (ex k).choose_spec.2.2⟩
  have hW := hR.water
  have hW0 : ∀ i, ¬ i < rs.length → col Row.water rs i = 0 := fun i hi => col_out hi
  have hA : ∀ i, 0 ≤ col Row.water rs i + ind 1 [one] i := fun i => by
    have := ind_le (t := 1) (ws := [one]) (i := i) (by decide)
    have := hW i
    omega
  have hA0 : ∀ i, ¬ i < rs.length → col Row.water rs i + ind 1 [one] i = 0 := fun i hi => by
    have e : ind 1 [one] i = 0 := if_neg (by simp; omega)
    rw [hW0 i hi, e]; rfl
  have hB : ∀ i, 0 ≤ col Row.water rs i + u i := fun i => by
    have := hW i
    have := hu0 i
    omega
  have hB0 : ∀ i, ¬ i < rs.length → col Row.water rs i + u i = 0 := fun i hi => by rw [hW0 i hi, hu1 i hi]; rfl
  have t0 := told hR hW hW0 hl2
  rw [remk_id] at t0
  obtain ⟨s0, o0⟩ := t0
  obtain ⟨s1, o1⟩ := told hR hA hA0 hl2
  obtain ⟨s2, o2⟩ := told hR hB hB0 hl2
  have m1 := one_more hR hW ho
  have l1 := m1.le hR
  obtain ⟨⟨r1, g1⟩, r2, g2⟩ := m1.one hR
  have l2 : LeS rs (Sh rs (col Row.water rs)) (Sh rs fun i => col Row.water rs i + u i) := more_water hR hW (fun i => by have := hu0 i; omega) (fun i hi => by rw [hu1 i hi]; omega)
  obtain ⟨y1, y2, hL⟩ := law_loop (ns := ns) (rs := rs) hl2 (kd := kd) hc hu (s4 := some (.int one)) (s5 := some (.fl ((remk rs (fun i => col Row.water rs i + ind 1 [one] i) (col Row.need rs)).map Row.enc))) (s9 := none) (s10 := none) (s11 := none) (A := .gone) (G := G) rs.length 0 none none (by omega)
  have hset := set_more ho
  generalize remk rs (fun i => col Row.water rs i + ind 1 [one] i) (col Row.need rs) = ra at hL s1 o1 hset
  generalize remk rs (fun i => col Row.water rs i + u i) (col Row.need rs) = rb at hL s2 o2
  have p1 : ((List.range rs.length).map (Sh rs fun i => col Row.water rs i + ind 1 [one] i).2).sum ≤ ((List.range rs.length).map (Sh rs (col Row.water rs)).2).sum + 1 := sum_one fun i _ => g1 i
  have p2 : ((List.range rs.length).map (zro rs rs.length (Sh rs fun i => col Row.water rs i + ind 1 [one] i).1)).sum ≤ ((List.range rs.length).map (zro rs rs.length (Sh rs (col Row.water rs)).1)).sum + 1 := sum_one (zro_one g2)
  have q1 := c_grown_ok hl2 (fun i _ => l1.1 i)
  have q2 := c_grown_ok hl2 (fun i _ => l2.1 i)
  have q3 := c_grown_ok hl2 (zro_le l1.2)
  have q4 := c_grown_ok hl2 (zro_le l2.2)
  generalize Sh rs (fun i => col Row.water rs i + ind 1 [one] i) = Sa at s1 o1 p1 p2 q1 q3
  generalize Sh rs (fun i => col Row.water rs i + u i) = Sb at s2 o2 q2 q4
  generalize Sh rs (col Row.water rs) = S0 at s0 o0 p1 p2 q1 q2 q3 q4
  generalize zro rs rs.length Sa.1 = oa at o1 p2 q3
  generalize zro rs rs.length Sb.1 = ob at o2 q4
  generalize zro rs rs.length S0.1 = oo at o0 p2 q3 q4
  have hL' : forP (gV 7) l_law_1 (rngD 0 rs.length) [some (.fl (ns.map D.int)), some (.fl (rs.map Row.enc)), some (.int kd), some (.int b), some (.int one), some (.fl (ra.map Row.enc)), some (.ref (G.length + 1)), none, none, none, none, none] (G ++ [.gone, .lst []]) = _ := hL
  have hr : inR (rs.length : Int) := inR_of (by omega) (by omega)
  have heq : ∀ G, opEq (.fl (rs.map Row.enc)) (.fl []) G = .ok (.bl false) G := fun G => by
    rw [ev_eqP okD_rows rfl]
    simp [hne']
  have hge : ∀ L : DH, (G ++ L)[G.length + 1]? = L[1]? := fun L => hp_get L 1
  have hse : ∀ (L : DH) o, (G ++ L).set (G.length + 1) o = G ++ L.set 1 o := fun L o => hp_set L 1 o
  have hfl : ∀ (ds : List D) (G : DH), fList [.fl ds] G = .ok (.ref G.length) (G ++ [.lst ds]) := fun ds G => rfl
  have ht1 : tidy (G ++ [.gone]) (.ok (.ref (G.length + 1)) (G ++ [.gone, .lst []])) = .ok (.ref (G.length + 1)) (G ++ [.gone, .lst []]) := tidy_new1 (by rfl)
  have hz5 : ∀ (t : DS) (s0 s1 s2 s3 s4 s6 s7 s8 s9 s10 s11 : Option D) (ds : List D), sFzV 5 t [s0, s1, s2, s3, s4, some (.ref G.length), s6, s7, s8, s9, s10, s11] (G ++ [.lst ds]) = t [s0, s1, s2, s3, s4, some (.fl ds), s6, s7, s8, s9, s10, s11] (G ++ [.gone]) := fun t s0 s1 s2 s3 s4 s6 s7 s8 s9 s10 s11 ds => by
    rw [ev_sFzV (i := 5) (p := G.length) (xs := ds) rfl (by rw [hp_get0]; rfl), hp_set0]; rfl
  have hz6 : ∀ (t : DS) (s0 s1 s2 s3 s4 s5 s7 s8 s9 s10 s11 : Option D) (A : DO) (ds : List D), sFzV 6 t [s0, s1, s2, s3, s4, s5, some (.ref (G.length + 1)), s7, s8, s9, s10, s11] (G ++ [A, .lst ds]) = t [s0, s1, s2, s3, s4, s5, some (.fl ds), s7, s8, s9, s10, s11] (G ++ [A, .gone]) := fun t s0 s1 s2 s3 s4 s5 s7 s8 s9 s10 s11 A ds => by
    rw [ev_sFzV (i := 6) (p := G.length + 1) (xs := ds) rfl (by rw [hge]; rfl), hse]; rfl
  have hft : ∀ F, freeze (G ++ [.gone, .gone]) (.ok (.ref (G.length + 2)) (G ++ [.gone, .gone, .lst (tab rs.length F)])) = .ok (.fl (tab rs.length F)) (G ++ [.gone, .gone]) := fun F => freeze_new2 bels_tab
  have hfr : ∀ rs : List Row, freeze (G ++ [.gone, .gone]) (.ok (.ref (G.length + 2)) (G ++ [.gone, .gone, .lst (rs.map Row.enc)])) = .ok (.fl (rs.map Row.enc)) (G ++ [.gone, .gone]) := fun rs => freeze_new2 bels_rows
  have hf3 : ∀ A B C : Nat → Int, freeze (G ++ [.gone, .gone]) (.ok (.ref (G.length + 2)) (G ++ [.gone, .gone, .lst [.fl (tab rs.length A), .fl (tab rs.length B), .fl (tab rs.length C)]])) = .ok (.fl [.fl (tab rs.length A), .fl (tab rs.length B), .fl (tab rs.length C)]) (G ++ [.gone, .gone]) := fun A B C => freeze_new2 (by simp)
  have hN : ∀ (n : Nat) (F : Nat → Int) (s0 s2 s3 s4 s5 s6 s7 s8 s9 s11 : Option D) (G : DH), rs.length = n → l_law_2 [s0, some (.fl (rs.map Row.enc)), s2, s3, s4, s5, s6, s7, s8, s9, some (.fl (tab n F)), s11] G = .nx [s0, some (.fl (rs.map Row.enc)), s2, s3, s4, s5, s6, s7, s8, s9, some (.fl (tab n F)), s11] G := fun n F s0 s2 s3 s4 s5 s6 s7 s8 s9 s11 G e => by
    subst e
    unfold l_law_2
    simp [c_numbers_fl]
  have hN' := fun F s0 s2 s3 s4 s5 s6 s7 s8 s9 s11 G => hN rs.length F s0 s2 s3 s4 s5 s6 s7 s8 s9 s11 G rfl
  unfold c_law b_law
  rw [ev_run]
  simp [cr, freeze_new0, mkLst, heq, h0, ekd, eb, hbc, hn, eo, hfl, tidy_new0, row_at ho, mkTup, hp_get0, hp_set0, ixN_nat, ho, hset, hz5, ht1, hr, hL', hz6, hfr, hft, hf3, s0, s1, s2, forP_cons, forP_nil, hN', q1, q2, q3, q4, o0, o1, o2, ev_sumTab, p1, p2, tidy_pure]
theorem holds : Holds := fun ns hl hb => ⟨[], law_run hl hb []⟩
end Law
namespace Law
open PySem L2 DL
seal QE QT QA QS QSs QG QGs QI QTs QW QO
structure Adr where
  f__law_amount : Addr
  d__law_amount : FuncData
  f__law_off : Addr
  d__law_off : FuncData
  f__law_tape : Addr
  d__law_tape : FuncData
  f__law_cell_at : Addr
  d__law_cell_at : FuncData
  f__law_grown : Addr
  d__law_grown : FuncData
  f__law_numbers : Addr
  d__law_numbers : FuncData
  f__law_gathered : Addr
  d__law_gathered : FuncData
  f__law_out : Addr
  d__law_out : FuncData
  f__law_many : Addr
  d__law_many : FuncData
  f__law_reach : Addr
  d__law_reach : FuncData
  f_passed : Addr
  d_passed : FuncData
  f_served : Addr
  d_served : FuncData
  f_way_down : Addr
  d_way_down : FuncData
  f_shares : Addr
  d_shares : FuncData
  f_law : Addr
  d_law : FuncData
  tk_ROW_DOWN : Tok
  tk_ROW_NEED : Tok
  tk_ROW_RANK : Tok
  tk_ROW_WATER : Tok
structure Txt (K : PySem.W.Frag) (mg : Str → Option Value) (t : Adr) : Prop where
  F__law_amount : Fun K "_law_amount" "_law_amount" s__law_amount t.f__law_amount t.d__law_amount
  b__law_amount : Binds K t.d__law_amount ["_law_cell", "_law_kind"] []
  m__law_amount : mg "_law_amount" = some (.ref t.f__law_amount)
  k__law_amount : PySem.W.keepIn K (.ref t.f__law_amount) = true
  F__law_off : Fun K "_law_off" "_law_off" s__law_off t.f__law_off t.d__law_off
  b__law_off : Binds K t.d__law_off ["_law_number", "_law_k"] []
  m__law_off : mg "_law_off" = some (.ref t.f__law_off)
  k__law_off : PySem.W.keepIn K (.ref t.f__law_off) = true
  F__law_tape : Fun K "_law_tape" "_law_tape" s__law_tape t.f__law_tape t.d__law_tape
  b__law_tape : Binds K t.d__law_tape ["_law_script"] []
  m__law_tape : mg "_law_tape" = some (.ref t.f__law_tape)
  k__law_tape : PySem.W.keepIn K (.ref t.f__law_tape) = true
  F__law_cell_at : Fun K "_law_cell_at" "_law_cell_at" s__law_cell_at t.f__law_cell_at t.d__law_cell_at
  b__law_cell_at : Binds K t.d__law_cell_at ["_law_script", "_law_k"] []
  m__law_cell_at : mg "_law_cell_at" = some (.ref t.f__law_cell_at)
  k__law_cell_at : PySem.W.keepIn K (.ref t.f__law_cell_at) = true
  F__law_grown : Fun K "_law_grown" "_law_grown" s__law_grown t.f__law_grown t.d__law_grown
  b__law_grown : Binds K t.d__law_grown ["_law_takes", "_law_others"] []
  m__law_grown : mg "_law_grown" = some (.ref t.f__law_grown)
  k__law_grown : PySem.W.keepIn K (.ref t.f__law_grown) = true
  F__law_numbers : Fun K "_law_numbers" "_law_numbers" s__law_numbers t.f__law_numbers t.d__law_numbers
  b__law_numbers : Binds K t.d__law_numbers ["_law_found", "_law_many_here"] []
  m__law_numbers : mg "_law_numbers" = some (.ref t.f__law_numbers)
  k__law_numbers : PySem.W.keepIn K (.ref t.f__law_numbers) = true
  F__law_gathered : Fun K "_law_gathered" "_law_gathered" s__law_gathered t.f__law_gathered t.d__law_gathered
  b__law_gathered : Binds K t.d__law_gathered ["_law_rows", "_law_amounts"] []
  m__law_gathered : mg "_law_gathered" = some (.ref t.f__law_gathered)
  k__law_gathered : PySem.W.keepIn K (.ref t.f__law_gathered) = true
  F__law_out : Fun K "_law_out" "_law_out" s__law_out t.f__law_out t.d__law_out
  b__law_out : Binds K t.d__law_out ["_law_rows", "_law_takes"] []
  m__law_out : mg "_law_out" = some (.ref t.f__law_out)
  k__law_out : PySem.W.keepIn K (.ref t.f__law_out) = true
  F__law_many : Fun K "_law_many" "_law_many" s__law_many t.f__law_many t.d__law_many
  b__law_many : Binds K t.d__law_many ["_law_script"] []
  m__law_many : mg "_law_many" = some (.ref t.f__law_many)
  k__law_many : PySem.W.keepIn K (.ref t.f__law_many) = true
  F__law_reach : Fun K "_law_reach" "_law_reach" s__law_reach t.f__law_reach t.d__law_reach
  b__law_reach : Binds K t.d__law_reach ["_law_script"] []
  m__law_reach : mg "_law_reach" = some (.ref t.f__law_reach)
  k__law_reach : PySem.W.keepIn K (.ref t.f__law_reach) = true
  F_passed : Fun K "passed" "passed" s_passed t.f_passed t.d_passed
  b_passed : Binds K t.d_passed ["rows", "takes"] []
  m_passed : mg "passed" = some (.ref t.f_passed)
  k_passed : PySem.W.keepIn K (.ref t.f_passed) = true
  F_served : Fun K "served" "served" s_served t.f_served t.d_served
  b_served : Binds K t.d_served ["rows"] []
  m_served : mg "served" = some (.ref t.f_served)
  k_served : PySem.W.keepIn K (.ref t.f_served) = true
  F_way_down : Fun K "way_down" "way_down" s_way_down t.f_way_down t.d_way_down
  b_way_down : Binds K t.d_way_down ["rows", "number"] []
  m_way_down : mg "way_down" = some (.ref t.f_way_down)
  k_way_down : PySem.W.keepIn K (.ref t.f_way_down) = true
  F_shares : Fun K "shares" "shares" s_shares t.f_shares t.d_shares
  b_shares : Binds K t.d_shares ["rows"] []
  m_shares : mg "shares" = some (.ref t.f_shares)
  k_shares : PySem.W.keepIn K (.ref t.f_shares) = true
  F_law : Fun K "law" "law" s_law t.f_law t.d_law
  b_law : Binds K t.d_law ["_law_script"] []
  m_law : mg "law" = some (.ref t.f_law)
  k_law : PySem.W.keepIn K (.ref t.f_law) = true
  n_bool : mg "bool" = none
  n_enumerate : mg "enumerate" = none
  n_int : mg "int" = none
  n_isinstance : mg "isinstance" = none
  n_len : mg "len" = none
  n_list : mg "list" = none
  n_max : mg "max" = none
  n_min : mg "min" = none
  n_range : mg "range" = none
  n_sorted : mg "sorted" = none
  n_sum : mg "sum" = none
  n_zip : mg "zip" = none
  g_ROW_DOWN : mg "ROW_DOWN" = some (.int 0 t.tk_ROW_DOWN)
  g_ROW_NEED : mg "ROW_NEED" = some (.int 2 t.tk_ROW_NEED)
  g_ROW_RANK : mg "ROW_RANK" = some (.int 3 t.tk_ROW_RANK)
  g_ROW_WATER : mg "ROW_WATER" = some (.int 1 t.tk_ROW_WATER)
section
variable {P : Program} {w : World} {K : PySem.W.Frag} {mg : Str → Option Value} {base : Heap} {t : Adr}
set_option maxHeartbeats 4000000 in
theorem ok__law_amount (T : Txt K mg t) : FnOk P w K mg base CX0 1 t.f__law_amount t.d__law_amount ["_law_cell", "_law_kind"] (lF K c__law_amount) := by
  refine fn_ok T.F__law_amount sc__law_amount fun cdv A outer s H E hr => ?_
  exact (qss_cons (qs_if (qt_cmp (o_eq hr.units) (qe_var 1) qe_int (nomark _)) (qss_one (qs_ret (qe_op o_mod (qe_var 0) (qe_op o_pow qe_int qe_int)))) qss_nil) (qss_cons (qs_if (qt_cmp (o_eq hr.units) (qe_var 1) qe_int (nomark _)) (qss_one (qs_ret (qe_op o_mod (qe_op o_mulB (qe_var 0) (qe_var 0)) (qe_op o_pow qe_int qe_int)))) qss_nil) (qss_one (qs_ret (qe_op o_mod (qe_var 0) qe_int)))))
set_option maxHeartbeats 4000000 in
theorem ok__law_off (T : Txt K mg t) : FnOk P w K mg base CX0 1 t.f__law_off t.d__law_off ["_law_number", "_law_k"] (lF K c__law_off) := by
  refine fn_ok T.F__law_off sc__law_off fun cdv A outer s H E hr => ?_
  exact (qss_cons (qs_if (qt_chain o_le o_lt qe_int (qe_var 0) (qe_op o_pow qe_int qe_int)) (qss_cons (qs_set 0 sc__law_off.nd (qe_op o_mod (qe_op o_add (qe_op o_add (qe_var 0) (qe_op o_mulB qe_int (qe_var 1))) qe_int) qe_int)) (qss_cons (qs_set 0 sc__law_off.nd (qe_op o_mod (qe_op o_mulB (qe_var 0) (qe_var 0)) qe_int)) (qss_one (qs_ret (qe_op o_mod (qe_op o_mulB (qe_var 0) (qe_op o_add (qe_var 0) (qe_var 1))) qe_int))))) qss_nil) (qss_cons (qs_for PassesOwn.never rfl (qi_range1 rfl T.n_range (qa_cons (qe_var 1) qa_nil)) (qg_name 2 sc__law_off.nd) (qss_one (qs_set 0 sc__law_off.nd (qe_op o_div (qe_var 0) (qe_op o_pow qe_int qe_int))))) (qss_one (qs_ret (qe_op o_mod (qe_var 0) (qe_op o_pow qe_int qe_int))))))
set_option maxHeartbeats 4000000 in
theorem ok__law_tape (T : Txt K mg t) : FnOk P w K mg base CX0 1 t.f__law_tape t.d__law_tape ["_law_script"] (lF K c__law_tape) := by
  refine fn_ok T.F__law_tape sc__law_tape fun cdv A outer s H E hr => ?_
  exact (qss_one (qs_ret (qe_and (qe_cmp o_gt (qe_callB c_len rfl T.n_len boot_len' (qa_cons (qe_var 0) qa_nil)) qe_int (nomark _)) (qe_one (qe_or (qe_cmp o_lt (qe_ix i_ix (qe_var 0) qe_int) qe_int (nomark _)) (qe_one (qe_cmp o_ge (qe_ix i_ix (qe_var 0) qe_int) (qe_op o_pow qe_int qe_int) (nomark _))))))))
set_option maxHeartbeats 4000000 in
theorem ok__law_cell_at (T : Txt K mg t) : FnOk P w K mg base CX0 2 t.f__law_cell_at t.d__law_cell_at ["_law_script", "_law_k"] (lF K c__law_cell_at) := by
  refine fn_ok T.F__law_cell_at sc__law_cell_at fun cdv A outer s H E hr => ?_
  exact (qss_cons (qs_if (qt_val (qe_call (ok__law_tape T) (hr.mono (by decide)) rfl T.m__law_tape T.k__law_tape T.b__law_tape pass0 (qa_cons (qe_var 0) qa_nil))) (qss_cons (qs_set 2 sc__law_cell_at.nd qe_int) (qss_cons (qs_if (qt_cmp o_lt (qe_op o_add qe_int (qe_op o_div (qe_var 1) qe_int)) (qe_callB c_len rfl T.n_len boot_len' (qa_cons (qe_var 0) qa_nil)) (nomark _)) (qss_one (qs_set 2 sc__law_cell_at.nd (qe_ix i_ix (qe_var 0) (qe_op o_add qe_int (qe_op o_div (qe_var 1) qe_int))))) qss_nil) (qss_one (qs_ret (qe_call (ok__law_off T) (hr.mono (by decide)) rfl T.m__law_off T.k__law_off T.b__law_off pass0 (qa_cons (qe_var 2) (qa_cons (qe_op o_mod (qe_var 1) qe_int) qa_nil))))))) qss_nil) (qss_cons (qs_if (qt_cmp o_lt (qe_var 1) (qe_callB c_len rfl T.n_len boot_len' (qa_cons (qe_var 0) qa_nil)) (nomark _)) (qss_one (qs_ret (qe_ix i_ix (qe_var 0) (qe_var 1)))) qss_nil) (qss_cons (qs_set 2 sc__law_cell_at.nd (qe_op o_mod (qe_op o_mulB qe_int (qe_op o_add (qe_op o_mulB (qe_var 1) (qe_var 1)) (qe_op o_mulB qe_int (qe_callB c_len rfl T.n_len boot_len' (qa_cons (qe_var 0) qa_nil))))) qe_int)) (qss_cons (qs_if (qt_cmp o_gt (qe_callB c_len rfl T.n_len boot_len' (qa_cons (qe_var 0) qa_nil)) qe_int (nomark _)) (qss_one (qs_set 2 sc__law_cell_at.nd (qe_op o_add (qe_var 2) (qe_op o_mod (qe_op o_mulB (qe_ix i_ix (qe_var 0) (qe_op o_mod (qe_var 1) (qe_callB c_len rfl T.n_len boot_len' (qa_cons (qe_var 0) qa_nil)))) qe_int) qe_int)))) qss_nil) (qss_one (qs_ret (qe_var 2)))))))
set_option maxHeartbeats 4000000 in
theorem ok__law_grown (T : Txt K mg t) : FnOk P w K mg base CX0 1 t.f__law_grown t.d__law_grown ["_law_takes", "_law_others"] (lF K c__law_grown) := by
  refine fn_ok T.F__law_grown sc__law_grown fun cdv A outer s H E hr => ?_
  exact (qss_cons (qs_for PassesOwn.never rfl (qi_range1 rfl T.n_range (qa_cons (qe_callB c_len rfl T.n_len boot_len' (qa_cons (qe_var 0) qa_nil)) qa_nil)) (qg_name 2 sc__law_grown.nd) (qss_one (qs_if (qt_cmp o_lt (qe_ix i_ix (qe_var 1) (qe_var 2)) (qe_ix i_ix (qe_var 0) (qe_var 2)) (nomark _)) (qss_one (qs_ret qe_bl)) qss_nil))) (qss_one (qs_ret qe_bl)))
set_option maxHeartbeats 4000000 in
theorem ok__law_numbers (T : Txt K mg t) : FnOk P w K mg base CX0 1 t.f__law_numbers t.d__law_numbers ["_law_found", "_law_many_here"] (lF K c__law_numbers) := by
  refine fn_ok T.F__law_numbers sc__law_numbers fun cdv A outer s H E hr => ?_
  exact (qss_cons (qs_if (qt_w (qw_or (qt_not (qt_val (qe_callB c_isi rfl T.n_isinstance boot_isinstance' (qa_cons (qe_var 0) (qa_cons (qe_ty rfl T.n_list boot_list') qa_nil))))) (qw_or1 (qt_cmp (o_ne hr.units) (qe_callB c_len rfl T.n_len boot_len' (qa_cons (qe_var 0) qa_nil)) (qe_var 1) (nomark _))))) (qss_one (qs_ret qe_bl)) qss_nil) (qss_cons (qs_for PassesOwn.never rfl (qi_seq (qe_var 0)) (qg_name 2 sc__law_numbers.nd) (qss_one (qs_if (qt_w (qw_or (qt_not (qt_val (qe_callB c_isi rfl T.n_isinstance boot_isinstance' (qa_cons (qe_var 2) (qa_cons (qe_ty rfl T.n_int boot_int') qa_nil))))) (qw_or1 (qt_val (qe_callB c_isi rfl T.n_isinstance boot_isinstance' (qa_cons (qe_var 2) (qa_cons (qe_ty rfl T.n_bool boot_bool') qa_nil))))))) (qss_one (qs_ret qe_bl)) qss_nil))) (qss_one (qs_ret qe_bl))))
set_option maxHeartbeats 4000000 in
theorem ok__law_gathered (T : Txt K mg t) : FnOk P w K mg base CX0 1 t.f__law_gathered t.d__law_gathered ["_law_rows", "_law_amounts"] (lF K c__law_gathered) := by
  refine fn_ok T.F__law_gathered sc__law_gathered fun cdv A outer s H E hr => ?_
  exact (qss_cons (qs_set 2 sc__law_gathered.nd (qe_tidy (qe_callTy (c_list rfl) rfl T.n_list boot_list' (qa_cons (qe_var 1) qa_nil)))) (qss_cons (qs_for PassesOwn.never rfl (qi_range1 rfl T.n_range (qa_cons (qe_callB c_len rfl T.n_len boot_len' (qa_cons (qe_var 0) qa_nil)) qa_nil)) (qg_name 3 sc__law_gathered.nd) (qss_cons (qs_set 4 sc__law_gathered.nd (qe_ix i_ix (qe_ix i_ix (qe_var 0) (qe_var 3)) qe_int)) (qss_one (qs_if (qt_cmp o_isnot (qe_var 4) qe_non (nomark _)) (qss_one (qs_asg (qe_op o_add (qe_ix i_ix (qe_var 2) (qe_var 4)) (qe_ix i_ix (qe_var 2) (qe_var 3))) (qg_ix (qe_var 2) (qe_var 4)))) qss_nil)))) (qss_one (qs_ret (qe_var 2)))))
set_option maxHeartbeats 4000000 in
theorem ok__law_out (T : Txt K mg t) : FnOk P w K mg base CX0 2 t.f__law_out t.d__law_out ["_law_rows", "_law_takes"] (lF K c__law_out) := by
  refine fn_ok T.F__law_out sc__law_out fun cdv A outer s H E hr => ?_
  exact (qss_cons (qs_set 2 sc__law_out.nd (qe_tidy (qe_call (ok__law_gathered T) (hr.mono (by decide)) rfl T.m__law_gathered T.k__law_gathered T.b__law_gathered pass0 (qa_cons (qe_var 0) (qa_cons (qe_frz (qe_comp rfl (compSc (dn := (defScope s__law_out).names) (N0 := N__law_out) (N := ["_law_k", "_law_rows", "_law_takes"]) (nt := 1) (caps := [0, 1])) (qi_range1 rfl T.n_range (qa_cons (qe_callB c_len rfl T.n_len boot_len' (qa_cons (qe_var 0) qa_nil)) qa_nil)) (fun C s₀ H₀ ex => (qg_name 0 (show (["_law_k", "_law_rows", "_law_takes"] : List Str).Nodup by decide +kernel))) (gk_name (by decide)) (fun C s₀ H₀ ex => qts_nil) (fun C s₀ H₀ ex => (qe_op o_sub (qe_ix i_ix (qe_ix i_ix (qe_var 1) (qe_var 0)) qe_int) (qe_ix i_ix (qe_var 2) (qe_var 0)))))) qa_nil))))) (qss_cons (qs_for PassesOwn.never rfl (qi_range1 rfl T.n_range (qa_cons (qe_callB c_len rfl T.n_len boot_len' (qa_cons (qe_var 0) qa_nil)) qa_nil)) (qg_name 3 sc__law_out.nd) (qss_one (qs_if (qt_cmp o_isnot (qe_ix i_ix (qe_ix i_ix (qe_var 0) (qe_var 3)) qe_int) qe_non (nomark _)) (qss_one (qs_asg qe_int (qg_ix (qe_var 2) (qe_var 3)))) qss_nil))) (qss_one (qs_ret (qe_var 2)))))
set_option maxHeartbeats 4000000 in
theorem ok__law_many (T : Txt K mg t) : FnOk P w K mg base CX0 3 t.f__law_many t.d__law_many ["_law_script"] (lF K c__law_many) := by
  refine fn_ok T.F__law_many sc__law_many fun cdv A outer s H E hr => ?_
  exact (qss_cons (qs_set 1 sc__law_many.nd (qe_call (ok__law_cell_at T) (hr.mono (by decide)) rfl T.m__law_cell_at T.k__law_cell_at T.b__law_cell_at pass0 (qa_cons (qe_var 0) (qa_cons qe_int qa_nil)))) (qss_cons (qs_if (qt_cmp (o_eq hr.units) (qe_op o_mod (qe_op o_div (qe_var 1) qe_int) qe_int) qe_int (nomark _)) (qss_one (qs_ret (qe_op o_mod (qe_op o_div (qe_var 1) qe_int) qe_int))) qss_nil) (qss_one (qs_ret (qe_op o_mod (qe_var 1) qe_int)))))
set_option maxHeartbeats 4000000 in
theorem ok__law_reach (T : Txt K mg t) : FnOk P w K mg base CX0 4 t.f__law_reach t.d__law_reach ["_law_script"] (lF K c__law_reach) := by
  refine fn_ok T.F__law_reach sc__law_reach fun cdv A outer s H E hr => ?_
  exact (qss_cons (qs_set 1 sc__law_reach.nd (qe_call (ok__law_many T) (hr.mono (by decide)) rfl T.m__law_many T.k__law_many T.b__law_many pass0 (qa_cons (qe_var 0) qa_nil))) (qss_cons (qs_set 2 sc__law_reach.nd (qe_op o_mod (qe_op o_div (qe_call (ok__law_cell_at T) (hr.mono (by decide)) rfl T.m__law_cell_at T.k__law_cell_at T.b__law_cell_at pass0 (qa_cons (qe_var 0) (qa_cons qe_int qa_nil))) qe_int) qe_int)) (qss_cons (qs_set 3 sc__law_reach.nd (qe_op o_mod (qe_op o_div (qe_call (ok__law_cell_at T) (hr.mono (by decide)) rfl T.m__law_cell_at T.k__law_cell_at T.b__law_cell_at pass0 (qa_cons (qe_var 0) (qa_cons qe_int qa_nil))) qe_int) qe_int)) (qss_cons (qs_set 4 sc__law_reach.nd (qe_tidy (qe_lst qa_nil))) (qss_cons (qs_for PassesOwn.never rfl (qi_range1 rfl T.n_range (qa_cons (qe_var 1) qa_nil)) (qg_name 5 sc__law_reach.nd) (qss_cons (qs_set 6 sc__law_reach.nd (qe_op o_mod (qe_call (ok__law_cell_at T) (hr.mono (by decide)) rfl T.m__law_cell_at T.k__law_cell_at T.b__law_cell_at pass0 (qa_cons (qe_var 0) (qa_cons (qe_op o_add (qe_op o_mulB qe_int (qe_var 5)) qe_int) qa_nil))) (qe_op o_sub (qe_var 1) (qe_var 5)))) (qss_cons (qs_if (qt_cmp (o_eq hr.units) (qe_var 2) qe_int (nomark _)) (qss_one (qs_set 6 sc__law_reach.nd (qe_callB (c_min rfl) rfl T.n_min boot_min' (qa_cons qe_int (qa_cons (qe_op o_sub (qe_op o_sub (qe_var 1) qe_int) (qe_var 5)) qa_nil))))) qss_nil) (qss_cons (qs_if (qt_cmp (o_eq hr.units) (qe_var 2) qe_int (nomark _)) (qss_one (qs_set 6 sc__law_reach.nd (qe_op o_sub (qe_op o_sub (qe_var 1) qe_int) (qe_var 5)))) qss_nil) (qss_cons (qs_set 7 sc__law_reach.nd qe_non) (qss_cons (qs_if (qt_cmp o_gt (qe_var 6) qe_int (nomark _)) (qss_one (qs_set 7 sc__law_reach.nd (qe_op o_add (qe_var 5) (qe_var 6)))) qss_nil) (qss_cons (qs_set 8 sc__law_reach.nd (qe_call (ok__law_amount T) (hr.mono (by decide)) rfl T.m__law_amount T.k__law_amount T.b__law_amount pass0 (qa_cons (qe_call (ok__law_cell_at T) (hr.mono (by decide)) rfl T.m__law_cell_at T.k__law_cell_at T.b__law_cell_at pass0 (qa_cons (qe_var 0) (qa_cons (qe_op o_add (qe_op o_mulB qe_int (qe_var 5)) qe_int) qa_nil))) (qa_cons (qe_var 3) qa_nil)))) (qss_cons (qs_set 9 sc__law_reach.nd (qe_call (ok__law_amount T) (hr.mono (by decide)) rfl T.m__law_amount T.k__law_amount T.b__law_amount pass0 (qa_cons (qe_call (ok__law_cell_at T) (hr.mono (by decide)) rfl T.m__law_cell_at T.k__law_cell_at T.b__law_cell_at pass0 (qa_cons (qe_var 0) (qa_cons (qe_op o_add (qe_op o_mulB qe_int (qe_var 5)) qe_int) qa_nil))) (qa_cons (qe_var 3) qa_nil)))) (qss_cons (qs_if (qt_cmp (o_eq hr.units) (qe_var 3) qe_int (nomark _)) (qss_one (qs_set 9 sc__law_reach.nd (qe_op o_mulB qe_int (qe_var 9)))) qss_nil) (qss_cons (qs_set 10 sc__law_reach.nd (qe_op o_mod (qe_call (ok__law_cell_at T) (hr.mono (by decide)) rfl T.m__law_cell_at T.k__law_cell_at T.b__law_cell_at pass0 (qa_cons (qe_var 0) (qa_cons (qe_op o_add (qe_op o_mulB qe_int (qe_var 5)) qe_int) qa_nil))) qe_int)) (qss_cons (qs_if (qt_cmp (o_eq hr.units) (qe_var 3) qe_int (nomark _)) (qss_one (qs_set 10 sc__law_reach.nd (qe_op o_mod (qe_call (ok__law_cell_at T) (hr.mono (by decide)) rfl T.m__law_cell_at T.k__law_cell_at T.b__law_cell_at pass0 (qa_cons (qe_var 0) (qa_cons (qe_op o_add (qe_op o_mulB qe_int (qe_var 5)) qe_int) qa_nil))) (qe_op o_pow qe_int qe_int)))) qss_nil) (qss_one (qs_expr (qe_mtL PySem.F.slot_list_append PySem.F.type_list_append m_append (qe_var 4) (qa_cons (qe_tup (qa_cons (qe_var 7) (qa_cons (qe_var 8) (qa_cons (qe_var 9) (qa_cons (qe_var 10) qa_nil))))) qa_nil))))))))))))))) (qss_one (qs_ret (qe_var 4))))))))
set_option maxHeartbeats 4000000 in
theorem ok_passed (T : Txt K mg t) : FnOk P w K mg base CX0 1 t.f_passed t.d_passed ["rows", "takes"] (lF K c_passed) := by
  refine fn_ok T.F_passed sc_passed fun cdv A outer s H E hr => ?_
  exact (qss_cons (qs_setComp 2 rfl sc_passed.nd (compSc (dn := (defScope s_passed).names) (N0 := N_passed) (N := ["row", "take"]) (nt := 2) (caps := [])) (qi_zip2 rfl T.n_zip (qa_cons (qe_var 0) (qa_cons (qe_var 1) qa_nil))) (fun C s₀ H₀ ex => (qg_tup rfl (qgs_cons (qg_name 0 (show (["row", "take"] : List Str).Nodup by decide +kernel)) (qgs_cons (qg_name 1 (show (["row", "take"] : List Str).Nodup by decide +kernel)) qgs_nil)))) (gk_tup (gks_cons (gk_name (by decide)) (gks_cons (gk_name (by decide)) gks_nil))) (fun C s₀ H₀ ex => qts_nil) (fun C s₀ H₀ ex => (qe_op o_sub (qe_ix i_ix (qe_var 0) (qe_glob (v := (.int 1)) rfl T.g_ROW_WATER ⟨_, rfl⟩ (fun _ _ => rfl))) (qe_var 1)))) (qss_cons (qs_for PassesOwn.never rfl (qi_enum rfl T.n_enumerate (qa_cons (qe_var 0) qa_nil)) (qg_tup rfl (qgs_cons (qg_name 4 sc_passed.nd) (qgs_cons (qg_name 3 sc_passed.nd) qgs_nil))) (qss_one (qs_if (qt_cmp o_isnot (qe_ix i_ix (qe_var 3) (qe_glob (v := (.int 0)) rfl T.g_ROW_DOWN ⟨_, rfl⟩ (fun _ _ => rfl))) qe_non (nomark _)) (qss_one (qs_augIx (qe_var 2) (qe_ix i_ix (qe_var 3) (qe_glob (v := (.int 0)) rfl T.g_ROW_DOWN ⟨_, rfl⟩ (fun _ _ => rfl))) (qe_ix i_ix (qe_var 2) (qe_var 4)) ip_addD)) qss_nil))) (qss_one (qs_ret (qe_var 2)))))
set_option maxHeartbeats 4000000 in
theorem ok_served (T : Txt K mg t) : FnOk P w K mg base CX0 1 t.f_served t.d_served ["rows"] (lF K c_served) := by
  refine fn_ok T.F_served sc_served fun cdv A outer s H E hr => ?_
  exact (qss_cons (qs_set 1 sc_served.nd (qe_frz (qe_callB c_sorted rfl T.n_sorted boot_sorted' (qa_cons (qe_frz (qe_comp rfl (compSc (dn := (defScope s_served).names) (N0 := N_served) (N := ["number", "row"]) (nt := 2) (caps := [])) (qi_enum rfl T.n_enumerate (qa_cons (qe_var 0) qa_nil)) (fun C s₀ H₀ ex => (qg_tup rfl (qgs_cons (qg_name 0 (show (["number", "row"] : List Str).Nodup by decide +kernel)) (qgs_cons (qg_name 1 (show (["number", "row"] : List Str).Nodup by decide +kernel)) qgs_nil)))) (gk_tup (gks_cons (gk_name (by decide)) (gks_cons (gk_name (by decide)) gks_nil))) (fun C s₀ H₀ ex => qts_nil) (fun C s₀ H₀ ex => (qe_tup (qa_cons (qe_ix i_ix (qe_var 1) (qe_glob (v := (.int 3)) rfl T.g_ROW_RANK ⟨_, rfl⟩ (fun _ _ => rfl))) (qa_cons (qe_var 0) qa_nil)))))) qa_nil)))) (qss_one (qs_ret (qe_comp rfl (compSc (dn := (defScope s_served).names) (N0 := N_served) (N := ["rank", "number"]) (nt := 2) (caps := [])) (qi_seq (qe_var 1)) (fun C s₀ H₀ ex => (qg_tup rfl (qgs_cons (qg_name 0 (show (["rank", "number"] : List Str).Nodup by decide +kernel)) (qgs_cons (qg_name 1 (show (["rank", "number"] : List Str).Nodup by decide +kernel)) qgs_nil)))) (gk_tup (gks_cons (gk_name (by decide)) (gks_cons (gk_name (by decide)) gks_nil))) (fun C s₀ H₀ ex => qts_nil) (fun C s₀ H₀ ex => (qe_var 1))))))
set_option maxHeartbeats 4000000 in
theorem ok_way_down (T : Txt K mg t) : FnOk P w K mg base CX0 1 t.f_way_down t.d_way_down ["rows", "number"] (lF K c_way_down) := by
  refine fn_ok T.F_way_down sc_way_down fun cdv A outer s H E hr => ?_
  exact (qss_cons (qs_set 2 sc_way_down.nd (qe_tidy (qe_lst (qa_cons (qe_var 1) qa_nil)))) (qss_cons (qs_set 3 sc_way_down.nd (qe_ix i_ix (qe_ix i_ix (qe_var 0) (qe_var 1)) (qe_glob (v := (.int 0)) rfl T.g_ROW_DOWN ⟨_, rfl⟩ (fun _ _ => rfl)))) (qss_cons (qs_while fuel PassesOwn.never (qt_cmp o_isnot (qe_var 3) qe_non (nomark _)) (qss_cons (qs_expr (qe_mtL PySem.F.slot_list_append PySem.F.type_list_append m_append (qe_var 2) (qa_cons (qe_var 3) qa_nil))) (qss_one (qs_set 3 sc_way_down.nd (qe_ix i_ix (qe_ix i_ix (qe_var 0) (qe_var 3)) (qe_glob (v := (.int 0)) rfl T.g_ROW_DOWN ⟨_, rfl⟩ (fun _ _ => rfl))))))) (qss_one (qs_ret (qe_var 2))))))
set_option maxHeartbeats 4000000 in
theorem ok_shares (T : Txt K mg t) : FnOk P w K mg base CX0 2 t.f_shares t.d_shares ["rows"] (lF K c_shares) := by
  refine fn_ok T.F_shares sc_shares fun cdv A outer s H E hr => ?_
  exact (qss_cons (qs_set 1 sc_shares.nd (qe_tidy (qe_op o_rep (qe_lst (qa_cons qe_int qa_nil)) (qe_callB c_len rfl T.n_len boot_len' (qa_cons (qe_var 0) qa_nil))))) (qss_cons (qs_set 2 sc_shares.nd (qe_tidy (qe_call (ok_passed T) (hr.mono (by decide)) rfl T.m_passed T.k_passed T.b_passed pass0 (qa_cons (qe_var 0) (qa_cons (qe_var 1) qa_nil))))) (qss_cons (qs_for PassesOwn.never rfl (qi_seq (qe_frz (qe_call (ok_served T) (hr.mono (by decide)) rfl T.m_served T.k_served T.b_served pass0 (qa_cons (qe_var 0) qa_nil)))) (qg_name 3 sc_shares.nd) (qss_cons (qs_set 4 sc_shares.nd (qe_frz (qe_call (ok_way_down T) (hr.mono (by decide)) rfl T.m_way_down T.k_way_down T.b_way_down pass0 (qa_cons (qe_var 0) (qa_cons (qe_var 3) qa_nil))))) (qss_cons (qs_set 5 sc_shares.nd (qe_callB (c_min rfl) rfl T.n_min boot_min' (qa_cons (qe_ix i_ix (qe_ix i_ix (qe_var 0) (qe_var 3)) (qe_glob (v := (.int 2)) rfl T.g_ROW_NEED ⟨_, rfl⟩ (fun _ _ => rfl))) (qa_cons (qe_callB (c_minL rfl) rfl T.n_min boot_min' (qa_cons (qe_frz (qe_comp rfl (compSc (dn := (defScope s_shares).names) (N0 := N_shares) (N := ["below", "passing"]) (nt := 1) (caps := [2])) (qi_seq (qe_var 4)) (fun C s₀ H₀ ex => (qg_name 0 (show (["below", "passing"] : List Str).Nodup by decide +kernel))) (gk_name (by decide)) (fun C s₀ H₀ ex => qts_nil) (fun C s₀ H₀ ex => (qe_ix i_ix (qe_var 1) (qe_var 0))))) qa_nil)) qa_nil)))) (qss_cons (qs_asg (qe_var 5) (qg_ix (qe_var 1) (qe_var 3))) (qss_one (qs_for PassesOwn.never rfl (qi_seq (qe_var 4)) (qg_name 6 sc_shares.nd) (qss_one (qs_augIx (qe_var 2) (qe_var 6) (qe_var 5) ip_subD)))))))) (qss_one (qs_ret (qe_var 1))))))
set_option maxHeartbeats 4000000 in
theorem ok_law (T : Txt K mg t) : FnOk P w K mg base CX0 5 t.f_law t.d_law ["_law_script"] (lF K c_law) := by
  refine fn_ok T.F_law sc_law fun cdv A outer s H E hr => ?_
  exact (qss_cons (qs_set 1 sc_law.nd (qe_frz (qe_call (ok__law_reach T) (hr.mono (by decide)) rfl T.m__law_reach T.k__law_reach T.b__law_reach pass0 (qa_cons (qe_var 0) qa_nil)))) (qss_cons (qs_if (qt_cmp (o_eq hr.units) (qe_var 1) (qe_frz (qe_lst qa_nil)) (nomark _)) (qss_one (qs_ret qe_bl)) qss_nil) (qss_cons (qs_set 2 sc_law.nd (qe_op o_mod (qe_op o_div (qe_call (ok__law_cell_at T) (hr.mono (by decide)) rfl T.m__law_cell_at T.k__law_cell_at T.b__law_cell_at pass0 (qa_cons (qe_var 0) (qa_cons qe_int qa_nil))) qe_int) qe_int)) (qss_cons (qs_set 3 sc_law.nd (qe_callB (c_max rfl) rfl T.n_max boot_max' (qa_cons qe_int (qa_cons (qe_op o_add (qe_op o_mulB qe_int (qe_callB c_len rfl T.n_len boot_len' (qa_cons (qe_var 1) qa_nil))) qe_int) qa_nil)))) (qss_cons (qs_set 4 sc_law.nd (qe_op o_mod (qe_call (ok__law_cell_at T) (hr.mono (by decide)) rfl T.m__law_cell_at T.k__law_cell_at T.b__law_cell_at pass0 (qa_cons (qe_var 0) (qa_cons (qe_var 3) qa_nil))) (qe_callB c_len rfl T.n_len boot_len' (qa_cons (qe_var 1) qa_nil)))) (qss_cons (qs_set 5 sc_law.nd (qe_tidy (qe_callTy (c_list rfl) rfl T.n_list boot_list' (qa_cons (qe_var 1) qa_nil)))) (qss_cons (qs_asg (qe_tup (qa_cons (qe_ix i_ix (qe_ix i_ix (qe_var 1) (qe_var 4)) qe_int) (qa_cons (qe_op o_add (qe_ix i_ix (qe_ix i_ix (qe_var 1) (qe_var 4)) qe_int) qe_int) (qa_cons (qe_ix i_ix (qe_ix i_ix (qe_var 1) (qe_var 4)) qe_int) (qa_cons (qe_ix i_ix (qe_ix i_ix (qe_var 1) (qe_var 4)) qe_int) qa_nil))))) (qg_ix (qe_var 5) (qe_var 4))) (qss_cons (qs_fzv 5 (qs_set 6 sc_law.nd (qe_tidy (qe_lst qa_nil)))) (qss_cons (qs_for PassesOwn.never rfl (qi_range1 rfl T.n_range (qa_cons (qe_callB c_len rfl T.n_len boot_len' (qa_cons (qe_var 1) qa_nil)) qa_nil)) (qg_name 7 sc_law.nd) (qss_cons (qs_set 8 sc_law.nd (qe_op o_add (qe_ix i_ix (qe_ix i_ix (qe_var 1) (qe_var 7)) qe_int) (qe_call (ok__law_amount T) (hr.mono (by decide)) rfl T.m__law_amount T.k__law_amount T.b__law_amount pass0 (qa_cons (qe_call (ok__law_cell_at T) (hr.mono (by decide)) rfl T.m__law_cell_at T.k__law_cell_at T.b__law_cell_at pass0 (qa_cons (qe_var 0) (qa_cons (qe_op o_add (qe_op o_add (qe_var 3) qe_int) (qe_var 7)) qa_nil))) (qa_cons (qe_callB (c_min rfl) rfl T.n_min boot_min' (qa_cons (qe_var 2) (qa_cons qe_int qa_nil))) qa_nil))))) (qss_one (qs_expr (qe_mtL PySem.F.slot_list_append PySem.F.type_list_append m_append (qe_var 6) (qa_cons (qe_tup (qa_cons (qe_ix i_ix (qe_ix i_ix (qe_var 1) (qe_var 7)) qe_int) (qa_cons (qe_var 8) (qa_cons (qe_ix i_ix (qe_ix i_ix (qe_var 1) (qe_var 7)) qe_int) (qa_cons (qe_ix i_ix (qe_ix i_ix (qe_var 1) (qe_var 7)) qe_int) qa_nil))))) qa_nil)))))) (qss_cons (qs_fzv 6 (qs_set 9 sc_law.nd (qe_frz (qe_lst (qa_cons (qe_frz (qe_call (ok_shares T) (hr.mono (by decide)) rfl T.m_shares T.k_shares T.b_shares pass0 (qa_cons (qe_frz (qe_callTy (c_list rfl) rfl T.n_list boot_list' (qa_cons (qe_var 1) qa_nil))) qa_nil))) (qa_cons (qe_frz (qe_call (ok_shares T) (hr.mono (by decide)) rfl T.m_shares T.k_shares T.b_shares pass0 (qa_cons (qe_frz (qe_callTy (c_list rfl) rfl T.n_list boot_list' (qa_cons (qe_var 5) qa_nil))) qa_nil))) (qa_cons (qe_frz (qe_call (ok_shares T) (hr.mono (by decide)) rfl T.m_shares T.k_shares T.b_shares pass0 (qa_cons (qe_frz (qe_callTy (c_list rfl) rfl T.n_list boot_list' (qa_cons (qe_var 6) qa_nil))) qa_nil))) qa_nil))))))) (qss_cons (qs_for PassesOwn.never rfl (qi_seq (qe_var 9)) (qg_name 10 sc_law.nd) (qss_one (qs_if (qt_not (qt_val (qe_call (ok__law_numbers T) (hr.mono (by decide)) rfl T.m__law_numbers T.k__law_numbers T.b__law_numbers pass0 (qa_cons (qe_var 10) (qa_cons (qe_callB c_len rfl T.n_len boot_len' (qa_cons (qe_var 1) qa_nil)) qa_nil))))) (qss_one (qs_ret qe_bl)) qss_nil))) (qss_cons (qs_if (qt_w (qw_or (qt_not (qt_val (qe_call (ok__law_grown T) (hr.mono (by decide)) rfl T.m__law_grown T.k__law_grown T.b__law_grown pass0 (qa_cons (qe_ix i_ix (qe_var 9) qe_int) (qa_cons (qe_ix i_ix (qe_var 9) qe_int) qa_nil))))) (qw_or1 (qt_not (qt_val (qe_call (ok__law_grown T) (hr.mono (by decide)) rfl T.m__law_grown T.k__law_grown T.b__law_grown pass0 (qa_cons (qe_ix i_ix (qe_var 9) qe_int) (qa_cons (qe_ix i_ix (qe_var 9) qe_int) qa_nil)))))))) (qss_one (qs_ret qe_bl)) qss_nil) (qss_cons (qs_set 11 sc_law.nd (qe_frz (qe_lst (qa_cons (qe_frz (qe_call (ok__law_out T) (hr.mono (by decide)) rfl T.m__law_out T.k__law_out T.b__law_out pass0 (qa_cons (qe_var 1) (qa_cons (qe_ix i_ix (qe_var 9) qe_int) qa_nil)))) (qa_cons (qe_frz (qe_call (ok__law_out T) (hr.mono (by decide)) rfl T.m__law_out T.k__law_out T.b__law_out pass0 (qa_cons (qe_var 5) (qa_cons (qe_ix i_ix (qe_var 9) qe_int) qa_nil)))) (qa_cons (qe_frz (qe_call (ok__law_out T) (hr.mono (by decide)) rfl T.m__law_out T.k__law_out T.b__law_out pass0 (qa_cons (qe_var 6) (qa_cons (qe_ix i_ix (qe_var 9) qe_int) qa_nil)))) qa_nil)))))) (qss_cons (qs_if (qt_w (qw_or (qt_not (qt_val (qe_call (ok__law_grown T) (hr.mono (by decide)) rfl T.m__law_grown T.k__law_grown T.b__law_grown pass0 (qa_cons (qe_ix i_ix (qe_var 11) qe_int) (qa_cons (qe_ix i_ix (qe_var 11) qe_int) qa_nil))))) (qw_or1 (qt_not (qt_val (qe_call (ok__law_grown T) (hr.mono (by decide)) rfl T.m__law_grown T.k__law_grown T.b__law_grown pass0 (qa_cons (qe_ix i_ix (qe_var 11) qe_int) (qa_cons (qe_ix i_ix (qe_var 11) qe_int) qa_nil)))))))) (qss_one (qs_ret qe_bl)) qss_nil) (qss_one (qs_ret (qe_and (qe_cmp o_le (qe_callB (c_sum rfl) rfl T.n_sum boot_sum' (qa_cons (qe_ix i_ix (qe_var 9) qe_int) qa_nil)) (qe_op o_add (qe_callB (c_sum rfl) rfl T.n_sum boot_sum' (qa_cons (qe_ix i_ix (qe_var 9) qe_int) qa_nil)) qe_int) (nomark _)) (qe_one (qe_cmp o_le (qe_callB (c_sum rfl) rfl T.n_sum boot_sum' (qa_cons (qe_ix i_ix (qe_var 11) qe_int) qa_nil)) (qe_op o_add (qe_callB (c_sum rfl) rfl T.n_sum boot_sum' (qa_cons (qe_ix i_ix (qe_var 11) qe_int) qa_nil)) qe_int) (nomark _))))))))))))))))))))
end
theorem all_mk {l : PySem.W.OpenLaw} {w : World} {K : PySem.W.Frag} {h : Heap} {mg : Str → Option Value} {fa : Addr} (X : K.In h) (G : h.Ns mainGlobals mg) (hfa : mg "law" = some (.ref fa))
    {f__law_amount : Addr} {od__law_amount an__law_amount : Option Addr} {sl__law_amount : Array (Option Value)} {oc__law_amount kV__law_amount dc__law_amount pm__law_amount cd__law_amount ct__law_amount : Value}
    {f__law_off : Addr} {od__law_off an__law_off : Option Addr} {sl__law_off : Array (Option Value)} {oc__law_off kV__law_off dc__law_off pm__law_off cd__law_off ct__law_off : Value}
    {f__law_tape : Addr} {od__law_tape an__law_tape : Option Addr} {sl__law_tape : Array (Option Value)} {oc__law_tape kV__law_tape dc__law_tape pm__law_tape cd__law_tape ct__law_tape : Value}
    {f__law_cell_at : Addr} {od__law_cell_at an__law_cell_at : Option Addr} {sl__law_cell_at : Array (Option Value)} {oc__law_cell_at kV__law_cell_at dc__law_cell_at pm__law_cell_at cd__law_cell_at ct__law_cell_at : Value}
    {f__law_grown : Addr} {od__law_grown an__law_grown : Option Addr} {sl__law_grown : Array (Option Value)} {oc__law_grown kV__law_grown dc__law_grown pm__law_grown cd__law_grown ct__law_grown : Value}
    {f__law_numbers : Addr} {od__law_numbers an__law_numbers : Option Addr} {sl__law_numbers : Array (Option Value)} {oc__law_numbers kV__law_numbers dc__law_numbers pm__law_numbers cd__law_numbers ct__law_numbers : Value}
    {f__law_gathered : Addr} {od__law_gathered an__law_gathered : Option Addr} {sl__law_gathered : Array (Option Value)} {oc__law_gathered kV__law_gathered dc__law_gathered pm__law_gathered cd__law_gathered ct__law_gathered : Value}
    {f__law_out : Addr} {od__law_out an__law_out : Option Addr} {sl__law_out : Array (Option Value)} {oc__law_out kV__law_out dc__law_out pm__law_out cd__law_out ct__law_out : Value}
    {f__law_many : Addr} {od__law_many an__law_many : Option Addr} {sl__law_many : Array (Option Value)} {oc__law_many kV__law_many dc__law_many pm__law_many cd__law_many ct__law_many : Value}
    {f__law_reach : Addr} {od__law_reach an__law_reach : Option Addr} {sl__law_reach : Array (Option Value)} {oc__law_reach kV__law_reach dc__law_reach pm__law_reach cd__law_reach ct__law_reach : Value}
    {f_passed : Addr} {od_passed an_passed : Option Addr} {sl_passed : Array (Option Value)} {oc_passed kV_passed dc_passed pm_passed cd_passed ct_passed : Value}
    {f_served : Addr} {od_served an_served : Option Addr} {sl_served : Array (Option Value)} {oc_served kV_served dc_served pm_served cd_served ct_served : Value}
    {f_way_down : Addr} {od_way_down an_way_down : Option Addr} {sl_way_down : Array (Option Value)} {oc_way_down kV_way_down dc_way_down pm_way_down cd_way_down ct_way_down : Value}
    {f_shares : Addr} {od_shares an_shares : Option Addr} {sl_shares : Array (Option Value)} {oc_shares kV_shares dc_shares pm_shares cd_shares ct_shares : Value}
    {f_law : Addr} {od_law an_law : Option Addr} {sl_law : Array (Option Value)} {oc_law kV_law dc_law pm_law cd_law ct_law : Value}
    {tk_ROW_DOWN : Tok}
    {tk_ROW_NEED : Tok}
    {tk_ROW_RANK : Tok}
    {tk_ROW_WATER : Tok}
    (a__law_amount : PySem.W.nsIn K mainGlobals "_law_amount" = some (some (.ref f__law_amount)))
    (l__law_amount : K.lookup f__law_amount = some ⟨oc__law_amount, od__law_amount, .func (PySem.W.fnOf "_law_amount" "_law_amount" (defArgs s__law_amount) (defBody s__law_amount) (defScope s__law_amount) .none kV__law_amount dc__law_amount pm__law_amount an__law_amount cd__law_amount ct__law_amount), sl__law_amount⟩)
    (cc__law_amount : PySem.W.codeIn K cd__law_amount "_law_amount" = true)
    (k__law_amount : PySem.W.keepIn K (.ref f__law_amount) = true)
    (a__law_off : PySem.W.nsIn K mainGlobals "_law_off" = some (some (.ref f__law_off)))
    (l__law_off : K.lookup f__law_off = some ⟨oc__law_off, od__law_off, .func (PySem.W.fnOf "_law_off" "_law_off" (defArgs s__law_off) (defBody s__law_off) (defScope s__law_off) .none kV__law_off dc__law_off pm__law_off an__law_off cd__law_off ct__law_off), sl__law_off⟩)
    (cc__law_off : PySem.W.codeIn K cd__law_off "_law_off" = true)
    (k__law_off : PySem.W.keepIn K (.ref f__law_off) = true)
    (a__law_tape : PySem.W.nsIn K mainGlobals "_law_tape" = some (some (.ref f__law_tape)))
    (l__law_tape : K.lookup f__law_tape = some ⟨oc__law_tape, od__law_tape, .func (PySem.W.fnOf "_law_tape" "_law_tape" (defArgs s__law_tape) (defBody s__law_tape) (defScope s__law_tape) .none kV__law_tape dc__law_tape pm__law_tape an__law_tape cd__law_tape ct__law_tape), sl__law_tape⟩)
    (cc__law_tape : PySem.W.codeIn K cd__law_tape "_law_tape" = true)
    (k__law_tape : PySem.W.keepIn K (.ref f__law_tape) = true)
    (a__law_cell_at : PySem.W.nsIn K mainGlobals "_law_cell_at" = some (some (.ref f__law_cell_at)))
    (l__law_cell_at : K.lookup f__law_cell_at = some ⟨oc__law_cell_at, od__law_cell_at, .func (PySem.W.fnOf "_law_cell_at" "_law_cell_at" (defArgs s__law_cell_at) (defBody s__law_cell_at) (defScope s__law_cell_at) .none kV__law_cell_at dc__law_cell_at pm__law_cell_at an__law_cell_at cd__law_cell_at ct__law_cell_at), sl__law_cell_at⟩)
    (cc__law_cell_at : PySem.W.codeIn K cd__law_cell_at "_law_cell_at" = true)
    (k__law_cell_at : PySem.W.keepIn K (.ref f__law_cell_at) = true)
    (a__law_grown : PySem.W.nsIn K mainGlobals "_law_grown" = some (some (.ref f__law_grown)))
    (l__law_grown : K.lookup f__law_grown = some ⟨oc__law_grown, od__law_grown, .func (PySem.W.fnOf "_law_grown" "_law_grown" (defArgs s__law_grown) (defBody s__law_grown) (defScope s__law_grown) .none kV__law_grown dc__law_grown pm__law_grown an__law_grown cd__law_grown ct__law_grown), sl__law_grown⟩)
    (cc__law_grown : PySem.W.codeIn K cd__law_grown "_law_grown" = true)
    (k__law_grown : PySem.W.keepIn K (.ref f__law_grown) = true)
    (a__law_numbers : PySem.W.nsIn K mainGlobals "_law_numbers" = some (some (.ref f__law_numbers)))
    (l__law_numbers : K.lookup f__law_numbers = some ⟨oc__law_numbers, od__law_numbers, .func (PySem.W.fnOf "_law_numbers" "_law_numbers" (defArgs s__law_numbers) (defBody s__law_numbers) (defScope s__law_numbers) .none kV__law_numbers dc__law_numbers pm__law_numbers an__law_numbers cd__law_numbers ct__law_numbers), sl__law_numbers⟩)
    (cc__law_numbers : PySem.W.codeIn K cd__law_numbers "_law_numbers" = true)
    (k__law_numbers : PySem.W.keepIn K (.ref f__law_numbers) = true)
    (a__law_gathered : PySem.W.nsIn K mainGlobals "_law_gathered" = some (some (.ref f__law_gathered)))
    (l__law_gathered : K.lookup f__law_gathered = some ⟨oc__law_gathered, od__law_gathered, .func (PySem.W.fnOf "_law_gathered" "_law_gathered" (defArgs s__law_gathered) (defBody s__law_gathered) (defScope s__law_gathered) .none kV__law_gathered dc__law_gathered pm__law_gathered an__law_gathered cd__law_gathered ct__law_gathered), sl__law_gathered⟩)
    (cc__law_gathered : PySem.W.codeIn K cd__law_gathered "_law_gathered" = true)
    (k__law_gathered : PySem.W.keepIn K (.ref f__law_gathered) = true)
    (a__law_out : PySem.W.nsIn K mainGlobals "_law_out" = some (some (.ref f__law_out)))
    (l__law_out : K.lookup f__law_out = some ⟨oc__law_out, od__law_out, .func (PySem.W.fnOf "_law_out" "_law_out" (defArgs s__law_out) (defBody s__law_out) (defScope s__law_out) .none kV__law_out dc__law_out pm__law_out an__law_out cd__law_out ct__law_out), sl__law_out⟩)
    (cc__law_out : PySem.W.codeIn K cd__law_out "_law_out" = true)
    (k__law_out : PySem.W.keepIn K (.ref f__law_out) = true)
    (a__law_many : PySem.W.nsIn K mainGlobals "_law_many" = some (some (.ref f__law_many)))
    (l__law_many : K.lookup f__law_many = some ⟨oc__law_many, od__law_many, .func (PySem.W.fnOf "_law_many" "_law_many" (defArgs s__law_many) (defBody s__law_many) (defScope s__law_many) .none kV__law_many dc__law_many pm__law_many an__law_many cd__law_many ct__law_many), sl__law_many⟩)
    (cc__law_many : PySem.W.codeIn K cd__law_many "_law_many" = true)
    (k__law_many : PySem.W.keepIn K (.ref f__law_many) = true)
    (a__law_reach : PySem.W.nsIn K mainGlobals "_law_reach" = some (some (.ref f__law_reach)))
    (l__law_reach : K.lookup f__law_reach = some ⟨oc__law_reach, od__law_reach, .func (PySem.W.fnOf "_law_reach" "_law_reach" (defArgs s__law_reach) (defBody s__law_reach) (defScope s__law_reach) .none kV__law_reach dc__law_reach pm__law_reach an__law_reach cd__law_reach ct__law_reach), sl__law_reach⟩)
    (cc__law_reach : PySem.W.codeIn K cd__law_reach "_law_reach" = true)
    (k__law_reach : PySem.W.keepIn K (.ref f__law_reach) = true)
    (a_passed : PySem.W.nsIn K mainGlobals "passed" = some (some (.ref f_passed)))
    (l_passed : K.lookup f_passed = some ⟨oc_passed, od_passed, .func (PySem.W.fnOf "passed" "passed" (defArgs s_passed) (defBody s_passed) (defScope s_passed) .none kV_passed dc_passed pm_passed an_passed cd_passed ct_passed), sl_passed⟩)
    (cc_passed : PySem.W.codeIn K cd_passed "passed" = true)
    (k_passed : PySem.W.keepIn K (.ref f_passed) = true)
    (a_served : PySem.W.nsIn K mainGlobals "served" = some (some (.ref f_served)))
    (l_served : K.lookup f_served = some ⟨oc_served, od_served, .func (PySem.W.fnOf "served" "served" (defArgs s_served) (defBody s_served) (defScope s_served) .none kV_served dc_served pm_served an_served cd_served ct_served), sl_served⟩)
    (cc_served : PySem.W.codeIn K cd_served "served" = true)
    (k_served : PySem.W.keepIn K (.ref f_served) = true)
    (a_way_down : PySem.W.nsIn K mainGlobals "way_down" = some (some (.ref f_way_down)))
    (l_way_down : K.lookup f_way_down = some ⟨oc_way_down, od_way_down, .func (PySem.W.fnOf "way_down" "way_down" (defArgs s_way_down) (defBody s_way_down) (defScope s_way_down) .none kV_way_down dc_way_down pm_way_down an_way_down cd_way_down ct_way_down), sl_way_down⟩)
    (cc_way_down : PySem.W.codeIn K cd_way_down "way_down" = true)
    (k_way_down : PySem.W.keepIn K (.ref f_way_down) = true)
    (a_shares : PySem.W.nsIn K mainGlobals "shares" = some (some (.ref f_shares)))
    (l_shares : K.lookup f_shares = some ⟨oc_shares, od_shares, .func (PySem.W.fnOf "shares" "shares" (defArgs s_shares) (defBody s_shares) (defScope s_shares) .none kV_shares dc_shares pm_shares an_shares cd_shares ct_shares), sl_shares⟩)
    (cc_shares : PySem.W.codeIn K cd_shares "shares" = true)
    (k_shares : PySem.W.keepIn K (.ref f_shares) = true)
    (a_law : PySem.W.nsIn K mainGlobals "law" = some (some (.ref f_law)))
    (l_law : K.lookup f_law = some ⟨oc_law, od_law, .func (PySem.W.fnOf "law" "law" (defArgs s_law) (defBody s_law) (defScope s_law) .none kV_law dc_law pm_law an_law cd_law ct_law), sl_law⟩)
    (cc_law : PySem.W.codeIn K cd_law "law" = true)
    (k_law : PySem.W.keepIn K (.ref f_law) = true)
    (z_bool : PySem.W.nsIn K mainGlobals "bool" = some none)
    (z_enumerate : PySem.W.nsIn K mainGlobals "enumerate" = some none)
    (z_int : PySem.W.nsIn K mainGlobals "int" = some none)
    (z_isinstance : PySem.W.nsIn K mainGlobals "isinstance" = some none)
    (z_len : PySem.W.nsIn K mainGlobals "len" = some none)
    (z_list : PySem.W.nsIn K mainGlobals "list" = some none)
    (z_max : PySem.W.nsIn K mainGlobals "max" = some none)
    (z_min : PySem.W.nsIn K mainGlobals "min" = some none)
    (z_range : PySem.W.nsIn K mainGlobals "range" = some none)
    (z_sorted : PySem.W.nsIn K mainGlobals "sorted" = some none)
    (z_sum : PySem.W.nsIn K mainGlobals "sum" = some none)
    (z_zip : PySem.W.nsIn K mainGlobals "zip" = some none)
    (g_ROW_DOWN : PySem.W.nsIn K mainGlobals "ROW_DOWN" = some (some (.int 0 tk_ROW_DOWN)))
    (g_ROW_NEED : PySem.W.nsIn K mainGlobals "ROW_NEED" = some (some (.int 2 tk_ROW_NEED)))
    (g_ROW_RANK : PySem.W.nsIn K mainGlobals "ROW_RANK" = some (some (.int 3 tk_ROW_RANK)))
    (g_ROW_WATER : PySem.W.nsIn K mainGlobals "ROW_WATER" = some (some (.int 1 tk_ROW_WATER))) :
    ∃ fd : FuncData, (∀ (s : Shared) (v : Value), BindsTo s fd ⟨[v], []⟩ [("_law_script", v)]) ∧ ∀ base : Heap, K.In base → base.Ns mainGlobals mg → FnOk l.prog w K mg base CX0 5 fa fd ["_law_script"] (lF K c_law) := by
  have e := hfa.symm.trans (PySem.W.mg_of X G a_law)
  cases e
  have T : Txt K mg ⟨f__law_amount, PySem.W.fnOf "_law_amount" "_law_amount" (defArgs s__law_amount) (defBody s__law_amount) (defScope s__law_amount) .none kV__law_amount dc__law_amount pm__law_amount an__law_amount cd__law_amount ct__law_amount, f__law_off, PySem.W.fnOf "_law_off" "_law_off" (defArgs s__law_off) (defBody s__law_off) (defScope s__law_off) .none kV__law_off dc__law_off pm__law_off an__law_off cd__law_off ct__law_off, f__law_tape, PySem.W.fnOf "_law_tape" "_law_tape" (defArgs s__law_tape) (defBody s__law_tape) (defScope s__law_tape) .none kV__law_tape dc__law_tape pm__law_tape an__law_tape cd__law_tape ct__law_tape, f__law_cell_at, PySem.W.fnOf "_law_cell_at" "_law_cell_at" (defArgs s__law_cell_at) (defBody s__law_cell_at) (defScope s__law_cell_at) .none kV__law_cell_at dc__law_cell_at pm__law_cell_at an__law_cell_at cd__law_cell_at ct__law_cell_at, f__law_grown, PySem.W.fnOf "_law_grown" "_law_grown" (defArgs s__law_grown) (defBody s__law_grown) (defScope s__law_grown) .none kV__law_grown dc__law_grown pm__law_grown an__law_grown cd__law_grown ct__law_grown, f__law_numbers, PySem.W.fnOf "_law_numbers" "_law_numbers" (defArgs s__law_numbers) (defBody s__law_numbers) (defScope s__law_numbers) .none kV__law_numbers dc__law_numbers pm__law_numbers an__law_numbers cd__law_numbers ct__law_numbers, f__law_gathered, PySem.W.fnOf "_law_gathered" "_law_gathered" (defArgs s__law_gathered) (defBody s__law_gathered) (defScope s__law_gathered) .none kV__law_gathered dc__law_gathered pm__law_gathered an__law_gathered cd__law_gathered ct__law_gathered, f__law_out, PySem.W.fnOf "_law_out" "_law_out" (defArgs s__law_out) (defBody s__law_out) (defScope s__law_out) .none kV__law_out dc__law_out pm__law_out an__law_out cd__law_out ct__law_out, f__law_many, PySem.W.fnOf "_law_many" "_law_many" (defArgs s__law_many) (defBody s__law_many) (defScope s__law_many) .none kV__law_many dc__law_many pm__law_many an__law_many cd__law_many ct__law_many, f__law_reach, PySem.W.fnOf "_law_reach" "_law_reach" (defArgs s__law_reach) (defBody s__law_reach) (defScope s__law_reach) .none kV__law_reach dc__law_reach pm__law_reach an__law_reach cd__law_reach ct__law_reach, f_passed, PySem.W.fnOf "passed" "passed" (defArgs s_passed) (defBody s_passed) (defScope s_passed) .none kV_passed dc_passed pm_passed an_passed cd_passed ct_passed, f_served, PySem.W.fnOf "served" "served" (defArgs s_served) (defBody s_served) (defScope s_served) .none kV_served dc_served pm_served an_served cd_served ct_served, f_way_down, PySem.W.fnOf "way_down" "way_down" (defArgs s_way_down) (defBody s_way_down) (defScope s_way_down) .none kV_way_down dc_way_down pm_way_down an_way_down cd_way_down ct_way_down, f_shares, PySem.W.fnOf "shares" "shares" (defArgs s_shares) (defBody s_shares) (defScope s_shares) .none kV_shares dc_shares pm_shares an_shares cd_shares ct_shares, fa, PySem.W.fnOf "law" "law" (defArgs s_law) (defBody s_law) (defScope s_law) .none kV_law dc_law pm_law an_law cd_law ct_law, tk_ROW_DOWN, tk_ROW_NEED, tk_ROW_RANK, tk_ROW_WATER⟩ := ⟨fun_mk (st := s__law_amount) l__law_amount cc__law_amount k__law_amount, (fun_mk (st := s__law_amount) l__law_amount cc__law_amount k__law_amount).binds (ps := ["_law_cell", "_law_kind"]) (fun _ _ _ _ _ _ us hl => match us, hl with | [_, _], _ => rfl), PySem.W.mg_of X G a__law_amount, k__law_amount,
    fun_mk (st := s__law_off) l__law_off cc__law_off k__law_off, (fun_mk (st := s__law_off) l__law_off cc__law_off k__law_off).binds (ps := ["_law_number", "_law_k"]) (fun _ _ _ _ _ _ us hl => match us, hl with | [_, _], _ => rfl), PySem.W.mg_of X G a__law_off, k__law_off,
    fun_mk (st := s__law_tape) l__law_tape cc__law_tape k__law_tape, (fun_mk (st := s__law_tape) l__law_tape cc__law_tape k__law_tape).binds (ps := ["_law_script"]) (fun _ _ _ _ _ _ us hl => match us, hl with | [_], _ => rfl), PySem.W.mg_of X G a__law_tape, k__law_tape,
    fun_mk (st := s__law_cell_at) l__law_cell_at cc__law_cell_at k__law_cell_at, (fun_mk (st := s__law_cell_at) l__law_cell_at cc__law_cell_at k__law_cell_at).binds (ps := ["_law_script", "_law_k"]) (fun _ _ _ _ _ _ us hl => match us, hl with | [_, _], _ => rfl), PySem.W.mg_of X G a__law_cell_at, k__law_cell_at,
    fun_mk (st := s__law_grown) l__law_grown cc__law_grown k__law_grown, (fun_mk (st := s__law_grown) l__law_grown cc__law_grown k__law_grown).binds (ps := ["_law_takes", "_law_others"]) (fun _ _ _ _ _ _ us hl => match us, hl with | [_, _], _ => rfl), PySem.W.mg_of X G a__law_grown, k__law_grown,
    fun_mk (st := s__law_numbers) l__law_numbers cc__law_numbers k__law_numbers, (fun_mk (st := s__law_numbers) l__law_numbers cc__law_numbers k__law_numbers).binds (ps := ["_law_found", "_law_many_here"]) (fun _ _ _ _ _ _ us hl => match us, hl with | [_, _], _ => rfl), PySem.W.mg_of X G a__law_numbers, k__law_numbers,
    fun_mk (st := s__law_gathered) l__law_gathered cc__law_gathered k__law_gathered, (fun_mk (st := s__law_gathered) l__law_gathered cc__law_gathered k__law_gathered).binds (ps := ["_law_rows", "_law_amounts"]) (fun _ _ _ _ _ _ us hl => match us, hl with | [_, _], _ => rfl), PySem.W.mg_of X G a__law_gathered, k__law_gathered,
    fun_mk (st := s__law_out) l__law_out cc__law_out k__law_out, (fun_mk (st := s__law_out) l__law_out cc__law_out k__law_out).binds (ps := ["_law_rows", "_law_takes"]) (fun _ _ _ _ _ _ us hl => match us, hl with | [_, _], _ => rfl), PySem.W.mg_of X G a__law_out, k__law_out,
    fun_mk (st := s__law_many) l__law_many cc__law_many k__law_many, (fun_mk (st := s__law_many) l__law_many cc__law_many k__law_many).binds (ps := ["_law_script"]) (fun _ _ _ _ _ _ us hl => match us, hl with | [_], _ => rfl), PySem.W.mg_of X G a__law_many, k__law_many,
    fun_mk (st := s__law_reach) l__law_reach cc__law_reach k__law_reach, (fun_mk (st := s__law_reach) l__law_reach cc__law_reach k__law_reach).binds (ps := ["_law_script"]) (fun _ _ _ _ _ _ us hl => match us, hl with | [_], _ => rfl), PySem.W.mg_of X G a__law_reach, k__law_reach,
    fun_mk (st := s_passed) l_passed cc_passed k_passed, (fun_mk (st := s_passed) l_passed cc_passed k_passed).binds (ps := ["rows", "takes"]) (fun _ _ _ _ _ _ us hl => match us, hl with | [_, _], _ => rfl), PySem.W.mg_of X G a_passed, k_passed,
    fun_mk (st := s_served) l_served cc_served k_served, (fun_mk (st := s_served) l_served cc_served k_served).binds (ps := ["rows"]) (fun _ _ _ _ _ _ us hl => match us, hl with | [_], _ => rfl), PySem.W.mg_of X G a_served, k_served,
    fun_mk (st := s_way_down) l_way_down cc_way_down k_way_down, (fun_mk (st := s_way_down) l_way_down cc_way_down k_way_down).binds (ps := ["rows", "number"]) (fun _ _ _ _ _ _ us hl => match us, hl with | [_, _], _ => rfl), PySem.W.mg_of X G a_way_down, k_way_down,
    fun_mk (st := s_shares) l_shares cc_shares k_shares, (fun_mk (st := s_shares) l_shares cc_shares k_shares).binds (ps := ["rows"]) (fun _ _ _ _ _ _ us hl => match us, hl with | [_], _ => rfl), PySem.W.mg_of X G a_shares, k_shares,
    fun_mk (st := s_law) l_law cc_law k_law, (fun_mk (st := s_law) l_law cc_law k_law).binds (ps := ["_law_script"]) (fun _ _ _ _ _ _ us hl => match us, hl with | [_], _ => rfl), PySem.W.mg_of X G a_law, k_law,
    PySem.W.mg_none_of X G z_bool,
    PySem.W.mg_none_of X G z_enumerate,
    PySem.W.mg_none_of X G z_int,
    PySem.W.mg_none_of X G z_isinstance,
    PySem.W.mg_none_of X G z_len,
    PySem.W.mg_none_of X G z_list,
    PySem.W.mg_none_of X G z_max,
    PySem.W.mg_none_of X G z_min,
    PySem.W.mg_none_of X G z_range,
    PySem.W.mg_none_of X G z_sorted,
    PySem.W.mg_none_of X G z_sum,
    PySem.W.mg_none_of X G z_zip,
    PySem.W.mg_of X G g_ROW_DOWN,
    PySem.W.mg_of X G g_ROW_NEED,
    PySem.W.mg_of X G g_ROW_RANK,
    PySem.W.mg_of X G g_ROW_WATER⟩
  exact ⟨PySem.W.fnOf "law" "law" (defArgs s_law) (defBody s_law) (defScope s_law) .none kV_law dc_law pm_law an_law cd_law ct_law, fun s v => .of_eq rfl, fun base _ _ => ok_law T⟩
theorem walk {l : PySem.W.OpenLaw} {q : Program} {loose : List Str} {XP : (Str → Option Value) → Heap → Prop} {YP : World → Heap → Prop} {d : DefRec} {K : Params → PySem.W.Frag} (hn : l.most = some 63) (hdf : d.params.defaults = []) (HH : Holds)
    (hY : ∀ (w : World) (h : Heap), YP w h → (K w.params).In h)
    (F : ∀ (w : World) (mg : Str → Option Value) (fa : Addr) (h : Heap), (K w.params).In h → h.Ns mainGlobals mg → mg d.name = some (.ref fa) →
      ∃ fd : FuncData, (∀ (s : Shared) (u : Value), BindsTo s fd ⟨[u], []⟩ [("_law_script", u)]) ∧ ∀ base : Heap, (K w.params).In base → base.Ns mainGlobals mg → FnOk l.prog w (K w.params) mg base CX0 5 fa fd ["_law_script"] (lF (K w.params) c_law)) :
    PySem.W.WalkO q loose XP YP l.row.toRowW d [] (fun f vs => PySem.call f vs) :=
  walk_bits (n := 63) (k := 5) (x := "_law_script") (CX := fun _ => CX0) (sp := fun w => lF (K w.params) c_law) hn (by decide) hdf ⟨rfl, by decide, by decide⟩ hY F
    (fun w H a ns hl hbt hO hS => by
      obtain ⟨G, hG⟩ := HH ns hl hbt
      refine ⟨⟨K w.params, 0, fun _ => 0, H⟩, [], [.fl (ns.map D.int)], rfl, rfl, ⟨rfl, fun i j h => absurd h (Nat.not_lt_zero _), fun i o h => by simp at h, fun i h => absurd h (Nat.not_lt_zero _)⟩, Reps.cons ⟨a, ns.map V.int, rfl, ?_, Reps.ints ns⟩ Reps.nil, ?_⟩
      · rcases hS with (hS | hS) | hS
        · rcases hO a with z | ⟨o, xs, z⟩
          · rw [z] at hS; cases hS
          · rw [z] at hS; cases hS
        · exact .inl hS
        · exact .inr hS
      · rw [hG]
        exact fun b v _ _ r => r) fun _ _ _ _ _ z => z
end Law
open PySem PySem.W PyProof.Rows
set_option maxRecDepth 100000 in
set_option maxHeartbeats 0 in
theorem PySem.Challenge.cw_sluiceway_k27_whole_more_water_holds : PySem.Challenge.rw_sluiceway_k27_whole_more_water.Holds := by
  w_on; o_law; k_head; (case hw => w_witness2)
  k_fill
  refine Law.walk (l := PySem.Challenge.rw_sluiceway_k27_whole_more_water) rfl rfl Law.holds (fun w h Y => PySem.W.kIn_of Y) ?F
  case F =>
    intro w mg fa h KX G hmg
    refine' Law.all_mk KX G hmg ?a__law_amount ?l__law_amount ?cc__law_amount ?k__law_amount ?a__law_off ?l__law_off ?cc__law_off ?k__law_off ?a__law_tape ?l__law_tape ?cc__law_tape ?k__law_tape ?a__law_cell_at ?l__law_cell_at ?cc__law_cell_at ?k__law_cell_at ?a__law_grown ?l__law_grown ?cc__law_grown ?k__law_grown ?a__law_numbers ?l__law_numbers ?cc__law_numbers ?k__law_numbers ?a__law_gathered ?l__law_gathered ?cc__law_gathered ?k__law_gathered ?a__law_out ?l__law_out ?cc__law_out ?k__law_out ?a__law_many ?l__law_many ?cc__law_many ?k__law_many ?a__law_reach ?l__law_reach ?cc__law_reach ?k__law_reach ?a_passed ?l_passed ?cc_passed ?k_passed ?a_served ?l_served ?cc_served ?k_served ?a_way_down ?l_way_down ?cc_way_down ?k_way_down ?a_shares ?l_shares ?cc_shares ?k_shares ?a_law ?l_law ?cc_law ?k_law ?z_bool ?z_enumerate ?z_int ?z_isinstance ?z_len ?z_list ?z_max ?z_min ?z_range ?z_sorted ?z_sum ?z_zip ?g_ROW_DOWN ?g_ROW_NEED ?g_ROW_RANK ?g_ROW_WATER
    (case a__law_amount => k_is)
    (case l__law_amount => k_is)
    (case cc__law_amount => k_is)
    (case k__law_amount => k_is)
    (case a__law_off => k_is)
    (case l__law_off => k_is)
    (case cc__law_off => k_is)
    (case k__law_off => k_is)
    (case a__law_tape => k_is)
    (case l__law_tape => k_is)
    (case cc__law_tape => k_is)
    (case k__law_tape => k_is)
    (case a__law_cell_at => k_is)
    (case l__law_cell_at => k_is)
    (case cc__law_cell_at => k_is)
    (case k__law_cell_at => k_is)
    (case a__law_grown => k_is)
    (case l__law_grown => k_is)
    (case cc__law_grown => k_is)
    (case k__law_grown => k_is)
    (case a__law_numbers => k_is)
    (case l__law_numbers => k_is)
    (case cc__law_numbers => k_is)
    (case k__law_numbers => k_is)
    (case a__law_gathered => k_is)
    (case l__law_gathered => k_is)
    (case cc__law_gathered => k_is)
    (case k__law_gathered => k_is)
    (case a__law_out => k_is)
    (case l__law_out => k_is)
    (case cc__law_out => k_is)
    (case k__law_out => k_is)
    (case a__law_many => k_is)
    (case l__law_many => k_is)
    (case cc__law_many => k_is)
    (case k__law_many => k_is)
    (case a__law_reach => k_is)
    (case l__law_reach => k_is)
    (case cc__law_reach => k_is)
    (case k__law_reach => k_is)
    (case a_passed => k_is)
    (case l_passed => k_is)
    (case cc_passed => k_is)
    (case k_passed => k_is)
    (case a_served => k_is)
    (case l_served => k_is)
    (case cc_served => k_is)
    (case k_served => k_is)
    (case a_way_down => k_is)
    (case l_way_down => k_is)
    (case cc_way_down => k_is)
    (case k_way_down => k_is)
    (case a_shares => k_is)
    (case l_shares => k_is)
    (case cc_shares => k_is)
    (case k_shares => k_is)
    (case a_law => k_is)
    (case l_law => k_is)
    (case cc_law => k_is)
    (case k_law => k_is)
    (case z_bool => k_is)
    (case z_enumerate => k_is)
    (case z_int => k_is)
    (case z_isinstance => k_is)
    (case z_len => k_is)
    (case z_list => k_is)
    (case z_max => k_is)
    (case z_min => k_is)
    (case z_range => k_is)
    (case z_sorted => k_is)
    (case z_sum => k_is)
    (case z_zip => k_is)
    (case g_ROW_DOWN => k_is)
    (case g_ROW_NEED => k_is)
    (case g_ROW_RANK => k_is)
    (case g_ROW_WATER => k_is)
