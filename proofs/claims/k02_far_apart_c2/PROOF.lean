import PyProof.Rows.All
import Wide.All
import OpenK.AllK
import Wide.FinOn
import Lean
import PyProof.EqAt
import PyProof.EqKinds
import PyProof.TupleCall
import PySem.Challenge.RW_straysign_k02_whole_far_apart
set_option Elab.async false
set_option linter.all false
set_option maxRecDepth 100000
namespace L2
open PySem PySem.Spec PyProof.Rows
/-- a key: an int or a str -/
abbrev Key := Sum Int Str
def keyIs : Key → Value → Bool
  | .inl k, v => Value.isInt k v
  | .inr x, v => Value.isStrOf x v
def keyH (w : World) : Key → Int
  | .inl k => hashInt k
  | .inr x => hashStr w x
theorem keyIs_shape : ∀ {k : Key} {v : Value}, keyIs k v = true → (∃ i t, k = Sum.inl i ∧ v = Value.int i t) ∨ (∃ x t, k = Sum.inr x ∧ v = Value.str x t)
  | .inl i, v, h => by
    obtain ⟨t, e⟩ := Value.isInt_shape (k := i) (v := v) h
    exact .inl ⟨i, t, rfl, e⟩
  | .inr x, v, h => by
    obtain ⟨t, e⟩ := Value.isStrOf_shape (x := x) (v := v) h
    exact .inr ⟨x, t, rfl, e⟩
theorem key_ll (a b : Int) : decide ((Sum.inl a : Key) = Sum.inl b) = (a == b) := by
  by_cases e : a = b
  · subst e; simp
  · have h : ¬ (Sum.inl a : Key) = Sum.inl b := fun q => e (Sum.inl.inj q)
    rw [decide_eq_false h]
    exact (beq_eq_false_iff_ne.mpr e).symm
theorem key_rr (a b : Str) : decide ((Sum.inr a : Key) = Sum.inr b) = decide (a = b) := by
  by_cases e : a = b
  · subst e; simp
  · have h : ¬ (Sum.inr a : Key) = Sum.inr b := fun q => e (Sum.inr.inj q)
    rw [decide_eq_false h, decide_eq_false e]
theorem key_lr (a : Int) (b : Str) : decide ((Sum.inl a : Key) = Sum.inr b) = false := decide_eq_false (fun q => nomatch q)
theorem key_rl (a : Str) (b : Int) : decide ((Sum.inr a : Key) = Sum.inl b) = false := decide_eq_false (fun q => nomatch q)
def mixKind (prog : Program) (w : World) : PySem.KeyKind prog w Key where
  is := keyIs
  hash := keyH w
  inj := fun v a b ha hb => by
    rcases keyIs_shape ha with ⟨i, t, rfl, rfl⟩ | ⟨x, t, rfl, rfl⟩
    · rcases keyIs_shape hb with ⟨j, u, rfl, e⟩ | ⟨y, u, rfl, e⟩
      · injection e with e1 _; rw [e1]
      · exact nomatch e
    · rcases keyIs_shape hb with ⟨j, u, rfl, e⟩ | ⟨y, u, rfl, e⟩
      · exact nomatch e
      · injection e with e1 _; rw [e1]
  byValue := fun k v h => by
    rcases keyIs_shape h with ⟨i, t, rfl, rfl⟩ | ⟨x, t, rfl, rfl⟩ <;> rfl
  pyHash := fun hv h => by
    rcases keyIs_shape hv with ⟨i, t, rfl, rfl⟩ | ⟨x, t, rfl, rfl⟩
    · exact wpAny_pyHash_int h
    · exact wpAny_pyHash_str h
  eqBool := fun hu hv h => by
    rcases keyIs_shape hu with ⟨i, t, rfl, rfl⟩ | ⟨x, t, rfl, rfl⟩
    · rcases keyIs_shape hv with ⟨j, u, rfl, rfl⟩ | ⟨y, u, rfl, rfl⟩
      · rw [key_ll] at h; exact wpAny_eqBool_int h
      · rw [key_lr] at h; exact SeqAt.EqAt.int_str i t y u _ _ _ _ h
    · rcases keyIs_shape hv with ⟨j, u, rfl, rfl⟩ | ⟨y, u, rfl, rfl⟩
      · rw [key_rl] at h; exact SeqAt.EqAt.str_int x t j u _ _ _ _ h
      · rw [key_rr] at h; exact wpAny_eqBool_str h
  «strs» := fun k x t v h => by
    rcases keyIs_shape h with ⟨i, u, rfl, e⟩ | ⟨y, u, rfl, e⟩
    · exact nomatch e
    · injection e with e1 _
      subst e1
      cases v <;> rfl
end L2
namespace L2
open PySem PySem.Spec PyProof.Rows
/-- a value, without the heap -/
inductive V where
  | non | bl (b : Bool) | int (i : Int) | str (x : Str) | byt (b : Array UInt8) | flt (b : UInt64) | ref (a : Addr) | ty (n : String)
  deriving DecidableEq
def RelV : V → Value → Prop
  | .non, u => u = Value.none
  | .bl b, u => u = Value.bool b
  | .int i, u => ∃ t, u = Value.int i t
  | .str x, u => ∃ t, u = Value.str x t
  | .byt b, u => ∃ t, u = Value.bytes b t
  | .flt b, u => ∃ t, u = Value.float b t
  | .ref a, u => u = Value.ref a
  | .ty n, u => u = Value.type n
abbrev Vals : List V → List Value → Prop := Paired RelV
theorem Vals.length {xs : List V} {us : List Value} (r : Vals xs us) : xs.length = us.length := Paired.length r
theorem Vals.get : ∀ {xs : List V} {us : List Value} {i : Nat} {x : V}, Vals xs us → xs[i]? = some x → ∃ u, us[i]? = some u ∧ RelV x u
  | _, _, _, _, .nil, e => by simp at e
  | _, _, 0, _, .cons r _, e => by simp at e; subst e; exact ⟨_, rfl, r⟩
  | _, _, i + 1, x, .cons _ t, e => by
    obtain ⟨u, h1, h2⟩ := Vals.get (i := i) (x := x) t (by simpa using e)
    exact ⟨u, by simpa using h1, h2⟩
theorem Vals.set {x : V} {u : Value} (r : RelV x u) : ∀ {xs : List V} {us : List Value} (i : Nat), Vals xs us → Vals (xs.set i x) (us.set i u)
  | _, _, _, .nil => .nil
  | _, _, 0, .cons _ t => .cons r t
  | _, _, i + 1, .cons q t => .cons q (Vals.set r i t)
theorem Vals.append : ∀ {xs ys : List V} {us ws : List Value}, Vals xs us → Vals ys ws → Vals (xs ++ ys) (us ++ ws)
  | _, _, _, _, .nil, s => s
  | _, _, _, _, .cons r t, s => .cons r (Vals.append t s)
theorem Vals.take : ∀ {xs : List V} {us : List Value} (n : Nat), Vals xs us → Vals (xs.take n) (us.take n)
  | _, _, 0, _ => .nil
  | _, _, _ + 1, .nil => .nil
  | _, _, n + 1, .cons r t => .cons r (Vals.take n t)
theorem Vals.drop : ∀ {xs : List V} {us : List Value} (n : Nat), Vals xs us → Vals (xs.drop n) (us.drop n)
  | _, _, 0, r => r
  | _, _, _ + 1, .nil => .nil
  | _, _, n + 1, .cons _ t => Vals.drop n t
def RelO : Option V → Option Value → Prop
  | some v, some u => RelV v u
  | none, none => True
  | _, _ => False
def KV {κ : Type} : List (κ × V) → List (κ × Value) → Prop := Paired fun (p : κ × V) (q : κ × Value) => p.1 = q.1 ∧ RelV p.2 q.2
/-- a key of a dict (00_mix): an int or a text -/
def kV : Key → V
  | .inl i => .int i
  | .inr x => .str x
/-- what stands at a tracked address -/
inductive HO where
  /-- a list -/
  | lst (xs : List V)
  /-- a tuple (never changes) -/
  | tup (xs : List V)
  /-- a dict whose keys are ints and texts; one whose keys are tuples of ints and texts (the empty one is both) -/
  | dK (kvs : List (Key × V)) | dT (kvs : List (List Key × V))
  /-- a set of ints: its members, its size -/
  | set (S : Int → Bool) (n : Nat)
  /-- an instance of the class at C, its dict at dx, its attributes -/
  | ins (C dx : Addr) (fs : List (Str × V))
  /-- the dict of the instance at x -/
  | own (x : Addr)
  /-- the dict of an exception -/
  | xd (fs : List (Str × V))
  /-- a bound method, f of x -/
  | met (f x : Addr)
  /-- a range object lo, lo + 1, .. below hi -/
  | rng (lo hi : Int)
  /-- a thing that is known to the object (the script; a dict while a loop walks it): read, never written while it is so -/
  | frz (o : Obj) (u : HO)
  /-- a code object's table -/
  | tbl (ps : Array Value)
  /-- any other thing, by what is true of its one object (a def of one's own: SetO a S n := HO.ext fun h => ..) -/
  | ext (φ : Heap → Prop)
abbrev Hp := Addr → Option HO
def upd (H : Hp) (a : Addr) (o : HO) : Hp := fun b => if b = a then some o else H b
theorem upd_same {H : Hp} {a : Addr} {o : HO} : upd H a o a = some o := by unfold upd; rw [if_pos rfl]
theorem upd_ne {H : Hp} {a b : Addr} {o : HO} (h : b ≠ a) : upd H a o b = H b := by unfold upd; rw [if_neg h]
theorem ne_of_none {H : Hp} {a b : Addr} {o : HO} (h : H a = some o) (h' : H b = none) : a ≠ b := by
  intro e; subst e; rw [h] at h'; cases h'
section
variable (P : Program) (w : World)
def ObjOk (H : Hp) (h : Heap) (a : Addr) : HO → Prop
  | .lst xs => xs.length ≤ sizeLine ∧ ∃ (its : List Value) (n : Nat), Vals xs its ∧ h.get? a = some { cls := .type "list", data := .seq its.toArray n }
  | .tup xs => xs.length ≤ sizeLine ∧ ∃ its : List Value, Vals xs its ∧ IsTup h a its.toArray
  | .dK kvs => kvs.length ≤ sizeLine ∧ (a == sysModules) = false ∧ ∃ vs, KV kvs vs ∧ h.DictOf (mixKind P w) a vs
  | .dT kvs => kvs.length ≤ sizeLine ∧ (a == sysModules) = false ∧ ∃ xs : List (List Key × Addr × Value),
      Paired (fun (p : List Key × V) (q : List Key × Addr × Value) => p.1 = q.1 ∧ H q.2.1 = some (.tup (p.1.map kV)) ∧ RelV p.2 q.2.2) kvs xs ∧
      ∃ o es ep, h.get? a = some o ∧ o.ExactDict ∧ o.data = .dict es ep ∧ es.toList = xs.map (entryOfKey (tupleKind (mixKind P w))) ∧ (xs.map (·.1)).Nodup
  | .set S n => h.SetOf (intKind P w) a S n
  | .ins C dx fs => H dx = some (.own a) ∧ fs.length ≤ 1000 ∧ dx ≠ a ∧ h.get? a = some (PySem.W.instObj C dx) ∧
      ∃ mA, h.Ns1 dx mA ∧ (∀ f, RelO (fs.lookup f) (mA f)) ∧ PySem.Within mA (fs.map (·.1))
  | .own _ => ∃ o, h.get? a = some o
  | .xd fs => ∃ mA, h.Ns1 a mA ∧ ∀ f, RelO (fs.lookup f) (mA f)
  | .rng lo hi => ∃ t u v, h.get? a = some { cls := .type "range", data := .fields #[.int lo t, .int hi u, .int 1 v] }
  | .frz o u => h.get? a = some o ∧ ObjOk H h a u
  | .tbl ps => h.get? a = some { cls := .none, data := .fields ps }
  | .met f x => h.get? a = some (PySem.W.methodObj (.ref f) (.ref x))
  | .ext φ => φ h ∧ (∃ o, h.get? a = some o) ∧ ∀ h1 h2 : Heap, φ h1 → (∀ o, h1.get? a = some o → h2.get? a = some o) → φ h2
/-- the abstract heap is held -/
def HOk (H : Hp) (h : Heap) : Prop := ∀ a o, H a = some o → ObjOk P w H h a o
end
section
variable {P : Program} {w : World} {H H' : Hp} {h h' : Heap} {a : Addr} {o : HO}
theorem ObjOk.lt (x : ObjOk P w H h a o) : a < h.objs.size := by
  cases o with
  | lst xs => obtain ⟨_, _, _, _, e⟩ := x; exact Heap.lt_size e
  | tup xs => obtain ⟨_, _, _, p⟩ := x; exact p.lt
  | dK kvs => obtain ⟨_, _, _, _, o, _, _, e, _⟩ := x; exact Heap.lt_size e
  | dT kvs => obtain ⟨_, _, _, _, o, _, _, e, _⟩ := x; exact Heap.lt_size e
  | set S n => obtain ⟨o, _, _, _, e, _⟩ := x; exact Heap.lt_size e
  | ins C dx fs => obtain ⟨_, _, _, e, _⟩ := x; exact Heap.lt_size e
  | own y => obtain ⟨_, e⟩ := x; exact Heap.lt_size e
  | xd fs => obtain ⟨_, ⟨_, _, _, e, _⟩, _⟩ := x; exact Heap.lt_size e
  | rng lo hi => obtain ⟨_, _, _, e⟩ := x; exact Heap.lt_size e
  | frz ob u => obtain ⟨e, _⟩ := x; exact Heap.lt_size e
  | tbl ps => exact Heap.lt_size (show h.get? a = some _ from x)
  | met f y => exact Heap.lt_size (show h.get? a = some _ from x)
  | ext φ => obtain ⟨_, ⟨_, e⟩, _⟩ := x; exact Heap.lt_size e
theorem Paired.mapP {α β : Type} {F G : α → β → Prop} : ∀ {l₁ : List α} {l₂ : List β}, Paired F l₁ l₂ → (∀ a b, F a b → G a b) → Paired G l₁ l₂
  | _, _, .nil, _ => .nil
  | _, _, .cons r t, f => .cons (f _ _ r) (Paired.mapP t f)
/-- what an object's description leans on: its own object, its own dict, the tuples -/
theorem ObjOk.stay (x : ObjOk P w H h a o) (k : ∀ b u, (b = a ∨ H b = some (.own a)) → h.get? b = some u → h'.get? b = some u)
    (ho : ∀ b, H b = some (.own a) → H' b = some (.own a)) (ht : ∀ b xs, H b = some (.tup xs) → H' b = some (.tup xs)) : ObjOk P w H' h' a o := by
  induction o with
  | lst xs => obtain ⟨z, its, n, r, e⟩ := x; exact ⟨z, its, n, r, k _ _ (.inl rfl) e⟩
  | tup xs => obtain ⟨z, its, r, ob, e, c⟩ := x; exact ⟨z, its, r, ob, k _ _ (.inl rfl) e, c⟩
  | dK kvs => obtain ⟨z, y, vs, r, ob, es, ep, e, c⟩ := x; exact ⟨z, y, vs, r, ob, es, ep, k _ _ (.inl rfl) e, c⟩
  | dT kvs =>
    obtain ⟨z, y, xs, r, ob, es, ep, e, c⟩ := x
    exact ⟨z, y, xs, Paired.mapP r fun p q z => ⟨z.1, ht _ _ z.2.1, z.2.2⟩, ob, es, ep, k _ _ (.inl rfl) e, c⟩
  | set S n => obtain ⟨ob, es, ep, t, e, c⟩ := x; exact ⟨ob, es, ep, t, k _ _ (.inl rfl) e, c⟩
  | ins C dx fs =>
    obtain ⟨d, z, ne, e, mA, ⟨od, es, ep, e2, c⟩, r⟩ := x
    exact ⟨ho _ d, z, ne, k _ _ (.inl rfl) e, mA, ⟨od, es, ep, k _ _ (.inr d) e2, c⟩, r⟩
  | own y => obtain ⟨ob, e⟩ := x; exact ⟨ob, k _ _ (.inl rfl) e⟩
  | xd fs => obtain ⟨mA, ⟨od, es, ep, e, c⟩, r⟩ := x; exact ⟨mA, ⟨od, es, ep, k _ _ (.inl rfl) e, c⟩, r⟩
  | rng lo hi => obtain ⟨t, u, v, e⟩ := x; exact ⟨t, u, v, k _ _ (.inl rfl) e⟩
  | frz ob u ih => obtain ⟨e, q⟩ := x; exact ⟨k _ _ (.inl rfl) e, ih q⟩
  | tbl ps =>
    have e : h.get? a = some { cls := .none, data := .fields ps } := x
    show h'.get? a = some { cls := .none, data := .fields ps }
    exact k a _ (.inl rfl) e
  | met f y =>
    have e : h.get? a = some (PySem.W.methodObj (.ref f) (.ref y)) := x
    show h'.get? a = some (PySem.W.methodObj (.ref f) (.ref y))
    exact k a _ (.inl rfl) e
  | ext φ => obtain ⟨p, ⟨o, e⟩, st⟩ := x; exact ⟨st _ _ p fun o q => k _ _ (.inl rfl) q, ⟨o, k _ _ (.inl rfl) e⟩, st⟩
theorem HOk.lt (x : HOk P w H h) (e : H a = some o) : a < h.objs.size := (x a o e).lt
theorem HOk.fresh (x : HOk P w H h) (e : h.objs.size ≤ a) : H a = none := by
  cases q : H a with
  | none => rfl
  | some u => exact absurd (Nat.lt_of_lt_of_le (x.lt q) e) (Nat.lt_irrefl _)
/-- every object of the heap is kept -/
theorem HOk.kept (x : HOk P w H h) (k : ∀ b u, h.get? b = some u → h'.get? b = some u) : HOk P w H h' := fun a o e =>
  (x a o e).stay (fun b u _ q => k b u q) (fun _ q => q) fun _ _ q => q
/-- a new object is laid and tracked -/
theorem HOk.laid (x : HOk P w H h) (k : ∀ b u, h.get? b = some u → h'.get? b = some u) (hp : h.objs.size ≤ a) (new : ObjOk P w (upd H a o) h' a o) : HOk P w (upd H a o) h' := fun b u e => by
  have hn := x.fresh hp
  by_cases hb : b = a
  · subst hb; rw [upd_same] at e; cases e; exact new
  · rw [upd_ne hb] at e
    exact (x b u e).stay (fun c v _ q => k c v q) (fun c q => by rw [upd_ne (ne_of_none q hn)]; exact q) fun c xs q => by rw [upd_ne (ne_of_none q hn)]; exact q
end
/-- what may be read as u: it is u, or a known u -/
def Rd (H : Hp) (a : Addr) (u : HO) : Prop := H a = some u ∨ ∃ o, H a = some (.frz o u)
theorem Rd.ok {P : Program} {w : World} {H : Hp} {h : Heap} {a : Addr} {u : HO} (r : Rd H a u) (x : HOk P w H h) : ObjOk P w H h a u := by
  rcases r with r | ⟨o, r⟩
  · exact x a u r
  · obtain ⟨_, q⟩ := x a _ r
    exact q
/-- what may be written -/
def Mut : Option HO → Prop
  | some (.lst _) => True
  | some (.dK _) => True
  | some (.dT _) => True
  | some (.set _ _) => True
  | some (.ins _ _ _) => True
  | some (.ext _) => True
  | _ => False
section
variable {P : Program} {w : World} {H : Hp} {h h' : Heap} {x e : Addr} {o' : HO}
/-- the object at e is changed: x itself, or the dict of the instance x -/
theorem HOk.write (ok : HOk P w H h) (mu : Mut (H x)) (he : e = x ∨ H e = some (.own x)) (k : ∀ b u, b ≠ e → h.get? b = some u → h'.get? b = some u) (heo : ∃ u, h'.get? e = some u)
    (new : ObjOk P w (upd H x o') h' x o') : HOk P w (upd H x o') h' := fun b u q => by
  have nown : ∀ c y, H c = some (.own y) → c ≠ x := fun c y r z => by subst z; rw [r] at mu; exact mu
  have ntup : ∀ c xs, H c = some (.tup xs) → c ≠ x := fun c xs r z => by subst z; rw [r] at mu; exact mu
  by_cases hb : b = x
  · subst hb; rw [upd_same] at q; cases q; exact new
  · rw [upd_ne hb] at q
    by_cases hbe : b = e
    · have q' : H b = some (.own x) := by
        rcases he with z | z
        · exact absurd (hbe.trans z) hb
        · rw [hbe]; exact z
      rw [q] at q'; cases q'
      obtain ⟨v, hv⟩ := heo
      exact ⟨v, by rw [hbe]; exact hv⟩
    · refine (ok b u q).stay (fun c v hc r => k c v ?_ r) (fun c r => by rw [upd_ne (nown c b r)]; exact r) fun c xs r => by rw [upd_ne (ntup c xs r)]; exact r
      rcases hc with rfl | hc
      · exact hbe
      · rintro rfl
        rcases he with z | z
        · exact nown c b hc z
        · rw [hc] at z; cases z; exact hb rfl
end
structure Un (fs ex : List Addr) (H H' : Hp) (h h' : Heap) : Prop where
  keep : ∀ b o, h.get? b = some o → H b = none → b ∉ fs → b ∉ ex → h'.get? b = some o
  slot : ∀ b o, h.get? b = some o → H b = none → b ∈ fs → b ∉ ex → ∃ sl, h'.get? b = some { o with slots := sl }
  free : ∀ b o, h.get? b = some o → H b = none → b ∉ ex → H' b = none
  there : ∀ b o, h.get? b = some o → b ∉ ex → ∃ o', h'.get? b = some o'
  tups : ∀ b xs, H b = some (.tup xs) → H' b = some (.tup xs)
  frzs : ∀ b o u, H b = some (.frz o u) → H' b = some (.frz o u)
  tbls : ∀ b ps, H b = some (.tbl ps) → ∃ more, H' b = some (.tbl (ps ++ more))
section
variable {fs fs' ex ex' : List Addr} {H H1 H2 : Hp} {h h1 h2 h' : Heap} {a x e : Addr} {o : HO}
theorem Un.any (u : Un fs ex H H1 h h1) {b : Addr} {ob : Obj} (q : h.get? b = some ob) (n : H b = none) (hx : b ∉ ex) : ∃ sl, h1.get? b = some { ob with slots := sl } := by
  by_cases hb : b ∈ fs
  · exact u.slot b ob q n hb hx
  · exact ⟨ob.slots, u.keep b ob q n hb hx⟩
theorem Un.kept (k : ∀ b u, h.get? b = some u → h'.get? b = some u) : Un fs ex H H h h' :=
  ⟨fun b ob q _ _ _ => k b ob q, fun b ob q _ _ _ => ⟨ob.slots, k b ob q⟩, fun _ _ _ n _ => n, fun b ob q _ => ⟨ob, k b ob q⟩, fun _ _ q => q, fun _ _ _ q => q, fun _ ps q => ⟨#[], by rw [q]; simp⟩⟩
theorem Un.refl : Un fs ex H H h h := Un.kept fun _ _ q => q
theorem Un.laid (k : ∀ b u, h.get? b = some u → h'.get? b = some u) (hp : h.objs.size ≤ a) (hn : H a = none) : Un fs ex H (upd H a o) h h' where
  keep := fun b u q _ _ _ => k b u q
  slot := fun b u q _ _ _ => ⟨u.slots, k b u q⟩
  free := fun b u q n _ => by rw [upd_ne (Nat.ne_of_lt (Nat.lt_of_lt_of_le (Heap.lt_size q) hp))]; exact n
  there := fun b u q _ => ⟨u, k b u q⟩
  tups := fun b xs q => by rw [upd_ne (ne_of_none q hn)]; exact q
  frzs := fun b u xs q => by rw [upd_ne (ne_of_none q hn)]; exact q
  tbls := fun b ps q => ⟨#[], by rw [upd_ne (ne_of_none q hn), q]; simp⟩
theorem Un.write (mu : Mut (H x)) (he : e = x ∨ H e = some (.own x)) (k : ∀ b u, b ≠ e → h.get? b = some u → h'.get? b = some u) (heo : ∃ u, h'.get? e = some u) : Un fs ex H (upd H x o) h h' := by
  have hx : ∀ b, H b = none → b ≠ x := fun b n z => by subst z; rw [n] at mu; exact mu
  have hb : ∀ b, H b = none → b ≠ e := fun b n z => by
    subst z
    rcases he with r | r
    · exact hx b n r
    · rw [n] at r; cases r
  have hm : ∀ b u, H b = some u → ¬ Mut (some u) → b ≠ x := fun b u q nm z => by subst z; rw [q] at mu; exact nm mu
  refine ⟨fun b u q n _ _ => k b u (hb b n) q, fun b u q n _ _ => ⟨u.slots, k b u (hb b n) q⟩, fun b u q n _ => by rw [upd_ne (hx b n)]; exact n, fun b u q _ => ?_,
    fun b xs q => by rw [upd_ne (hm b _ q fun z => z)]; exact q, fun b u xs q => by rw [upd_ne (hm b _ q fun z => z)]; exact q, fun b ps q => ⟨#[], by rw [upd_ne (hm b _ q fun z => z), q]; simp⟩⟩
  by_cases hbe : b = e
  · subst hbe; exact heo
  · exact ⟨u, k b u hbe q⟩
end
def trk (h : Heap) (H : Hp) : List Addr := (List.range h.objs.size).filter fun a => (H a).isSome
def hidT (h : Heap) (H : Hp) : Heap := PySem.W.hideAll h (trk h H)
theorem hidT_size (h : Heap) (H : Hp) : (hidT h H).objs.size = h.objs.size := PySem.W.hideAll_size _ _
theorem hidT_get {h : Heap} {H : Hp} {b : Addr} {o : Obj} (e : h.get? b = some o) (n : H b = none) : (hidT h H).get? b = some o :=
  PySem.W.hideAll_get _ e fun hm => by
    have q : (H b).isSome = true := (List.mem_filter.mp hm).2
    rw [n] at q; simp at q
theorem of_hidT {h : Heap} {H : Hp} {b : Addr} {o : Obj} (e : (hidT h H).get? b = some o) : h.get? b = some o ∧ H b = none := by
  have e' : h.get? b = some o := PySem.W.of_hideAll (trk h H) e
  refine ⟨e', ?_⟩
  cases q : H b with
  | none => rfl
  | some x =>
    have hm : b ∈ trk h H := List.mem_filter.mpr ⟨List.mem_range.mpr (Heap.lt_size e'), by simp [q]⟩
    have z : (hidT h H).get? b = none := PySem.W.hideAll_none (trk h H) hm
    rw [z] at e; cases e
def allNews (g h : Heap) (L : Addr) : List (Addr × Obj) := (List.range h.objs.size).filterMap fun a => if a = L ∨ (g.get? a).isSome = true then none else (h.get? a).map fun o => (a, o)
def rest (g h : Heap) (L d : Addr) : List (Addr × Obj) := (allNews g h L).filter fun p => decide (p.1 ≠ d)
end L2
namespace L2
open PySem PySem.Spec PyProof.Rows
/-- the module's facts, over the base: the heap at the law's entry without what is tracked there -/
structure Mod (K : PySem.W.Frag) (mg : Str → Option Value) (base : Heap) : Prop where
  kin : K.In base
  glob : base.Ns mainGlobals mg
  blt : ∃ mb, base.Ns builtinsNs mb ∧ ∀ x : Str, x ≠ "__name__" → mb x = bootBuiltins x
  nolimit : base.NoLimit
/-- the context: a def's body (or a comprehension's block) running. base: fixed through the whole law; s₀, H₀: the entry; outer: the frames whose slots others may change (a def's callers); stack: all frames that run;
   ex: iterators that were made ahead of the entry and are walked here (a comprehension's); fn: the names whose cells were made at the entry (a def: all; a comprehension's block: its own); calm: not within an except suite; pn: pins that every state bears; xe: what is wanted of an exception that leaves the code -/
structure Cx where
  prog : Program
  w : World
  K : PySem.W.Frag
  mg : Str → Option Value
  base : Heap
  A : Around
  N : List Str
  s₀ : Shared
  H₀ : Hp
  env : Env
  outer : List Env
  stack : List Env
  ex : List Addr
  fn : Str → Bool
  calm : Bool
  pn : List (Addr × Obj)
  xe : Value → Shared → Prop
/-- the callers' frames -/
def frs (l : List Env) : List Addr := l.filterMap (·.frame)
abbrev Cx.fs (X : Cx) : List Addr := frs X.outer
def Vis (sc : Scope) (x : Str) : Prop := sc.names.lookup x = some .local ∨ sc.names.lookup x = some .cell ∨ sc.names.lookup x = some .free
def Loc (sc : Scope) (x : Str) : Prop := sc.names.lookup x = some .local ∨ sc.names.lookup x = some .cell
def Look (env : Env) (h : Heap) (m : Str → Option Value) (x : Str) (u : Value) : Prop :=
  (env.kindOf x = some .local ∧ m x = some u) ∨ ((env.kindOf x = some .cell ∨ env.kindOf x = some .free) ∧ ∃ c, env.cells.lookup x = some c ∧ h.IsCell c (some u))
structure Cx.Ok (X : Cx) : Prop where
  mod : Mod X.K X.mg X.base
  kind : X.env.scope.kind = .function
  glob : X.env.globals = mainGlobals
  blt : X.env.builtins = builtinsNs
  above : X.s₀.heap.objs.size ≤ X.env.locals
  inj : ∀ x y c, X.env.cells.lookup x = some c → X.env.cells.lookup y = some c → x = y
  has : ∀ x, (X.env.kindOf x = some .cell ∨ X.env.kindOf x = some .free) → ∃ c, X.env.cells.lookup x = some c
  cab : ∀ x c, X.fn x = true → X.env.cells.lookup x = some c → X.s₀.heap.objs.size ≤ c
  hd : X.calm = true → X.A.handled = none
  frames : X.A.frames = some X.stack
  stk : X.stack = X.outer ∨ (X.stack = X.env :: X.outer ∧ X.env.frame = some X.env.locals)
  exf : ∀ b ∈ X.ex, b ≠ X.env.locals ∧ ∀ x c, X.env.cells.lookup x = some c → c ≠ b
  bs : ∀ b o, X.base.get? b = some o → X.s₀.heap.get? b = some o ∧ X.H₀ b = none
  bsz : X.base.objs.size ≤ X.s₀.heap.objs.size
  noex : ∀ b o, X.base.get? b = some o → b ∉ X.ex
  exfs : ∀ b ∈ X.ex, b ∉ X.fs
  funs : X.s₀.heap.FunFrames X.base X.outer
  frf : ∀ b ∈ X.fs, X.H₀ b = none
structure Inv (X : Cx) (pins : List (Addr × Obj)) (σ : List (Option V)) (H : Hp) (s : Shared) : Prop where
  ok : X.Ok
  os : s.os = X.s₀.os
  bare : AllBare s.gens
  base : Un X.fs X.ex X.H₀ H X.s₀.heap s.heap
  loc : ∃ m, s.heap.Ns X.env.locals m ∧ ∀ (i : Nat) (x : Str) (v : V), X.N[i]? = some x → σ[i]? = some (some v) → Vis X.env.scope x → ∃ u, RelV v u ∧ Look X.env s.heap m x u
  cell : ∀ x c, X.env.cells.lookup x = some c → ∃ v, s.heap.IsCell c v
  free : H X.env.locals = none
  freeC : ∀ x c, X.env.cells.lookup x = some c → H c = none
  pin : ∀ p ∈ X.pn ++ pins, s.heap.get? p.1 = some p.2 ∧ H p.1 = none ∧ p.1 ≠ X.env.locals ∧ p.1 ∉ X.fs ∧ ∀ v, p.2.data ≠ .cell v
  hok : HOk X.prog X.w H s.heap
  len : σ.length = X.N.length
section
variable {X : Cx} {pins : List (Addr × Obj)} {σ : List (Option V)} {H H' : Hp} {s : Shared} {h' : Heap}
theorem Cx.Ok.nofr (ok : X.Ok) {b : Addr} {o : Obj} (e : X.base.get? b = some o) : b ∉ X.fs := fun hb => by
  have := (ok.funs.mem hb).1
  rw [e] at this; cases this
theorem Inv.bs (I : Inv X pins σ H s) : ∀ b o, X.base.get? b = some o → s.heap.get? b = some o ∧ H b = none := fun b o e =>
  ⟨I.base.keep b o (I.ok.bs b o e).1 (I.ok.bs b o e).2 (I.ok.nofr e) (I.ok.noex b o e), I.base.free b o (I.ok.bs b o e).1 (I.ok.bs b o e).2 (I.ok.noex b o e)⟩
theorem Inv.bk (I : Inv X pins σ H s) : ∀ b o, X.base.get? b = some o → s.heap.get? b = some o := fun b o e => (I.bs b o e).1
theorem Inv.mod (I : Inv X pins σ H s) : Mod X.K X.mg X.base := I.ok.mod
theorem Inv.kIn (I : Inv X pins σ H s) : X.K.In s.heap := I.ok.mod.kin.keeps I.bk
/-- the frame over the base: for OpenK's rules (K.In X.base is I.mod.kin) -/
theorem Inv.fr (I : Inv X pins σ H s) : ∃ m, Fr X.base X.env.locals s.heap m :=
  let ⟨m, hn, _⟩ := I.loc
  ⟨m, hn, I.bk, Nat.le_trans I.ok.bsz I.ok.above⟩
theorem Inv.lt (I : Inv X pins σ H s) : X.env.locals < s.heap.objs.size := let ⟨_, hn, _⟩ := I.loc; hn.lt
theorem Inv.sz (I : Inv X pins σ H s) : X.s₀.heap.objs.size ≤ s.heap.objs.size := Nat.le_trans I.ok.above (Nat.le_of_lt I.lt)
theorem Inv.nofs (I : Inv X pins σ H s) {a : Addr} (h : s.heap.objs.size ≤ a) : a ∉ X.fs := fun hb => by
  obtain ⟨_, o, ho, _⟩ := I.ok.funs.mem hb
  exact absurd (Nat.lt_of_lt_of_le (Heap.lt_size ho) (Nat.le_trans I.sz h)) (Nat.lt_irrefl _)
theorem Inv.cne (I : Inv X pins σ H s) : ∀ x c, X.env.cells.lookup x = some c → c ≠ X.env.locals := fun x c e z => by
  obtain ⟨v, o, ho, hd⟩ := I.cell x c e
  obtain ⟨m, ⟨o', es, ep, ho', hd', _⟩, _⟩ := I.loc
  rw [z, ho'] at ho; cases ho; rw [hd'] at hd; cases hd
theorem Inv.funs (I : Inv X pins σ H s) : s.heap.FunFrames X.base X.outer := by
  have all : ∀ (l : List Env), (∀ b ∈ frs l, b ∈ X.fs) → X.s₀.heap.FunFrames X.base l → s.heap.FunFrames X.base l := by
    intro l
    induction l with
    | nil => intro _ _; trivial
    | cons env r ih =>
      intro hs hl
      obtain ⟨hk, ⟨L, o, hf, hn, ho, hd⟩, hr⟩ := hl
      have hL : L ∈ X.fs := hs L (by unfold frs; rw [List.filterMap_cons, hf]; exact List.mem_cons_self)
      obtain ⟨sl, e⟩ := I.base.slot L o ho (I.ok.frf L hL) hL fun z => I.ok.exfs L z hL
      exact ⟨hk, ⟨L, _, hf, hn, e, hd⟩, ih (fun b hb => hs b (by unfold frs; rw [List.filterMap_cons, hf]; exact List.mem_cons_of_mem _ hb)) hr⟩
  exact all X.outer (fun _ hb => hb) I.ok.funs
/-- the frames that run, for a call -/
theorem Inv.stack (I : Inv X pins σ H s) : s.heap.FunFrames X.base X.stack := by
  rcases I.ok.stk with e | ⟨e, hf⟩
  · rw [e]; exact I.funs
  · rw [e]
    obtain ⟨m, hn, _⟩ := I.loc
    refine .cons (by rw [I.ok.kind]; decide) hf hn ?_ I.funs
    exact Heap.get?_none_of_le (Nat.le_trans I.ok.bsz I.ok.above)
theorem Inv.stkSub (I : Inv X pins σ H s) : ∀ b ∈ frs X.stack, b ∈ X.env.locals :: X.fs := fun b hb => by
  rcases I.ok.stk with e | ⟨e, hf⟩
  · rw [e] at hb; exact List.mem_cons_of_mem _ hb
  · rw [e] at hb
    unfold frs at hb
    rw [List.filterMap_cons, hf] at hb
    exact hb
theorem Inv.stkFree (I : Inv X pins σ H s) : ∀ b ∈ frs X.stack, H b = none := fun b hb => by
  rcases List.mem_cons.mp (I.stkSub b hb) with e | hb
  · rw [e]; exact I.free
  · obtain ⟨_, o, ho, _⟩ := I.ok.funs.mem hb
    exact I.base.free b o ho (I.ok.frf b hb) fun z => I.ok.exfs b z hb
/-- THE STEP: the untracked objects but the frame and the records at ch are kept (the callers' frames up to slots), the frame's map is kept, the new abstract heap is held -/
theorem Inv.step {g' : Array GenState} {t' : Nat} {d' : Drawn} {ch : List Addr} (I : Inv X pins σ H s)
    (hch : ∀ b ∈ ch, (b ∈ X.ex ∨ X.s₀.heap.objs.size ≤ b) ∧ b ≠ X.env.locals ∧ (∀ x c, X.env.cells.lookup x = some c → c ≠ b) ∧ ∀ p ∈ X.pn ++ pins, p.1 ≠ b)
    (keep : ∀ b o, b ≠ X.env.locals → b ∉ X.fs → b ∉ ch → s.heap.get? b = some o → H b = none → h'.get? b = some o)
    (slot : ∀ b o, b ≠ X.env.locals → b ∈ X.fs → b ∉ ch → s.heap.get? b = some o → H b = none → ∃ sl, h'.get? b = some { o with slots := sl }) (free : ∀ b o, b ∉ ch → s.heap.get? b = some o → H b = none → H' b = none)
    (there : ∀ b o, b ∉ ch → s.heap.get? b = some o → ∃ o', h'.get? b = some o')
    (tups : ∀ b xs, H b = some (.tup xs) → H' b = some (.tup xs)) (frzs : ∀ b o u, H b = some (.frz o u) → H' b = some (.frz o u)) (tbls : ∀ b ps, H b = some (.tbl ps) → ∃ more, H' b = some (.tbl (ps ++ more)))
    (ns : ∀ m, s.heap.Ns X.env.locals m → h'.Ns X.env.locals m) (hok : HOk X.prog X.w H' h') (hg : AllBare g') :
    Inv X pins σ H' { s with heap := h', gens := g', drawn := d', toks := t' } := by
  have neL : ∀ b o, X.s₀.heap.get? b = some o → b ≠ X.env.locals := fun b o e => Nat.ne_of_lt (Nat.lt_of_lt_of_le (Heap.lt_size e) I.ok.above)
  have neC : ∀ b o, X.s₀.heap.get? b = some o → b ∉ X.ex → b ∉ ch := fun b o e hx hb => by
    rcases (hch b hb).1 with z | z
    · exact hx z
    · exact absurd (Nat.lt_of_lt_of_le (Heap.lt_size e) z) (Nat.lt_irrefl _)
  have cellK : ∀ x c, X.env.cells.lookup x = some c → ∀ v, s.heap.IsCell c v → h'.IsCell c v := fun x c e v ⟨o, ho, hd⟩ => by
    have nch : c ∉ ch := fun z => (hch c z).2.2.1 x c e rfl
    by_cases hc : c ∈ X.fs
    · obtain ⟨sl, q⟩ := slot c o (I.cne x c e) hc nch ho (I.freeC x c e)
      exact ⟨_, q, hd⟩
    · exact ⟨o, keep c o (I.cne x c e) hc nch ho (I.freeC x c e), hd⟩
  refine ⟨I.ok, I.os, hg, ⟨fun b o e n hb hx => ?_, fun b o e n hb hx => ?_, fun b o e n hx => ?_, fun b o e hx => ?_, fun b xs e => tups b xs (I.base.tups b xs e), fun b o xs e => frzs b o xs (I.base.frzs b o xs e), fun b ps e => ?_⟩, ?_, fun x c e => ?_, ?_, fun x c e => ?_, fun p hp => ?_, hok, I.len⟩
  · exact keep b o (neL b o e) hb (neC b o e hx) (I.base.keep b o e n hb hx) (I.base.free b o e n hx)
  · obtain ⟨sl, e1⟩ := I.base.slot b o e n hb hx
    obtain ⟨sl', e2⟩ := slot b _ (neL b o e) hb (neC b o e hx) e1 (I.base.free b o e n hx)
    exact ⟨sl', e2⟩
  · obtain ⟨o', e1⟩ := I.base.there b o e hx
    exact free b o' (neC b o e hx) e1 (I.base.free b o e n hx)
  · obtain ⟨o', e1⟩ := I.base.there b o e hx
    exact there b o' (neC b o e hx) e1
  · obtain ⟨m1, e1⟩ := I.base.tbls b ps e
    obtain ⟨m2, e2⟩ := tbls b _ e1
    exact ⟨m1 ++ m2, by rw [e2, Array.append_assoc]⟩
  · obtain ⟨m, hn, hl⟩ := I.loc
    refine ⟨m, ns m hn, fun i x v e1 e2 e3 => ?_⟩
    obtain ⟨u, r, l⟩ := hl i x v e1 e2 e3
    refine ⟨u, r, ?_⟩
    rcases l with l | ⟨k, c, e, z⟩
    · exact .inl l
    · exact .inr ⟨k, c, e, cellK x c e _ z⟩
  · obtain ⟨v, z⟩ := I.cell x c e
    exact ⟨v, cellK x c e v z⟩
  · obtain ⟨m, ⟨o, _, _, ho, _⟩, _⟩ := I.loc
    exact free _ o (fun z => (hch _ z).2.1 rfl) ho I.free
  · obtain ⟨v, o, ho, hd⟩ := I.cell x c e
    exact free c o (fun z => (hch c z).2.2.1 x c e rfl) ho (I.freeC x c e)
  · obtain ⟨e, n, ne, nf, d⟩ := I.pin p hp
    have nch : p.1 ∉ ch := fun z => (hch p.1 z).2.2.2 p hp rfl
    exact ⟨keep p.1 p.2 ne nf nch e n, free p.1 p.2 nch e n, ne, nf, d⟩
/-- .. where the frame's own object is kept too -/
theorem Inv.un {t' : Nat} (I : Inv X pins σ H s) (u : Un X.fs [] H H' s.heap h') (hok : HOk X.prog X.w H' h') : Inv X pins σ H' { s with heap := h', toks := t' } := by
  obtain ⟨m, ⟨o, es, ep, ho, r⟩, _⟩ := id I.loc
  obtain ⟨sl, hL⟩ := u.any ho I.free (by simp)
  exact I.step (g' := s.gens) (d' := s.drawn) (ch := []) (fun _ z => nomatch z) (fun b o _ hb _ e n => u.keep b o e n hb (by simp)) (fun b o _ hb _ e n => u.slot b o e n hb (by simp)) (fun b o _ e n => u.free b o e n (by simp)) (fun b o _ e => u.there b o e (by simp)) u.tups u.frzs u.tbls (fun m' hm => by
    obtain ⟨o', es', ep', ho', r'⟩ := hm
    rw [ho] at ho'; cases ho'
    exact ⟨_, es', ep', hL, r'⟩) hok I.bare
/-- behind a call (or a comprehension's block): the slots of this frame may have changed too, the records at ch may have turned -/
theorem Inv.call {g' : Array GenState} {t' : Nat} {d' : Drawn} {ch : List Addr} (I : Inv X pins σ H s) (u : Un (frs X.stack) ch H H' s.heap h') (hok : HOk X.prog X.w H' h') (hg : AllBare g')
    (hch : ∀ b ∈ ch, (b ∈ X.ex ∨ X.s₀.heap.objs.size ≤ b) ∧ b ≠ X.env.locals ∧ (∀ x c, X.env.cells.lookup x = some c → c ≠ b) ∧ ∀ p ∈ X.pn ++ pins, p.1 ≠ b) :
    Inv X pins σ H' { s with heap := h', gens := g', drawn := d', toks := t' } := by
  obtain ⟨m, ⟨o, es, ep, ho, r⟩, _⟩ := id I.loc
  obtain ⟨sl, hL⟩ := u.any ho I.free fun z => (hch _ z).2.1 rfl
  exact I.step (ch := ch) hch (fun b o hL hb hc e n => u.keep b o e n (fun z => (List.mem_cons.mp (I.stkSub b z)).elim hL hb) hc) (fun b o _ _ hc e n => u.any e n hc) (fun b o hc e n => u.free b o e n hc) (fun b o hc e => u.there b o e hc) u.tups u.frzs u.tbls (fun m' hm => by
    obtain ⟨o', es', ep', ho', r'⟩ := hm
    rw [ho] at ho'; cases ho'
    exact ⟨_, es', ep', hL, r'⟩) hok hg
/-- an untracked record of ours (an iterator) has turned -/
theorem Inv.turned {t' : Nat} {it : Addr} (I : Inv X pins σ H s) (k : ∀ b o, b ≠ it → s.heap.get? b = some o → h'.get? b = some o) (hn : H it = none) (hL : it ≠ X.env.locals)
    (h1 : it ∈ X.ex ∨ X.s₀.heap.objs.size ≤ it) (h2 : ∀ x c, X.env.cells.lookup x = some c → c ≠ it) (h3 : ∀ p ∈ X.pn ++ pins, p.1 ≠ it) : Inv X pins σ H { s with heap := h', toks := t' } := by
  have nit : ∀ b u, H b = some u → b ≠ it := fun b u e z => by rw [z, hn] at e; cases e
  refine I.step (g' := s.gens) (d' := s.drawn) (ch := [it]) (fun b hb => ?_) (fun b o _ _ hc e _ => k b o (fun z => hc (by simp [z])) e) (fun b o _ _ hc e _ => ⟨o.slots, k b o (fun z => hc (by simp [z])) e⟩) (fun _ _ _ _ n => n)
    (fun b o hc e => ⟨o, k b o (fun z => hc (by simp [z])) e⟩) (fun _ _ e => e) (fun _ _ _ e => e) (fun b ps e => ⟨#[], by rw [e]; simp⟩) (fun m hm => ?_) (fun b u e => ?_) I.bare
  · have e : b = it := by simpa using hb
    subst e
    exact ⟨h1, hL, h2, h3⟩
  · obtain ⟨o, es, ep, ho, r⟩ := hm
    exact ⟨o, es, ep, k _ o (Ne.symm hL) ho, r⟩
  · refine (I.hok b u e).stay (fun c v hc q => k c v ?_ q) (fun _ q => q) fun _ _ q => q
    rcases hc with z | z
    · rw [z]; exact nit b u e
    · exact nit c _ z
theorem Inv.tok (I : Inv X pins σ H s) (t : Nat) : Inv X pins σ H { s with toks := t } := I.un (h' := s.heap) (t' := t) Un.refl I.hok
/-- all objects kept -/
theorem Inv.kept {t' : Nat} (I : Inv X pins σ H s) (k : ∀ b u, s.heap.get? b = some u → h'.get? b = some u) : Inv X pins σ H { s with heap := h', toks := t' } := I.un (Un.kept k) (I.hok.kept k)
/-- a new object laid and tracked -/
theorem Inv.laid {a : Addr} {o : HO} {t' : Nat} (I : Inv X pins σ H s) (k : ∀ b u, s.heap.get? b = some u → h'.get? b = some u) (hp : s.heap.objs.size ≤ a) (new : ObjOk X.prog X.w (upd H a o) h' a o) :
    Inv X pins σ (upd H a o) { s with heap := h', toks := t' } := I.un (Un.laid k hp (I.hok.fresh hp)) (I.hok.laid k hp new)
/-- an object written -/
theorem Inv.write {x e : Addr} {o : HO} {t' : Nat} (I : Inv X pins σ H s) (mu : Mut (H x)) (he : e = x ∨ H e = some (.own x)) (k : ∀ b u, b ≠ e → s.heap.get? b = some u → h'.get? b = some u) (heo : ∃ u, h'.get? e = some u)
    (new : ObjOk X.prog X.w (upd H x o) h' x o) : Inv X pins σ (upd H x o) { s with heap := h', toks := t' } := I.un (Un.write mu he k heo) (I.hok.write mu he k heo new)
/-- forgetting slots, pins -/
theorem Inv.weak {σ' : List (Option V)} (I : Inv X pins σ H s) (hl : σ'.length = σ.length) (w : ∀ (i : Nat) v, σ'[i]? = some (some v) → σ[i]? = some (some v)) : Inv X pins σ' H s :=
  ⟨I.ok, I.os, I.bare, I.base, let ⟨m, hn, hl'⟩ := I.loc; ⟨m, hn, fun i x v e1 e2 e3 => hl' i x v e1 (w i v e2) e3⟩, I.cell, I.free, I.freeC, I.pin, I.hok, hl.trans I.len⟩
theorem Inv.pins_of {pins' : List (Addr × Obj)} (I : Inv X pins σ H s) (h : ∀ p ∈ pins', s.heap.get? p.1 = some p.2 ∧ H p.1 = none ∧ p.1 ≠ X.env.locals ∧ p.1 ∉ X.fs ∧ ∀ v, p.2.data ≠ .cell v) : Inv X pins' σ H s :=
  ⟨I.ok, I.os, I.bare, I.base, I.loc, I.cell, I.free, I.freeC, fun p hp => (List.mem_append.mp hp).elim (fun z => I.pin p (List.mem_append_left _ z)) (h p), I.hok, I.len⟩
theorem nodup_ix {N : List Str} (hN : N.Nodup) {i j : Nat} {x : Str} (a : N[i]? = some x) (b : N[j]? = some x) : i = j := by
  obtain ⟨h1, e1⟩ := List.getElem?_eq_some_iff.mp a
  obtain ⟨h2, e2⟩ := List.getElem?_eq_some_iff.mp b
  exact (List.getElem_inj hN).mp (e1.trans e2.symm)
/-- a name is stored; what changed -/
theorem store_ok2 {M : Model} {A : Around} {E : Value → Shared → Prop} {i : Nat} {x : Str} {v : V} {u : Value} {Q : Unit → Shared → Prop} (I : Inv X pins σ H s) (hN : X.N.Nodup) (hi : X.N[i]? = some x) (hx : Loc X.env.scope x) (r : RelV v u)
    (h : ∀ s', Inv X pins (σ.set i (some v)) H s' → (∃ a, Heap.SameBut a s.heap s'.heap ∧ (a = X.env.locals ∨ X.env.cells.lookup x = some a)) → Q () s') (hf : X.fn x = true ∨ X.env.scope.names.lookup x = some .local := by first | exact .inl rfl | exact .inr rfl | assumption) : wpAny M A (storeName X.env x u) Q E s := by
  obtain ⟨m, hn, hl⟩ := id I.loc
  have hcls : (X.env.scope.kind == .class || (X.env.scope.kind == .module && X.env.locals != X.env.globals)) = false := by rw [I.ok.kind]; rfl
  have hiσ : i < σ.length := by rw [I.len]; exact (List.getElem?_eq_some_iff.mp hi).1
  have cne := I.cne
  have tracked : ∀ {a : Addr} {h' : Heap}, (∃ o, s.heap.get? a = some o ∧ H a = none) → Heap.SameBut a s.heap h' → HOk X.prog X.w H h' := fun {a h'} ha hs b ob e => by
    obtain ⟨_, _, hfree⟩ := ha
    refine (I.hok b ob e).stay (fun c w' hc q => (hs.2 c ?_).trans q) (fun _ q => q) fun _ _ q => q
    rintro rfl
    rcases hc with rfl | hc
    · rw [hfree] at e; cases e
    · rw [hfree] at hc; cases hc
  rcases hx with hk | hk
  · refine wpAny_storeName_local hk hn (fun h' hn' hs => ?_) hcls
    obtain ⟨oL, _, _, hoL, _⟩ := id hn
    refine h _ ⟨I.ok, I.os, I.bare, ⟨fun b o e n hb hx => ?_, fun b o e n hb hx => ?_, I.base.free, fun b o e hx => ?_, I.base.tups, I.base.frzs, I.base.tbls⟩, ⟨_, hn', fun j y v' e1 e2 e3 => ?_⟩, fun y c e => ?_, I.free, I.freeC, fun p hp => ?_, tracked ⟨oL, hoL, I.free⟩ hs, by simpa using I.len⟩ ⟨_, hs, .inl rfl⟩
    · exact (hs.2 b (Nat.ne_of_lt (Nat.lt_of_lt_of_le (Heap.lt_size e) I.ok.above))).trans (I.base.keep b o e n hb hx)
    · obtain ⟨sl, e1⟩ := I.base.slot b o e n hb hx
      exact ⟨sl, (hs.2 b (Nat.ne_of_lt (Nat.lt_of_lt_of_le (Heap.lt_size e) I.ok.above))).trans e1⟩
    · obtain ⟨o', e1⟩ := I.base.there b o e hx
      exact ⟨o', (hs.2 b (Nat.ne_of_lt (Nat.lt_of_lt_of_le (Heap.lt_size e) I.ok.above))).trans e1⟩
    · by_cases hj : j = i
      · subst hj
        rw [hi] at e1; cases e1
        rw [List.getElem?_set_self hiσ] at e2
        cases e2
        exact ⟨u, r, .inl ⟨hk, by simp⟩⟩
      · rw [List.getElem?_set_ne (Ne.symm hj)] at e2
        obtain ⟨u', r', q⟩ := hl j y v' e1 e2 e3
        refine ⟨u', r', ?_⟩
        rcases q with ⟨k, e⟩ | ⟨k, c, e, z⟩
        · refine .inl ⟨k, ?_⟩
          have : y ≠ x := fun e => hj (nodup_ix hN e1 (e ▸ hi))
          simp [this, e]
        · exact .inr ⟨k, c, e, z.sameBut hs (cne y c e)⟩
    · obtain ⟨w', z⟩ := I.cell y c e
      exact ⟨w', z.sameBut hs (cne y c e)⟩
    · obtain ⟨e, n, ne, nf, d⟩ := I.pin p hp
      exact ⟨(hs.2 p.1 ne).trans e, n, ne, nf, d⟩
  · have hfn : X.fn x = true := by
      rcases hf with z | z
      · exact z
      · rw [z] at hk; cases hk
    obtain ⟨c, hc⟩ := I.ok.has x (.inl hk)
    obtain ⟨w', z⟩ := I.cell x c hc
    refine wpAny_storeName_cell I.ok.kind hk hc z (fun h' hc' hs => ?_)
    obtain ⟨oc, hoc, hocd⟩ := id z
    refine h { s with heap := h' } ⟨I.ok, I.os, I.bare, ⟨fun b o e n hb hx => ?_, fun b o e n hb hx => ?_, I.base.free, fun b o e hx => ?_, I.base.tups, I.base.frzs, I.base.tbls⟩, ⟨m, hn.sameBut hs (Ne.symm (cne x c hc)), fun j y v' e1 e2 e3 => ?_⟩, fun y c' e => ?_, I.free, I.freeC, fun p hp => ?_, tracked ⟨oc, hoc, I.freeC x c hc⟩ hs, by simpa using I.len⟩ ⟨c, hs, .inr hc⟩
    · exact (hs.2 b (Nat.ne_of_lt (Nat.lt_of_lt_of_le (Heap.lt_size e) (I.ok.cab x c hfn hc)))).trans (I.base.keep b o e n hb hx)
    · obtain ⟨sl, e1⟩ := I.base.slot b o e n hb hx
      exact ⟨sl, (hs.2 b (Nat.ne_of_lt (Nat.lt_of_lt_of_le (Heap.lt_size e) (I.ok.cab x c hfn hc)))).trans e1⟩
    · obtain ⟨o', e1⟩ := I.base.there b o e hx
      exact ⟨o', (hs.2 b (Nat.ne_of_lt (Nat.lt_of_lt_of_le (Heap.lt_size e) (I.ok.cab x c hfn hc)))).trans e1⟩
    · by_cases hj : j = i
      · subst hj
        rw [hi] at e1; cases e1
        rw [List.getElem?_set_self hiσ] at e2
        cases e2
        exact ⟨u, r, .inr ⟨.inl hk, c, hc, hc'⟩⟩
      · rw [List.getElem?_set_ne (Ne.symm hj)] at e2
        obtain ⟨u', r', q⟩ := hl j y v' e1 e2 e3
        refine ⟨u', r', ?_⟩
        rcases q with q | ⟨k, c', e, z'⟩
        · exact .inl q
        · refine .inr ⟨k, c', e, z'.sameBut hs ?_⟩
          rintro rfl
          exact hj (nodup_ix hN e1 (I.ok.inj _ _ _ e hc ▸ hi))
    · by_cases hcc : c' = c
      · subst hcc; exact ⟨_, hc'⟩
      · obtain ⟨w2, z2⟩ := I.cell y c' e
        exact ⟨w2, z2.sameBut hs hcc⟩
    · obtain ⟨e, n, ne, nf, d⟩ := I.pin p hp
      refine ⟨(hs.2 p.1 ?_).trans e, n, ne, nf, d⟩
      intro q
      rw [q, hoc] at e
      have q' : oc = p.2 := Option.some.inj e
      exact d w' (by rw [← q']; exact hocd)
theorem store_ok {M : Model} {A : Around} {E : Value → Shared → Prop} {i : Nat} {x : Str} {v : V} {u : Value} {Q : Unit → Shared → Prop} (I : Inv X pins σ H s) (hN : X.N.Nodup) (hi : X.N[i]? = some x) (hx : Loc X.env.scope x) (r : RelV v u)
    (h : ∀ s', Inv X pins (σ.set i (some v)) H s' → Q () s') (hf : X.fn x = true ∨ X.env.scope.names.lookup x = some .local := by first | exact .inl rfl | exact .inr rfl | assumption) : wpAny M A (storeName X.env x u) Q E s :=
  store_ok2 I hN hi hx r (fun s' I' _ => h s' I') hf
/-- behind a call or a block, the state as it is -/
theorem Inv.call' {s' : Shared} {ch : List Addr} (I : Inv X pins σ H s) (ho : s'.os = s.os) (u : Un (frs X.stack) ch H H' s.heap s'.heap) (hok : HOk X.prog X.w H' s'.heap) (hg : AllBare s'.gens)
    (hch : ∀ b ∈ ch, (b ∈ X.ex ∨ X.s₀.heap.objs.size ≤ b) ∧ b ≠ X.env.locals ∧ (∀ x c, X.env.cells.lookup x = some c → c ≠ b) ∧ ∀ p ∈ X.pn ++ pins, p.1 ≠ b) : Inv X pins σ H' s' := by
  obtain ⟨h', g', d', t', o'⟩ := s'
  have e : o' = s.os := ho
  subst e
  exact I.call (g' := g') (t' := t') (d' := d') u hok hg hch
end
/-- an exception: its class, its own dict's address (where it has one), the abstract heap behind it -/
abbrev XK := Value → Option Addr → Hp → Prop
abbrev St := List (Option V)
abbrev VK := V → Hp → Prop
/-- an expression's reading; a test's; an argument list's -/
abbrev TE := St → Hp → VK → Prop
abbrev TT := St → Hp → (Bool → Hp → Prop) → Prop
abbrev TA := St → Hp → (List V → Hp → Prop) → Prop
/-- what is wanted behind a statement -/
structure Ends where
  nx : St → Hp → Prop
  rt : VK
  bk : St → Hp → Prop := fun _ _ => False
  ct : St → Hp → Prop := fun _ _ => False
abbrev TS := Ends → St → Hp → Prop
def EP (X : Cx) (pins : List (Addr × Obj)) (σ : St) (Q : VK) (u : Value) (s' : Shared) : Prop := ∃ v H', Inv X pins σ H' s' ∧ RelV v u ∧ Q v H'
def TP (X : Cx) (pins : List (Addr × Obj)) (σ : St) (Q : Bool → Hp → Prop) (b : Bool) (s' : Shared) : Prop := ∃ H', Inv X pins σ H' s' ∧ Q b H'
def AP (X : Cx) (pins : List (Addr × Obj)) (σ : St) (Q : List V → Hp → Prop) (us : List Value) (s' : Shared) : Prop := ∃ vs H', Inv X pins σ H' s' ∧ Vals vs us ∧ Q vs H'
def SP (X : Cx) (pins : List (Addr × Obj)) (D : Ends) (f : Flow) (s' : Shared) : Prop :=
  match f with
  | .next => ∃ σ' H', Inv X pins σ' H' s' ∧ D.nx σ' H'
  | .brk => ∃ σ' H', Inv X pins σ' H' s' ∧ D.bk σ' H'
  | .cont => ∃ σ' H', Inv X pins σ' H' s' ∧ D.ct σ' H'
  | .ret u => ∃ v σ' H', Inv X pins σ' H' s' ∧ RelV v u ∧ D.rt v H'
def PE (X : Cx) (e : Expr) (t : TE) : Prop :=
  ∀ (pins : List (Addr × Obj)) (s : Shared) (σ : St) (H : Hp) (Q : VK), Inv X pins σ H s → t σ H Q → wpAny (model X.prog X.w) X.A (eval e X.env) (EP X pins σ Q) X.xe s
def PT (X : Cx) (e : Expr) (t : TT) : Prop :=
  ∀ (pins : List (Addr × Obj)) (s : Shared) (σ : St) (H : Hp) (Q : Bool → Hp → Prop), Inv X pins σ H s → t σ H Q → wpAny (model X.prog X.w) X.A (isTrue e X.env (eval e X.env)) (TP X pins σ Q) X.xe s
/-- a test whatever its 'whole' is (and, or) -/
def PW (X : Cx) (e : Expr) (t : TT) : Prop :=
  ∀ (whole : Sem Value) (pins : List (Addr × Obj)) (s : Shared) (σ : St) (H : Hp) (Q : Bool → Hp → Prop), Inv X pins σ H s → t σ H Q → wpAny (model X.prog X.w) X.A (isTrue e X.env whole) (TP X pins σ Q) X.xe s
theorem PW.pt {X : Cx} {e : Expr} {t : TT} (h : PW X e t) : PT X e t := h _
/-- an argument list (no star), from the left -/
def PA (X : Cx) (es : List Expr) (t : TA) : Prop :=
  ∀ (pos : Pos) (pins : List (Addr × Obj)) (s : Shared) (σ : St) (H : Hp) (Q : List V → Hp → Prop), Inv X pins σ H s → t σ H Q → wpAny (model X.prog X.w) X.A (spliced (backTo pos (starEach es X.env))) (AP X pins σ Q) X.xe s
def PS (X : Cx) (st : Stmt) (t : TS) : Prop :=
  ∀ (pins : List (Addr × Obj)) (s : Shared) (σ : St) (H : Hp) (D : Ends), Inv X pins σ H s → t D σ H → wpAny (model X.prog X.w) X.A (exec st X.env) (SP X pins D) X.xe s
def PSs (X : Cx) (st : List Stmt) (t : TS) : Prop :=
  ∀ (pins : List (Addr × Obj)) (s : Shared) (σ : St) (H : Hp) (D : Ends), Inv X pins σ H s → t D σ H → wpAny (model X.prog X.w) X.A (execs st X.env) (SP X pins D) X.xe s
/-- weaken the end -/
theorem thn {α : Type} {t : Sem α} {Q Q' : α → Shared → Prop} {M : Model} {A : Around} {E : Value → Shared → Prop} {s : Shared} (h : wpAny M A t Q E s) (hQ : ∀ a s, Q a s → Q' a s) : wpAny M A t Q' E s := wpAny_mono h hQ fun _ _ x => x
end L2
namespace L2
open PySem PySem.Spec PyProof.Rows
section
variable {X : Cx}
/-- two expressions in a row -/
theorem bin {a b : Expr} {ta tb : TE} (ha : PE X a ta) (hb : PE X b tb) {pins : List (Addr × Obj)} {s : Shared} {σ : St} {H : Hp} {R : V → V → Hp → Prop} (I : Inv X pins σ H s) (h : ta σ H fun x H1 => tb σ H1 fun y H2 => R x y H2)
    {α : Type} {Q : α → Shared → Prop} {f : Value → Value → Sem α}
    (hf : ∀ v u s2 x y H2, Inv X pins σ H2 s2 → RelV x v → RelV y u → R x y H2 → wpAny (model X.prog X.w) X.A (f v u) Q X.xe s2) :
    wpAny (model X.prog X.w) X.A (eval a X.env) (fun v s₁ => wpAny (model X.prog X.w) X.A (eval b X.env) (fun u s₂ => wpAny (model X.prog X.w) X.A (f v u) Q X.xe s₂) X.xe s₁) X.xe s := by
  refine thn (ha pins s σ H _ I h) fun v s1 ⟨x, H1, I1, r1, q1⟩ => ?_
  refine thn (hb pins s1 σ H1 _ I1 q1) fun u s2 ⟨y, H2, I2, r2, q2⟩ => ?_
  exact hf v u s2 x y H2 I2 r1 r2 q2
inductive tVar (i : Nat) : St → Hp → VK → Prop
  | mk {σ : St} {H : Hp} {Q : VK} (v) (z_0 : σ[i]? = some (some v)) (z_1 : Q v H) : tVar i σ H Q
def tC (v : V) : TE := fun _ H Q => Q v H
theorem pe_var {i : Nat} {x : Str} {pos : Pos} (hN : X.N[i]? = some x) (hv : Vis X.env.scope x) (hd : (x == ("__debug__" : Str)) = false := by decide) (hcd : (x == ("__classdict__" : Str)) = false := by decide) : PE X (.Name x pos) (tVar i) := by
  intro pins s σ H Q I h
  obtain ⟨v, e, h⟩ := h
  obtain ⟨m, hn, hl⟩ := I.loc
  obtain ⟨u, r, l⟩ := hl i x v hN e hv
  have fin : EP X pins σ Q u s := ⟨v, H, I, r, h⟩
  rcases l with ⟨hk, hm⟩ | ⟨hk, c, hc, hcell⟩
  · exact wpAny_Name (wpAny_loadName_local I.ok.kind hk hn hm fin) hd
  · rcases hk with hk | hk
    · exact wpAny_Name (wpAny_loadName_cell I.ok.kind hk hc hcell fin) hd
    · exact wpAny_Name (wpAny_loadName_free I.ok.kind hk hc hcell fin hcd) hd
theorem pe_int {i j pos} : PE X (.Constant (.int i) j pos) (tC (.int i)) := fun _ _ _ H _ I h => wpAny_Constant_int ⟨.int i, H, I.tok _, ⟨_, rfl⟩, h⟩
theorem pe_bl {b j pos} : PE X (.Constant (.bool b) j pos) (tC (.bl b)) := fun _ _ _ H _ I h => Constant_bool ⟨.bl b, H, I, rfl, h⟩
/-- a global name of the def -/
def Gl (X : Cx) (x : Str) : Prop := X.env.kindOf x = some .globalImplicit
theorem ld_glob {E : Value → Shared → Prop} {pins : List (Addr × Obj)} {s : Shared} {σ : St} {H : Hp} {x : Str} {u : Value} {pos : Pos} {Q : Value → Shared → Prop} (I : Inv X pins σ H s) (hg : Gl X x) (hm : X.mg x = some u) (h : Q u s)
    (hd : (x == ("__debug__" : Str)) = false := by decide) : wpAny (model X.prog X.w) X.A (eval (.Name x pos) X.env) Q E s :=
  Calls.Name_function_global I.ok.kind hg (Calls.loadGlobal_global (by rw [I.ok.glob]; exact I.mod.glob.keeps I.bk) hm h) hd
theorem ld_blt {E : Value → Shared → Prop} {pins : List (Addr × Obj)} {s : Shared} {σ : St} {H : Hp} {x : Str} {u : Value} {pos : Pos} {Q : Value → Shared → Prop} (I : Inv X pins σ H s) (hg : Gl X x) (hm : X.mg x = none) (hv : bootBuiltins x = some u) (h : Q u s)
    (hn : x ≠ "__name__" := by decide) (hd : (x == ("__debug__" : Str)) = false := by decide) : wpAny (model X.prog X.w) X.A (eval (.Name x pos) X.env) Q E s := by
  obtain ⟨mb, h1, h2⟩ := I.mod.blt
  exact Calls.Name_function_global I.ok.kind hg (Calls.loadGlobal_builtin (by rw [I.ok.glob]; exact I.mod.glob.keeps I.bk) hm (by rw [I.ok.blt]; exact h1.keeps I.bk) ((h2 x hn).trans hv) h) hd
/-- a module's constant, a class, a function, as a value -/
theorem pe_glob {x : Str} {v : V} {u : Value} {pos : Pos} (hg : Gl X x) (hm : X.mg x = some u) (r : RelV v u) (hd : (x == ("__debug__" : Str)) = false := by decide) : PE X (.Name x pos) (tC v) :=
  fun _ _ _ H _ I h => ld_glob I hg hm ⟨v, H, I, r, h⟩ hd
theorem pe_bltn {x : Str} {v : V} {u : Value} {pos : Pos} (hg : Gl X x) (hm : X.mg x = none) (hv : bootBuiltins x = some u) (r : RelV v u) (hn : x ≠ "__name__" := by decide) (hd : (x == ("__debug__" : Str)) = false := by decide) : PE X (.Name x pos) (tC v) :=
  fun _ _ _ H _ I h => ld_blt I hg hm hv ⟨v, H, I, r, h⟩ hn hd
/-- two ints -/
def t2I (ta tb : TE) (k : Int → Int → Hp → Prop) : St → Hp → Prop := fun σ H => ta σ H fun x H1 => tb σ H1 fun y H2 => ∃ i j, x = .int i ∧ y = .int j ∧ k i j H2
variable {a b : Expr} {ta tb : TE} {pos : Pos}
def PC (X : Cx) (op : CmpOp) (a b : Expr) (t : TE) : Prop :=
  ∀ (pins : List (Addr × Obj)) (s : Shared) (σ : St) (H : Hp) (Q : VK), Inv X pins σ H s → t σ H Q →
    wpAny (model X.prog X.w) X.A (eval a X.env) (fun v s₁ => wpAny (model X.prog X.w) X.A (eval b X.env) (fun u s₂ => wpAny (model X.prog X.w) X.A (compareOp op v u) (EP X pins σ Q) X.xe s₂) X.xe s₁) X.xe s
theorem nobehind (b : Expr) {op : CmpOp} (h : op ≠ .In) (h2 : op ≠ .NotIn) : behindInMarks op b = false := by
  have e1 : (op == CmpOp.In) = false := by cases op <;> first | rfl | exact absurd rfl h
  have e2 : (op == CmpOp.NotIn) = false := by cases op <;> first | rfl | exact absurd rfl h2
  cases b <;> simp [behindInMarks, e1, e2]
def tCmp (p : Int → Int → Bool) (ta tb : TE) : TE := fun σ H Q => t2I ta tb (fun i j H2 => Q (.bl (p i j)) H2) σ H
abbrev tLt : TE → TE → TE := tCmp fun i j => decide (i < j)
abbrev tLe : TE → TE → TE := tCmp fun i j => decide (i ≤ j)
abbrev tGt : TE → TE → TE := tCmp fun i j => decide (j < i)
abbrev tGe : TE → TE → TE := tCmp fun i j => decide (j ≤ i)
abbrev tEqI : TE → TE → TE := tCmp fun i j => decide (i = j)
abbrev tNeI : TE → TE → TE := tCmp fun i j => !decide (i = j)
/-- is None -/
def tIsN (ta : TE) : TE := fun σ H Q => ta σ H fun x H1 => Q (.bl (decide (x = .non))) H1
theorem RelV.none_iff {x : V} {v : Value} (r : RelV x v) : (v == Value.none) = decide (x = .non) := by
  cases x with
  | non => cases r; rfl
  | bl _ => cases r; rfl
  | int _ => obtain ⟨t, rfl⟩ := r; rfl
  | str _ => obtain ⟨t, rfl⟩ := r; rfl
  | byt _ => obtain ⟨t, rfl⟩ := r; rfl
  | flt _ => obtain ⟨t, rfl⟩ := r; rfl
  | ref _ => cases r; rfl
  | ty _ => cases r; rfl
theorem pc_isN {j pos'} (ha : PE X a ta) : PC X .Is a (.Constant .none j pos') (tIsN ta) := by
  intro pins s σ H Q I h
  refine thn (ha pins s σ H _ I h) fun v s1 ⟨x, H1, I1, r1, q1⟩ => ?_
  exact Constant_none (is_none_gen ⟨.bl _, H1, I1, by rw [r1.none_iff]; rfl, q1⟩)
/-- a comparison as a value, as a test -/
inductive IsBl (x : V) (H : Hp) (Q : Bool → Hp → Prop) : Prop
  | mk (k : Bool) (z_0 : x = .bl k) (z_1 : Q k H) : IsBl x H Q
def tB (t : TE) : TT := fun σ H Q => t σ H fun x H1 => IsBl x H1 Q
theorem pt_cmp {op : CmpOp} {t : TE} (h : PC X op a b t) (h1 : behindInMarks op b = false := by first | exact nobehind _ (by decide) (by decide) | rfl) : PT X (.Compare a [op] [b] pos) (tB t) := by
  intro pins s σ H Q I hw
  refine wpAny_isTrue_Compare1 (thn (h pins s σ H _ I hw) fun v s1 h1 => thn h1 fun u s2 h2 => thn h2 fun c s3 ⟨x, H1, I1, r1, q1⟩ => ?_) h1
  obtain ⟨d, rfl, q⟩ := q1
  cases r1
  exact wpAny_truthy_bool ⟨H1, I1, q⟩
/-- an expression whose value is a bool, as a test -/
theorem pt_val {e : Expr} {t : TE} (h : PE X e t) (he : ∀ whole, isTrue e X.env whole = (do let v ← whole; standAt e.pos; holding [v] (truthy v)) := by intro _; rfl) : PT X e (tB t) := by
  intro pins s σ H Q I hw
  refine isTrue_plain (thn (h pins s σ H _ I hw) fun v s1 ⟨x, H1, I1, r1, q1⟩ => ?_) (he _)
  obtain ⟨d, rfl, q⟩ := q1
  cases r1
  exact wpAny_truthy_bool ⟨H1, I1, q⟩
variable {tA tB' : TT} {rest : List Expr}
def tAnd (t u : TT) : TT := fun σ H Q => t σ H fun c H1 => if c = true then u σ H1 Q else Q false H1
def tOr (t u : TT) : TT := fun σ H Q => t σ H fun c H1 => if c = true then Q true H1 else u σ H1 Q
def tNot (t : TT) : TT := fun σ H Q => t σ H fun c H1 => Q (!c) H1
theorem pw_and1 (ha : PT X a tA) : PW X (.BoolOp .And [a] pos) tA := by
  intro wh pins s σ H Q I h
  refine isTrue_and (thn (ha pins s σ H Q I h) fun c s1 e => ?_)
  cases c with
  | true => exact isTrue_and_nil e
  | false => exact e
theorem pw_or1 (ha : PT X a tA) : PW X (.BoolOp .Or [a] pos) tA := by
  intro wh pins s σ H Q I h
  refine isTrue_or (thn (ha pins s σ H Q I h) fun c s1 e => ?_)
  cases c with
  | false => exact isTrue_or_nil e
  | true => exact e
theorem pw_and (ha : PT X a tA) (hb : PW X (.BoolOp .And (b :: rest) pos) tB') : PW X (.BoolOp .And (a :: b :: rest) pos) (tAnd tA tB') := by
  intro wh pins s σ H Q I h
  refine isTrue_and (thn (ha pins s σ H _ I h) fun c s1 ⟨H1, I1, q1⟩ => ?_)
  cases c with
  | true => exact hb wh pins s1 σ H1 Q I1 q1
  | false => exact ⟨H1, I1, q1⟩
theorem pw_or (ha : PT X a tA) (hb : PW X (.BoolOp .Or (b :: rest) pos) tB') : PW X (.BoolOp .Or (a :: b :: rest) pos) (tOr tA tB') := by
  intro wh pins s σ H Q I h
  refine isTrue_or (thn (ha pins s σ H _ I h) fun c s1 ⟨H1, I1, q1⟩ => ?_)
  cases c with
  | true => exact ⟨H1, I1, q1⟩
  | false => exact hb wh pins s1 σ H1 Q I1 q1
theorem pt_not (ha : PT X a tA) : PT X (.UnaryOp .Not a pos) (tNot tA) := by
  intro pins s σ H Q I h
  exact isTrue_not (ha pins s σ H (fun c H1 => Q (!c) H1) I h)
/-- .. as values (bools) -/
def tAndV (ta tb : TE) : TE := fun σ H Q => ta σ H fun x H1 => ∃ c, x = .bl c ∧ if c = true then tb σ H1 Q else Q (.bl false) H1
def tOrV (ta tb : TE) : TE := fun σ H Q => ta σ H fun x H1 => ∃ c, x = .bl c ∧ if c = true then Q (.bl true) H1 else tb σ H1 Q
def tNotV (ta : TE) : TE := fun σ H Q => ta σ H fun x H1 => ∃ c, x = .bl c ∧ Q (.bl (!c)) H1
theorem pe_one {op} {t : TE} (h : PE X a t) : PE X (.BoolOp op [a] pos) t := fun pins s σ H Q I hw => BoolOp_one (h pins s σ H Q I hw)
theorem pe_and (ha : PE X a ta) (hb : PE X (.BoolOp .And (b :: rest) pos) tb) : PE X (.BoolOp .And (a :: b :: rest) pos) (tAndV ta tb) := by
  intro pins s σ H Q I h
  refine BoolOp_and (thn (ha pins s σ H _ I h) fun v s1 ⟨x, H1, I1, r1, q1⟩ => ?_)
  obtain ⟨c, rfl, q1⟩ := q1
  cases r1
  refine wpAny_truthy_bool ?_
  cases c with
  | true => exact hb pins s1 σ H1 Q I1 q1
  | false => exact ⟨.bl false, H1, I1, rfl, q1⟩
theorem pe_or (ha : PE X a ta) (hb : PE X (.BoolOp .Or (b :: rest) pos) tb) : PE X (.BoolOp .Or (a :: b :: rest) pos) (tOrV ta tb) := by
  intro pins s σ H Q I h
  refine BoolOp_or (thn (ha pins s σ H _ I h) fun v s1 ⟨x, H1, I1, r1, q1⟩ => ?_)
  obtain ⟨c, rfl, q1⟩ := q1
  cases r1
  refine wpAny_truthy_bool ?_
  cases c with
  | false => exact hb pins s1 σ H1 Q I1 q1
  | true => exact ⟨.bl true, H1, I1, rfl, q1⟩
theorem pe_not (ha : PE X a ta) : PE X (.UnaryOp .Not a pos) (tNotV ta) := by
  intro pins s σ H Q I h
  refine UnaryOp_ (thn (ha pins s σ H _ I h) fun v s1 ⟨x, H1, I1, r1, q1⟩ => ?_)
  obtain ⟨c, rfl, q1⟩ := q1
  cases r1
  exact not_of (wpAny_truthy_bool ⟨.bl (!c), H1, I1, rfl, q1⟩)
end
end L2
namespace L2
open PySem PySem.Spec PyProof.Rows
def SqL (K : PySem.W.Frag) (H : Hp) (a : Addr) (xs : List V) : Prop :=
  Rd H a (.lst xs) ∨
    ∃ (o : Obj) (its : Array Value) (n : Nat), K.lookup a = some o ∧ o.cls = .type "list" ∧ o.dict = none ∧ o.data = .seq its n ∧ its.size ≤ sizeLine ∧ Vals xs its.toList
def SqT (K : PySem.W.Frag) (H : Hp) (a : Addr) (xs : List V) : Prop :=
  Rd H a (.tup xs) ∨
    ∃ (o : Obj) (its : Array Value) (n : Nat), K.lookup a = some o ∧ o.cls = .type "tuple" ∧ o.data = .seq its n ∧ its.size ≤ sizeLine ∧ Vals xs its.toList
def absV : Value → Option V
  | .none => some .non
  | .bool b => some (.bl b)
  | .int i _ => some (.int i)
  | .str x _ => some (.str x)
  | .bytes b _ => some (.byt b)
  | .float b _ => some (.flt b)
  | .ref a => some (.ref a)
  | .type n => some (.ty n)
  | _ => none
theorem RelV.abs {x : V} {u : Value} (r : RelV x u) : absV u = some x := by
  cases x with
  | non => cases r; rfl
  | bl _ => cases r; rfl
  | int _ => obtain ⟨t, rfl⟩ := r; rfl
  | str _ => obtain ⟨t, rfl⟩ := r; rfl
  | byt _ => obtain ⟨t, rfl⟩ := r; rfl
  | flt _ => obtain ⟨t, rfl⟩ := r; rfl
  | ref _ => cases r; rfl
  | ty _ => cases r; rfl
theorem RelV.inj {x y : V} {u : Value} (r : RelV x u) (q : RelV y u) : x = y := Option.some.inj (r.abs.symm.trans q.abs)
theorem Vals.inj : ∀ {xs ys : List V} {us : List Value}, Vals xs us → Vals ys us → xs = ys
  | _, _, _, .nil, .nil => rfl
  | _, _, _, .cons r t, .cons r' t' => by rw [r.inj r', Vals.inj t t']
section
variable {X : Cx} {pins : List (Addr × Obj)} {σ : St} {H : Hp} {s : Shared} {a : Addr} {xs ys : List V}
theorem SqL.of {K : PySem.W.Frag} (h : H a = some (.lst xs)) : SqL K H a xs := .inl (.inl h)
theorem SqT.of {K : PySem.W.Frag} (h : H a = some (.tup xs)) : SqT K H a xs := .inl (.inl h)
theorem Inv.list (I : Inv X pins σ H s) (h : SqL X.K H a xs) : ∃ its : List Value, Vals xs its ∧ PlainL s.heap a its.toArray ∧ xs.length ≤ sizeLine := by
  rcases h with h | ⟨o, its, n, hk, hc, hd, hs, hz, r⟩
  · obtain ⟨z, its, n, r, e⟩ := h.ok I.hok
    exact ⟨its, r, ⟨_, n, e, rfl, rfl, rfl⟩, z⟩
  · refine ⟨its.toList, r, ⟨o, n, I.kIn a o hk, hc, hd, by simpa using hs⟩, ?_⟩
    have e := r.length
    simp only [Array.length_toList] at e
    (first | lia | omega)
theorem Inv.tuple (I : Inv X pins σ H s) (h : SqT X.K H a xs) : ∃ its : List Value, Vals xs its ∧ IsTup s.heap a its.toArray ∧ xs.length ≤ sizeLine := by
  rcases h with h | ⟨o, its, n, hk, hc, hs, hz, r⟩
  · obtain ⟨z, its, r, p⟩ := h.ok I.hok
    exact ⟨its, r, p, z⟩
  · refine ⟨its.toList, r, ⟨o, I.kIn a o hk, hc, n, by simpa using hs⟩, ?_⟩
    have e := r.length
    simp only [Array.length_toList] at e
    (first | lia | omega)
theorem Inv.list_inj (I : Inv X pins σ H s) (h : SqL X.K H a xs) (h' : SqL X.K H a ys) : xs = ys := by
  obtain ⟨its, r, ⟨o, n, e, _, _, d⟩, _⟩ := I.list h
  obtain ⟨its', r', ⟨o', n', e', _, _, d'⟩, _⟩ := I.list h'
  rw [e] at e'; cases e'
  rw [d] at d'
  injection d' with d1 _
  have : its = its' := by simpa using congrArg Array.toList d1
  subst this
  exact r.inj r'
end
abbrev Cx.wish (X : Cx) (E : Value → Shared → Prop) : Cx := { X with xe := E }
/-- no exception leaves -/
abbrev Cx.nox (X : Cx) : Cx := X.wish fun _ _ => False
theorem Cx.Ok.wish {X : Cx} (ok : X.Ok) (E : Value → Shared → Prop) : (X.wish E).Ok :=
  ⟨ok.mod, ok.kind, ok.glob, ok.blt, ok.above, ok.inj, ok.has, ok.cab, ok.hd, ok.frames, ok.stk, ok.exf, ok.bs, ok.bsz, ok.noex, ok.exfs, ok.funs, ok.frf⟩
theorem Cx.Ok.unwish {X : Cx} {E : Value → Shared → Prop} (ok : (X.wish E).Ok) : X.Ok :=
  ⟨ok.mod, ok.kind, ok.glob, ok.blt, ok.above, ok.inj, ok.has, ok.cab, ok.hd, ok.frames, ok.stk, ok.exf, ok.bs, ok.bsz, ok.noex, ok.exfs, ok.funs, ok.frf⟩
section
variable {X : Cx} {pins : List (Addr × Obj)} {σ : St} {H : Hp} {s : Shared} {E : Value → Shared → Prop}
theorem Inv.wish (I : Inv X pins σ H s) (E : Value → Shared → Prop) : Inv (X.wish E) pins σ H s := ⟨I.ok.wish E, I.os, I.bare, I.base, I.loc, I.cell, I.free, I.freeC, I.pin, I.hok, I.len⟩
theorem Inv.unwish (I : Inv (X.wish E) pins σ H s) : Inv X pins σ H s := ⟨I.ok.unwish, I.os, I.bare, I.base, I.loc, I.cell, I.free, I.freeC, I.pin, I.hok, I.len⟩
theorem SP.unwish {D : Ends} {f : Flow} {s' : Shared} (h : SP (X.wish E) pins D f s') : SP X pins D f s' := by
  cases f with
  | next => obtain ⟨σ', H', I, q⟩ := h; exact ⟨σ', H', I.unwish, q⟩
  | brk => obtain ⟨σ', H', I, q⟩ := h; exact ⟨σ', H', I.unwish, q⟩
  | cont => obtain ⟨σ', H', I, q⟩ := h; exact ⟨σ', H', I.unwish, q⟩
  | ret u => obtain ⟨v, σ', H', I, r, q⟩ := h; exact ⟨v, σ', H', I.unwish, r, q⟩
theorem PSs.nox {st : List Stmt} {t : TS} (h : PSs X.nox st t) : PSs X st t := fun pins s σ H D I hw =>
  wpAny_mono (h pins s σ H D (I.wish _) hw) (fun _ _ q => q.unwish) fun _ _ z => False.elim z
end
section
variable {X : Cx} {st : Stmt} {rest : List Stmt} {t u : TS} {e : Expr} {te : TE} {pos : Pos}
def tNext : TS := fun D σ H => D.nx σ H
def tSeq (t u : TS) : TS := fun D σ H => t { D with nx := u D } σ H
theorem pss_nil : PSs X [] tNext := fun _ _ σ H _ I h => wpAny_execs_nil ⟨σ, H, I, h⟩
theorem pss_cons (h1 : PS X st t) (h2 : PSs X rest u) : PSs X (st :: rest) (tSeq t u) := by
  intro pins s σ H D I h
  refine wpAny_execs_cons (thn (h1 pins s σ H { D with nx := u D } I h) fun f s1 q => ?_)
  cases f with
  | next =>
    obtain ⟨σ', H', I', q⟩ := q
    exact h2 pins s1 σ' H' D I' q
  | ret v => exact q
  | brk => exact q
  | cont => exact q
theorem pss_one (h1 : PS X st t) : PSs X [st] t := by
  intro pins s σ H D I h
  refine wpAny_execs_cons (thn (h1 pins s σ H D I h) fun f s1 q => ?_)
  cases f with
  | next => exact wpAny_execs_nil q
  | ret v => exact q
  | brk => exact q
  | cont => exact q
/-- in a def's body nothing is shown -/
theorem Inv.quiet {pins : List (Addr × Obj)} {σ : St} {H : Hp} {s : Shared} (I : Inv X pins σ H s) : interactive X.env = false := by simp [interactive, I.ok.kind]
/-- an expression whose value is dropped -/
def tDrop (te : TE) : TS := fun D σ H => te σ H fun _ H1 => D.nx σ H1
theorem ps_expr (he : PE X e te) (hs : swapsWith e none pos.line X.env = pure false := by rfl) : PS X (.Expr e pos) (tDrop te) := by
  intro pins s σ H D I h
  exact wpAny_Expr_any (thn (he pins s σ H _ I h) fun v s1 ⟨x, H1, I1, r1, q1⟩ => ⟨σ, H1, I1, q1⟩) I.quiet hs
def tRet (te : TE) : TS := fun D σ H => te σ H D.rt
theorem ps_ret (he : PE X e te) : PS X (.Return (some e) pos) (tRet te) := by
  intro pins s σ H D I h
  exact wpAny_Return_some (thn (he pins s σ H _ I h) fun v s1 ⟨x, H1, I1, r1, q1⟩ => ⟨x, σ, H1, I1, r1, q1⟩)
def tIfS (c : TT) (t u : TS) : TS := fun D σ H => c σ H fun b H1 => if b = true then t D σ H1 else u D σ H1
theorem ps_if {c : Expr} {a b : List Stmt} {tc : TT} (hc : PT X c tc) (ha : PSs X a t) (hb : PSs X b u) : PS X (.If c a b pos) (tIfS tc t u) := by
  intro pins s σ H D I h
  refine wpAny_If (thn (hc pins s σ H _ I h) fun d s1 ⟨H1, I1, q1⟩ => ?_)
  cases d with
  | true => exact ha pins s1 σ H1 D I1 q1
  | false => exact hb pins s1 σ H1 D I1 q1
/-- code that the proof never comes to -/
def tNever : TS := fun _ _ _ => False
theorem pss_never {sts : List Stmt} : PSs X sts tNever := fun _ _ _ _ _ _ h => h.elim
end
abbrev TG := V → St → Hp → (St → Hp → Prop) → Prop
abbrev TGs := List V → St → Hp → (St → Hp → Prop) → Prop
def PG (X : Cx) (target : Expr) (t : TG) : Prop :=
  ∀ (pins : List (Addr × Obj)) (s : Shared) (σ : St) (H : Hp) (v : V) (u : Value) (Q : St → Hp → Prop), Inv X pins σ H s → RelV v u → t v σ H Q →
    wpAny (model X.prog X.w) X.A (assign target X.env u) (fun _ s' => ∃ σ' H', Inv X pins σ' H' s' ∧ Q σ' H') X.xe s
/-- several targets, one after another -/
def PGs (X : Cx) (ts : List Expr) (t : TGs) : Prop :=
  ∀ (pins : List (Addr × Obj)) (s : Shared) (σ : St) (H : Hp) (vs : List V) (us : List Value) (Q : St → Hp → Prop), Inv X pins σ H s → Vals vs us → t vs σ H Q →
    wpAny (model X.prog X.w) X.A (assignInOrder ((assignEach ts X.env).map (·.2)) us) (fun _ s' => ∃ σ' H', Inv X pins σ' H' s' ∧ Q σ' H') X.xe s
/-- o[i] = v, by values -/
abbrev TSet := V → V → V → Hp → (Hp → Prop) → Prop
def PSet (X : Cx) (t : TSet) : Prop :=
  ∀ (pins : List (Addr × Obj)) (s : Shared) (σ : St) (H : Hp) (o i v : V) (ov iv u : Value) (Q : Hp → Prop), Inv X pins σ H s → RelV o ov → RelV i iv → RelV v u → t o i v H Q →
    wpAny (model X.prog X.w) X.A (setItem ov iv u) (fun _ s' => ∃ H', Inv X pins σ H' s' ∧ Q H') X.xe s
/-- a op= b, by values -/
abbrev TIp := V → V → Hp → VK → Prop
section
variable {X : Cx} {pos : Pos}
def gName (i : Nat) : TG := fun v σ H Q => Q (σ.set i (some v)) H
theorem pg_name {i : Nat} {x : Str} (hN : X.N.Nodup) (hi : X.N[i]? = some x) (hx : Loc X.env.scope x) (hf : X.fn x = true ∨ X.env.scope.names.lookup x = some .local := by first | exact .inl rfl | exact .inr rfl | assumption) : PG X (.Name x pos) (gName i) := by
  intro pins s σ H v u Q I r h
  exact wpAny_assign_Name (store_ok I hN hi hx r (fun s' I' => ⟨_, H, I', h⟩) hf)
def gNil : TGs := fun vs σ H Q => vs = [] ∧ Q σ H
inductive gCons (t : TG) (u : TGs) : List V → St → Hp → (St → Hp → Prop) → Prop
  | mk {vs : List V} {σ : St} {H : Hp} {Q : (St → Hp → Prop)} (v r) (z_0 : vs = v :: r) (z_1 : t v σ H fun σ' H' => u r σ' H' Q) : gCons t u vs σ H Q
theorem pgs_nil : PGs X [] gNil := by
  intro pins s σ H vs us Q I r h
  obtain ⟨e, h⟩ := h
  subst e
  cases r
  exact assignInOrder_nil ⟨σ, H, I, h⟩
theorem pgs_cons {e : Expr} {es : List Expr} {t : TG} {u : TGs} (h1 : PG X e t) (h2 : PGs X es u)
    (hs : (assignEach (e :: es) X.env).map (·.2) = assign e X.env :: (assignEach es X.env).map (·.2) := by rfl) : PGs X (e :: es) (gCons t u) := by
  intro pins s σ H vs us Q I r h
  obtain ⟨v, vr, e1, h⟩ := h
  subst e1
  cases r with
  | cons r rr =>
    rw [hs]
    refine assignInOrder_cons (thn (h1 pins s σ H _ _ _ I r h) fun _ s1 ⟨σ1, H1, I1, q1⟩ => ?_)
    exact h2 pins s1 σ1 H1 _ _ Q I1 rr q1
/-- (a, b, ..) = a tuple of that length -/
inductive gTup (K : PySem.W.Frag) (n : Nat) (t : TGs) : V → St → Hp → (St → Hp → Prop) → Prop
  | mk {v : V} {σ : St} {H : Hp} {Q : (St → Hp → Prop)} (a xs) (z_0 : v = .ref a) (z_1 : SqT K H a xs) (z_2 : xs.length = n) (z_3 : t xs σ H Q) : gTup K n t v σ H Q
theorem pg_tup {es : List Expr} {k : Nat} {t : TGs} {n : Nat} (hc : X.calm = true) (h : PGs X es t)
    (hn : (assignEach es X.env).length = n := by rfl) (hst : (assignEach es X.env).findIdx? (·.1) = none := by rfl) : PG X (.Tuple es k pos) (gTup X.K n t) := by
  intro pins s σ H v u Q I r hw
  obtain ⟨a, xs, e1, hq, hl, hw⟩ := hw
  subst e1
  cases r
  obtain ⟨its, rv, ht, hz⟩ := I.tuple hq
  refine assign_Tuple_tuple (I.ok.hd hc) ht (by simp [hn, ← hl, rv.length]) hst fun h' hx => ?_
  have I1 : Inv X pins σ H { s with heap := h' } := I.kept (t' := s.toks) fun b o e => hx b o (Nat.ne_of_lt (Heap.lt_size e)) e
  exact h pins _ σ H xs _ Q I1 (by simpa using rv) hw
/-- o[i] = .. -/
def gSub (to ti : TE) (t : TSet) : TG := fun v σ H Q => to σ H fun o H1 => ti σ H1 fun i H2 => t o i v H2 fun H3 => Q σ H3
theorem pg_sub {o i : Expr} {to ti : TE} {t : TSet} (ho : PE X o to) (hi : PE X i ti) (hs : PSet X t)
    (ha : ∀ v, assign (.Subscript o i pos) X.env v = (do
      let ov ← holding [v] (eval o X.env)
      let iv ← holding [v, ov] (eval i X.env)
      standAt pos
      holding [v, ov, iv] (setItem ov iv v)
      release [v, ov, iv] []) := by intro _; rfl) : PG X (.Subscript o i pos) (gSub to ti t) := by
  intro pins s σ H v u Q I r h
  rw [ha]
  refine wpAny_bind (wpAny_holding (thn (ho pins s σ H _ I h) fun ov s1 ⟨x, H1, I1, r1, q1⟩ => ?_))
  refine wpAny_bind (wpAny_holding (thn (hi pins s1 σ H1 _ I1 q1) fun iv s2 ⟨y, H2, I2, r2, q2⟩ => ?_))
  refine wpAny_bind (wpAny_standAt (wpAny_bind (wpAny_holding (thn (hs pins s2 σ H2 x y v ov iv u _ I2 r1 r2 r q2) fun _ s3 ⟨H3, I3, q3⟩ => ?_))))
  exact wpAny_release ⟨σ, H3, I3, q3⟩
/-- target = value -/
def tAsg (te : TE) (g : TG) : TS := fun D σ H => te σ H fun x H1 => g x σ H1 D.nx
theorem ps_asg {tg e : Expr} {te : TE} {g : TG} (he : PE X e te) (hg : PG X tg g) (hs : swapsWithSole [tg] e pos.line X.env = pure false := by rfl) (hw : swappedStores [tg] e X.env = pure none := by rfl)
    (h1 : (assignEach [tg] X.env).map (·.2) = [assign tg X.env] := by rfl) : PS X (.Assign [tg] e pos) (tAsg te g) := by
  intro pins s σ H D I h
  refine wpAny_Assign_stores (thn (he pins s σ H _ I h) fun v s1 ⟨x, H1, I1, r1, q1⟩ => ?_) hs hw
  rw [h1]
  exact thn (hg pins s1 σ H1 x v _ I1 r1 q1) fun _ s2 q => q
/-- name = value -/
theorem ps_set {i : Nat} {x : Str} {e : Expr} {te : TE} {pos' : Pos} (hN : X.N.Nodup) (hi : X.N[i]? = some x) (hx : Loc X.env.scope x) (he : PE X e te) (hs : swapsWith e (some (.Name x pos')) pos.line X.env = pure false := by rfl) (hf : X.fn x = true ∨ X.env.scope.names.lookup x = some .local := by first | exact .inl rfl | exact .inr rfl | assumption) :
    PS X (.Assign [.Name x pos'] e pos) (tAsg te (gName i)) := by
  intro pins s σ H D I h
  refine wpAny_Assign_Name (thn (he pins s σ H _ I h) fun v s1 ⟨y, H1, I1, r1, q1⟩ => ?_) hs
  exact store_ok I1 hN hi hx r1 (fun s2 I2 => ⟨_, H1, I2, q1⟩) hf
end
section
variable {X : Cx} {pos : Pos}
/-- the invariant W with its measure -/
def tWhile (c : TT) (tb : TS) : TS := fun D σ H => ∃ W : Nat → St → Hp → Prop, (∃ m, W m σ H) ∧ ∀ m σ H, W m σ H →
  c σ H fun b H1 => if b = true then ∃ N : St → Hp → Prop, (∀ σ' H', N σ' H' → ∃ m', m' < m ∧ W m' σ' H') ∧ tb { D with nx := N, ct := N, bk := D.nx } σ H1 else D.nx σ H1
theorem ps_while {c : Expr} {body : List Stmt} {tc : TT} {tb : TS} (hp : PassesOwn (model X.prog X.w) X.A X.env X.xe) (hc : PT X c tc) (hb : PSs X body tb) : PS X (.While c body [] pos) (tWhile tc tb) := by
  intro pins s σ H D I h
  obtain ⟨W, ⟨m0, w0⟩, turn⟩ := h
  refine wpAny_While (codeAny_whileLoop (fun n s' => ∃ σ' H', Inv X pins σ' H' s' ∧ W n σ' H') ?_ m0 ⟨σ, H, I, w0⟩)
  rintro n s1 ⟨σ1, H1, I1, w1⟩
  refine wpAny_passesOwn hp (thn (hc pins s1 σ1 H1 _ I1 (turn n σ1 H1 w1)) fun b s2 ⟨H2, I2, q2⟩ => ?_)
  cases b with
  | true =>
    obtain ⟨N, hN, q2⟩ := q2
    rw [if_pos rfl]
    refine wpAny_passesOwn hp (thn (hb pins s2 σ1 H2 _ I2 q2) fun f s3 q3 => ?_)
    cases f with
    | next =>
      obtain ⟨σ3, H3, I3, n3⟩ := q3
      obtain ⟨m', hm, w3⟩ := hN σ3 H3 n3
      exact ⟨m', hm, σ3, H3, I3, w3⟩
    | cont =>
      obtain ⟨σ3, H3, I3, n3⟩ := q3
      obtain ⟨m', hm, w3⟩ := hN σ3 H3 n3
      exact ⟨m', hm, σ3, H3, I3, w3⟩
    | brk => exact q3
    | ret v => exact q3
  | false =>
    rw [if_neg Bool.false_ne_true]
    exact wpAny_execs_nil ⟨σ1, H2, I2, q2⟩
end
/-- at turn i: it yields x (the heap may grow), or it stops -/
structure It where
  go : Nat → Hp → Prop
  yld : Nat → Hp → V → Hp → Prop
  stop : Nat → Hp → Prop
/-- the iterator's own objects may turn: they are not the frame's, not pinned, younger than the entry (or a comprehension's own) -/
def FpOk (X : Cx) (pins : List (Addr × Obj)) (H : Hp) (b : Addr) : Prop :=
  H b = none ∧ b ≠ X.env.locals ∧ b ∉ X.fs ∧ (b ∈ X.ex ∨ X.s₀.heap.objs.size ≤ b) ∧ (∀ x c, X.env.cells.lookup x = some c → c ≠ b) ∧ ∀ p ∈ X.pn ++ pins, p.1 ≠ b
theorem Inv.fpOk {X : Cx} {pins : List (Addr × Obj)} {σ : St} {H H' : Hp} {s : Shared} {b : Addr} (I : Inv X pins σ H s) (hb : s.heap.objs.size ≤ b) (hn : H' b = none) : FpOk X pins H' b := by
  refine ⟨hn, Nat.ne_of_gt (Nat.lt_of_lt_of_le I.lt hb), I.nofs hb, .inr (Nat.le_trans I.sz hb), fun x c e z => ?_, fun p hp z => ?_⟩
  · obtain ⟨v, q⟩ := I.cell x c e
    exact absurd (Nat.lt_of_lt_of_le q.lt (by rw [z]; exact hb)) (Nat.lt_irrefl _)
  · exact absurd (Nat.lt_of_lt_of_le (Heap.lt_size (I.pin p hp).1) (by rw [z]; exact hb)) (Nat.lt_irrefl _)
structure Turn (P : Program) (w : World) (K : PySem.W.Frag) (tg : Expr) (J : It) (fp : List Addr) (it : Addr) (tn : Nat → Heap → Prop) : Prop where
  mem : it ∈ fp
  obj : ∀ i h, tn i h → ∀ b ∈ fp, ∃ o, h.get? b = some o ∧ ∀ v, o.data ≠ .cell v
  keep : ∀ i h h', tn i h → (∀ b ∈ fp, ∀ o, h.get? b = some o → h'.get? b = some o) → tn i h'
  item : ∀ (X : Cx), X.prog = P → X.w = w → X.K = K → X.calm = true → ∀ (i : Nat) (pins : List (Addr × Obj)) (s : Shared) (σ : St) (H : Hp) (E : Value → Shared → Prop), Inv X pins σ H s → (∀ b ∈ fp, FpOk X pins H b) → tn i s.heap → J.go i H →
    wpAny (model P w) X.A (pyNext (.ref it)) (fun r s1 => ∃ u, r = some u ∧
      wpAny (model P w) X.A (letOwnedTupleGo tg (.ref it) u) (fun _ s2 => ∃ x H', Inv X pins σ H' s2 ∧ RelV x u ∧ J.yld i H x H' ∧ tn (i + 1) s2.heap ∧ ∀ b ∈ fp, H' b = none) E s1) E s
  done : ∀ (X : Cx), X.prog = P → X.w = w → X.K = K → X.calm = true → ∀ (i : Nat) (pins : List (Addr × Obj)) (s : Shared) (σ : St) (H : Hp) (E : Value → Shared → Prop), Inv X pins σ H s → (∀ b ∈ fp, FpOk X pins H b) → tn i s.heap → J.stop i H →
    wpAny (model P w) X.A (pyNext (.ref it)) (fun r s1 => r = none ∧ Inv X pins σ H s1) E s
  self : ∀ (A : Around) (i : Nat) (s : Shared) (Q : Value → Shared → Prop) (E : Value → Shared → Prop), tn i s.heap → Q (.ref it) s → wpAny (model P w) A (pyIter (.ref it)) Q E s
abbrev TI := St → Hp → (It → Hp → Prop) → Prop
/-- an iterator has come -/
def PIE (X : Cx) (pins : List (Addr × Obj)) (σ : St) (tg : Expr) (R : It → Hp → Prop) (itv : Value) (s2 : Shared) : Prop :=
  ∃ (it : Addr) (fp : List Addr) (tn : Nat → Heap → Prop) (J : It) (H' : Hp), itv = .ref it ∧ Inv X pins σ H' s2 ∧ Turn X.prog X.w X.K tg J fp it tn ∧ tn 0 s2.heap ∧ (∀ b ∈ fp, FpOk X pins H' b) ∧ R J H'
def PI (X : Cx) (tg iter : Expr) (wi : TI) : Prop :=
  ∀ (pins : List (Addr × Obj)) (s : Shared) (σ : St) (H : Hp) (R : It → Hp → Prop), Inv X pins σ H s → wi σ H R →
    wpAny (model X.prog X.w) X.A (eval iter X.env) (fun v s1 => wpAny (model X.prog X.w) X.A (pyIter v) (PIE X pins σ tg R) X.xe s1) X.xe s
/-- the step ahead of the store is nothing for an iterator that keeps no tuple -/
theorem go_of {M : Model} {A : Around} {E : Value → Shared → Prop} {s : Shared} {tg : Expr} {it : Addr} {u : Value} {o : Obj} {n : String} {vs : Array Value} {Q : Unit → Shared → Prop} (ho : s.heap.get? it = some o) (hc : o.cls = .type n) (hd : o.data = .fields vs)
    (hn : ["enumerate", "zip", "dict_itemiterator", "dict_reverseitemiterator", "odict_iterator", "itertools.zip_longest", "itertools.pairwise"].contains n = false) (hQ : Q () s) : wpAny M A (letOwnedTupleGo tg (.ref it) u) Q E s := by
  unfold letOwnedTupleGo
  cases tg <;> first
    | exact wpAny_pure hQ
    | (cases u <;> first
        | exact wpAny_pure hQ
        | (refine wpAny_bind (wpAny_load ho ?_)
           rw [hc, hd]
           show wpAny M A (if (["enumerate", "zip", "dict_itemiterator", "dict_reverseitemiterator", "odict_iterator", "itertools.zip_longest", "itertools.pairwise"].contains n && vs[0]? == some (rawInt _)) = true then _ else _) Q E s
           rw [if_neg (by intro h; rw [hn, Bool.false_and] at h; cases h)]
           exact wpAny_pure hQ))
/-- the list at a, as it stands at each turn (a loop may append to it) -/
def Itl (K : PySem.W.Frag) (a : Addr) : It :=
  ⟨fun i H => ∃ xs x, SqL K H a xs ∧ xs[i]? = some x, fun i H x H' => H' = H ∧ ∀ xs, SqL K H a xs → xs[i]? = some x, fun i H => ∃ xs, SqL K H a xs ∧ xs.length ≤ i⟩
/-- lo, lo + 1, .. (n of them) -/
def Itr (lo : Int) (n : Nat) : It := ⟨fun i _ => i < n, fun i H x H' => H' = H ∧ x = .int (lo + i), fun i _ => n ≤ i⟩
theorem turn_list {P : Program} {w : World} {K : PySem.W.Frag} {tg : Expr} (a it : Addr) : Turn P w K tg (Itl K a) [it] it (fun i h => h.IsListIter it a i) where
  mem := by simp
  obj := fun i h st b hb => by
    have e : b = it := by simpa using hb
    subst e
    obtain ⟨o, e, c, d⟩ := st
    exact ⟨o, e, fun v z => by rw [d] at z; cases z⟩
  keep := fun i h h' st k => st.at fun o e => k it (by simp) o e
  item := by
    intro X hP hw hK hc i pins s σ H E I hf st hg
    subst hP hw hK
    obtain ⟨xs, x, hq, hx⟩ := hg
    obtain ⟨its, rv, p, hz⟩ := I.list hq
    obtain ⟨u, hu, ru⟩ := rv.get hx
    obtain ⟨f0, f1, f2, f3, f4, f5⟩ := hf it (by simp)
    refine wpAny_pyNext_list_item st p.isList (x := u) (by simpa using hu) fun h' st' sb => ?_
    have I1 : Inv X pins σ H { s with heap := h' } := I.turned (t' := s.toks) (fun b o hb e => (sb.2 b hb).trans e) f0 f1 f3 f4 f5
    obtain ⟨o, e, c, d⟩ := id st'
    exact ⟨u, rfl, go_of (s := { s with heap := h' }) e c d (by decide) ⟨x, H, I1, ru, ⟨rfl, fun ys hy => by rw [I.list_inj hy hq]; exact hx⟩, st', fun b hb => (hf b hb).1⟩⟩
  done := by
    intro X hP hw hK hc i pins s σ H E I hf st hg
    subst hP hw hK
    obtain ⟨xs, hq, hx⟩ := hg
    obtain ⟨its, rv, p, hz⟩ := I.list hq
    obtain ⟨f0, f1, f2, f3, f4, f5⟩ := hf it (by simp)
    have hl := rv.length
    exact wpAny_pyNext_list_end (I.ok.hd hc) st p.isList (by simp; (first | lia | omega)) fun h' eb => ⟨rfl, I.turned (t' := s.toks) (fun b o hb e => eb b o hb e) f0 f1 f3 f4 f5⟩
  self := fun _ _ _ _ _ st h => wpAny_pyIter_listiter st h
theorem turn_range {P : Program} {w : World} {K : PySem.W.Frag} {tg : Expr} (it : Addr) (lo : Int) (n : Nat) : Turn P w K tg (Itr lo n) [it] it (fun i h => IsRangeIter h it (lo + (i : Nat) * 1) ((n : Int) - (i : Nat)) 1) where
  mem := by simp
  obj := fun i h st b hb => by
    have e : b = it := by simpa using hb
    subst e
    exact ⟨_, st, fun v z => by
      have z' : Data.fields _ = Data.cell v := z
      cases z'⟩
  keep := fun i h h' st k => k it (by simp) _ st
  item := by
    intro X hP hw hK hc i pins s σ H E I hf st hg
    subst hP hw hK
    obtain ⟨f0, f1, f2, f3, f4, f5⟩ := hf it (by simp)
    have W := Walks.range (prog := X.prog) (w := X.w) (I.ok.hd hc) it lo 1 n
    refine W.item i s _ _ hg st fun v h' tk hv st' kk => ?_
    obtain ⟨t, rfl⟩ := hv
    have I1 : Inv X pins σ H { s with heap := h', toks := tk } := I.turned (fun b o hb e => kk b o (by simpa using hb) e) f0 f1 f3 f4 f5
    refine ⟨_, rfl, go_of (s := { s with heap := h', toks := tk }) (n := "range_iterator") st' rfl rfl (by decide) ⟨.int (lo + i), H, I1, ⟨t, ?_⟩, ⟨rfl, rfl⟩, st', fun b hb => (hf b hb).1⟩⟩
    rw [Int.mul_one]
  done := by
    intro X hP hw hK hc i pins s σ H E I hf st hg
    subst hP hw hK
    obtain ⟨f0, f1, f2, f3, f4, f5⟩ := hf it (by simp)
    exact wpAny_pyNext_range_end (I.ok.hd hc) st (by have : n ≤ i := hg; (first | lia | omega)) fun h' eb => ⟨rfl, I.turned (t' := s.toks) (fun b o hb e => eb b o hb e) f0 f1 f3 f4 f5⟩
  self := fun _ _ _ _ _ st h => wpAny_pyIter_rangeiter st h
end L2
namespace L2
open PySem PySem.Spec PyProof.Rows
section
variable {X : Cx} {tg : Expr}
inductive ILst (K : PySem.W.Frag) (x : V) (H : Hp) (R : It → Hp → Prop) : Prop
  | mk (a : Addr) (z_0 : x = .ref a) (z_1 : ∃ xs, SqL K H a xs) (z_2 : R (Itl K a) H) : ILst K x H R
def iList (K : PySem.W.Frag) (tl : TE) : TI := fun σ H R => tl σ H fun x H1 => ILst K x H1 R
theorem pi_list {l : Expr} {tl : TE} (hl : PE X l tl) : PI X tg l (iList X.K tl) := by
  intro pins s σ H R I h
  refine thn (hl pins s σ H _ I h) fun v s1 ⟨x, H1, I1, r1, q1⟩ => ?_
  obtain ⟨a, e, ⟨xs, hq⟩, q⟩ := q1
  subst e
  cases r1
  obtain ⟨its, rv, p, hz⟩ := I1.list hq
  refine wpAny_pyIter_list p.isList ?_
  refine ⟨s1.heap.objs.size, [s1.heap.objs.size], _, _, H1, rfl, I1.kept (t' := s1.toks) fun b o e => Heap.get?_push_of_some _ e, turn_list a _, ⟨_, Heap.get?_push_size _ rfl, rfl, rfl⟩, fun b hb => ?_, q⟩
  have e : b = s1.heap.objs.size := by simpa using hb
  subst e
  exact I1.fpOk (Nat.le_refl _) (I1.hok.fresh (Nat.le_refl _))
/-- a range object just made, walked -/
theorem range_it {pins : List (Addr × Obj)} {σ : St} {H : Hp} {s : Shared} {R : It → Hp → Prop} {E : Value → Shared → Prop} {lo hi : Int} {t u v : Tok} {tk : Nat} (I : Inv X pins σ H s) (h1 : -(2 ^ 62) ≤ lo) (h2 : lo < 2 ^ 62) (h3 : -(2 ^ 62) ≤ hi) (h4 : hi < 2 ^ 62)
    (q : R (Itr lo (hi - lo).toNat) H) : wpAny (model X.prog X.w) X.A (pyIter (.ref s.heap.objs.size)) (PIE X pins σ tg R) E { s with heap := s.heap.push { cls := .type "range", data := .fields #[.int lo t, .int hi u, .int 1 v] }, toks := tk } := by
  refine wpAny_pyIter_range (IsRange.new ..) (small_one h1 h2 h3 h4) ?_
  have I1 : Inv X pins σ H { s with heap := s.heap.push { cls := .type "range", data := .fields #[.int lo t, .int hi u, .int 1 v] }, toks := tk } := I.kept fun b o e => Heap.get?_push_of_some _ e
  refine ⟨(s.heap.push { cls := .type "range", data := .fields #[.int lo t, .int hi u, .int 1 v] }).objs.size, [(s.heap.push { cls := .type "range", data := .fields #[.int lo t, .int hi u, .int 1 v] }).objs.size], _, _, H, rfl,
    I1.kept (t' := tk) fun b o e => Heap.get?_push_of_some _ e, turn_range _ lo (hi - lo).toNat, ?_, fun b hb => ?_, q⟩
  · have e1 : lo + ((0 : Nat) : Int) * 1 = lo := by simp
    have e2 : (((hi - lo).toNat : Nat) : Int) - ((0 : Nat) : Int) = Builtin.Range.rangeSize lo hi 1 := by rw [rangeSize_one]; split <;> (first | lia | omega)
    show IsRangeIter _ _ (lo + ((0 : Nat) : Int) * 1) ((((hi - lo).toNat : Nat) : Int) - ((0 : Nat) : Int)) 1
    rw [e1, e2]
    exact Heap.get?_push_size _ rfl
  · have e : b = (s.heap.push { cls := .type "range", data := .fields #[.int lo t, .int hi u, .int 1 v] }).objs.size := by simpa using hb
    subst e
    exact I1.fpOk (Nat.le_refl _) (I1.hok.fresh (Nat.le_refl _))
inductive IRg (vs : List V) (H : Hp) (R : It → Hp → Prop) : Prop
  | mk (j : Int) (z_0 : vs = [.int j]) (z_1 : -(2 ^ 62) ≤ j) (z_2 : j < 2 ^ 62) (z_3 : R (Itr 0 j.toNat) H) : IRg vs H R
def iRng1 (ta : TA) : TI := fun σ H R => ta σ H fun vs H1 => IRg vs H1 R
def iRng2 (ta : TA) : TI := fun σ H R => ta σ H fun vs H1 => ∃ i j : Int, vs = [.int i, .int j] ∧ (-(2 ^ 62) ≤ i ∧ i < 2 ^ 62 ∧ -(2 ^ 62) ≤ j ∧ j < 2 ^ 62) ∧ R (Itr i (j - i).toNat) H1
theorem pi_range1 {a : Expr} {ta : TA} {p pos : Pos} (hg : Gl X "range") (hm : X.mg "range" = none) (ha : PA X [a] ta) (hs : starEach [a] X.env = [(false, eval a X.env)] := by rfl) : PI X tg (.Call (.Name "range" p) [a] [] pos) (iRng1 ta) := by
  intro pins s σ H R I h
  refine Call_ (ld_blt I hg hm boot_range (PyProof.Rows.callWith_type1 (thn (ha pos pins s σ H _ I h) fun us s1 ⟨vs, H1, I1, r1, q1⟩ => ?_) hs rfl))
  obtain ⟨j, e, q1, q2, q⟩ := q1
  subst e
  cases r1 with
  | cons r rr =>
    cases rr
    obtain ⟨t, rfl⟩ := r
    exact call_range_1 (range_it I1 (by (first | lia | omega)) (by (first | lia | omega)) q1 q2 (by simpa using q))
theorem pi_range2 {a b : Expr} {ta : TA} {p pos : Pos} (hg : Gl X "range") (hm : X.mg "range" = none) (ha : PA X [a, b] ta) (hs : starEach [a, b] X.env = [(false, eval a X.env), (false, eval b X.env)] := by rfl) (hs2 : starEach [b] X.env = [(false, eval b X.env)] := by rfl) :
    PI X tg (.Call (.Name "range" p) [a, b] [] pos) (iRng2 ta) := by
  intro pins s σ H R I h
  refine Call_ (ld_blt I hg hm boot_range (PyProof.Rows.callWith_type1 (thn (ha pos pins s σ H _ I h) fun us s1 ⟨vs, H1, I1, r1, q1⟩ => ?_) (by rw [hs, hs2]) (by rw [hs2]; rfl)))
  obtain ⟨i, j, e, ⟨q1, q2, q3, q4⟩, q⟩ := q1
  subst e
  cases r1 with
  | cons r rr =>
    cases rr with
    | cons r' rr =>
      cases rr
      obtain ⟨t, rfl⟩ := r
      obtain ⟨t', rfl⟩ := r'
      exact call_range_2 (range_it I1 q1 q2 q3 q4 q)
/-- W: the invariant by the turn and a measure; N: what the body is to reach -/
def tFor (wi : TI) (g : TG) (tb : TS) : TS := fun D σ H => wi σ H fun J H1 => ∃ W : Nat → Nat → St → Hp → Prop, (∃ m, W 0 m σ H1) ∧ ∀ i m σ H, W i m σ H →
  (J.stop i H ∧ D.nx σ H) ∨ (J.go i H ∧ ∃ N : St → Hp → Prop, (∀ σ' H', N σ' H' → ∃ m', m' < m ∧ W (i + 1) m' σ' H') ∧ ∀ x H', J.yld i H x H' → g x σ H' fun σ2 H2 => tb { D with nx := N, ct := N, bk := D.nx } σ2 H2)
/-- the records at fp as they stand -/
def pinsAt (fp : List Addr) (h : Heap) : List (Addr × Obj) := fp.filterMap fun b => (h.get? b).map fun o => (b, o)
theorem mem_pinsAt {fp : List Addr} {h : Heap} {b : Addr} {o : Obj} (hb : b ∈ fp) (e : h.get? b = some o) : (b, o) ∈ pinsAt fp h := List.mem_filterMap.mpr ⟨b, hb, by rw [e]; rfl⟩
theorem of_pinsAt {fp : List Addr} {h : Heap} {p : Addr × Obj} (hp : p ∈ pinsAt fp h) : p.1 ∈ fp ∧ h.get? p.1 = some p.2 := by
  obtain ⟨b, hb, e⟩ := List.mem_filterMap.mp hp
  cases q : h.get? b with
  | none => rw [q] at e; cases e
  | some o =>
    rw [q] at e
    have e' : (b, o) = p := Option.some.inj e
    subst e'
    exact ⟨hb, q⟩
theorem Inv.pinned {pins : List (Addr × Obj)} {σ : St} {H : Hp} {s : Shared} {fp : List Addr} (I : Inv X pins σ H s) (hf : ∀ b ∈ fp, FpOk X pins H b) (ho : ∀ b ∈ fp, ∃ o, s.heap.get? b = some o ∧ ∀ v, o.data ≠ .cell v) : Inv X (pins ++ pinsAt fp s.heap) σ H s :=
  I.pins_of fun p hp => (List.mem_append.mp hp).elim (fun z => I.pin p (List.mem_append_right _ z)) fun z => by
    obtain ⟨hb, e⟩ := of_pinsAt z
    obtain ⟨f0, f1, f2, _⟩ := hf p.1 hb
    obtain ⟨o, e', d⟩ := ho p.1 hb
    rw [e] at e'; cases e'
    exact ⟨e, f0, f1, f2, d⟩
theorem Inv.unpinned {pins pl : List (Addr × Obj)} {σ : St} {H : Hp} {s : Shared} (I : Inv X (pins ++ pl) σ H s) : Inv X pins σ H s := I.pins_of fun p hp => I.pin p (List.mem_append_right _ (List.mem_append_left _ hp))
theorem ps_for {iter : Expr} {body : List Stmt} {wi : TI} {g : TG} {tb : TS} {pos : Pos} (hp : PassesOwn (model X.prog X.w) X.A X.env X.xe) (hc : X.calm = true) (hi : PI X tg iter wi) (hg : PG X tg g) (hb : PSs X body tb)
    (hs : ∀ x, foldedSetIterable iter X.env x = pure x := by intro _; rfl) : PS X (.For tg iter body [] pos) (tFor wi g tb) := by
  intro pins s σ H D I h
  refine wpAny_For (thn (hi pins s σ H _ I h) fun v s1 h1 => thn h1 fun itv s2 h2 => ?_) hs
  obtain ⟨it, fp, tn, J, H2, e, I2, T, st2, f2, W, ⟨m0, w0⟩, turn⟩ := h2
  subst e
  -- what stays true of the iterator's objects through the loop
  have stat : ∀ {H' : Hp}, (∀ b ∈ fp, H' b = none) → ∀ b ∈ fp, FpOk X pins H' b := fun hn b hb => ⟨hn b hb, (f2 b hb).2⟩
  refine codeAny_forLoop_any (fun n s' => ∃ i σ' H', Inv X pins σ' H' s' ∧ tn i s'.heap ∧ (∀ b ∈ fp, H' b = none) ∧ W i n σ' H') ?_ m0 ⟨0, σ, H2, I2, st2, fun b hb => (f2 b hb).1, w0⟩
  rintro n s3 ⟨i, σ3, H3, I3, st3, fr3, w3⟩
  rcases turn i n σ3 H3 w3 with ⟨stop, qn⟩ | ⟨go, N, hN, step⟩
  · refine wpAny_passesOwn hp (thn (T.done X rfl rfl rfl hc i pins s3 σ3 H3 X.xe I3 (stat fr3) st3 stop) fun r s4 ⟨hr, I4⟩ => ?_)
    subst hr
    exact wpAny_execs_nil ⟨σ3, H3, I4, qn⟩
  · refine wpAny_passesOwn hp (thn (T.item X rfl rfl rfl hc i pins s3 σ3 H3 X.xe I3 (stat fr3) st3 go) fun r s4 ⟨u, hr, h4⟩ => ?_)
    subst hr
    refine wpAny_passesOwn hp (thn h4 fun _ s5 ⟨x, H5, I5, r5, y5, st5, fr5⟩ => ?_)
    have I5' := I5.pinned (stat fr5) (T.obj _ _ st5)
    refine wpAny_passesOwn hp (thn (hg _ s5 σ3 H5 x u _ I5' r5 (step x H5 y5)) fun _ s6 ⟨σ6, H6, I6, q6⟩ => ?_)
    refine wpAny_passesOwn hp (thn (hb _ s6 σ6 H6 _ I6 q6) fun f s7 q7 => ?_)
    have again : ∀ {σ7 : St} {H7 : Hp}, Inv X (pins ++ pinsAt fp s5.heap) σ7 H7 s7 → N σ7 H7 → ∃ m, m < n ∧ ∃ i σ' H', Inv X pins σ' H' s7 ∧ tn i s7.heap ∧ (∀ b ∈ fp, H' b = none) ∧ W i m σ' H' := fun {σ7 H7} I7 n7 => by
      obtain ⟨m', hm, w7⟩ := hN σ7 H7 n7
      refine ⟨m', hm, i + 1, σ7, H7, I7.unpinned, T.keep _ _ _ st5 fun b hb o e => (I7.pin (b, o) (List.mem_append_right _ (List.mem_append_right _ (mem_pinsAt hb e)))).1, fun b hb => ?_, w7⟩
      obtain ⟨o, e, d⟩ := T.obj _ _ st5 b hb
      exact (I7.pin (b, o) (List.mem_append_right _ (List.mem_append_right _ (mem_pinsAt hb e)))).2.1
    cases f with
    | next => obtain ⟨σ7, H7, I7, n7⟩ := q7; exact again I7 n7
    | cont => obtain ⟨σ7, H7, I7, n7⟩ := q7; exact again I7 n7
    | brk => obtain ⟨σ7, H7, I7, q7⟩ := q7; exact ⟨σ7, H7, I7.unpinned, q7⟩
    | ret v => obtain ⟨x7, σ7, H7, I7, r7, q7⟩ := q7; exact ⟨x7, σ7, H7, I7.unpinned, r7, q7⟩
end
/-- over a list that the body leaves as it is -/
theorem for_list {K : PySem.W.Frag} {a : Addr} {xs : List V} {g : TG} {tb : TS} {D : Ends} {σ : St} {H : Hp} (Pv : Nat → St → Hp → Prop) (h0 : Pv 0 σ H) (hl : ∀ i σ H, i ≤ xs.length → Pv i σ H → SqL K H a xs)
    (hs : ∀ i x σ H, xs[i]? = some x → Pv i σ H → g x σ H fun σ2 H2 => tb { D with nx := Pv (i + 1), ct := Pv (i + 1), bk := D.nx } σ2 H2) (hd : ∀ σ H, Pv xs.length σ H → D.nx σ H) :
    ∃ W : Nat → Nat → St → Hp → Prop, (∃ m, W 0 m σ H) ∧ ∀ i m σ H, W i m σ H →
      ((Itl K a).stop i H ∧ D.nx σ H) ∨ ((Itl K a).go i H ∧ ∃ N : St → Hp → Prop, (∀ σ' H', N σ' H' → ∃ m', m' < m ∧ W (i + 1) m' σ' H') ∧ ∀ x H', (Itl K a).yld i H x H' → g x σ H' fun σ2 H2 => tb { D with nx := N, ct := N, bk := D.nx } σ2 H2) := by
  refine ⟨fun i m σ H => m = xs.length - i ∧ i ≤ xs.length ∧ Pv i σ H, ⟨xs.length, by simp, Nat.zero_le _, h0⟩, ?_⟩
  rintro i m σ H ⟨rfl, hi, p⟩
  have q := hl i σ H hi p
  by_cases hlt : i < xs.length
  · refine .inr ⟨⟨xs, xs[i], q, by simp [hlt]⟩, Pv (i + 1), fun σ' H' p' => ⟨xs.length - (i + 1), by (first | lia | omega), rfl, hlt, p'⟩, fun x H' y => ?_⟩
    obtain ⟨e, y⟩ := y
    subst e
    exact hs i x σ _ (y xs q) p
  · have e : i = xs.length := by (first | lia | omega)
    subst e
    exact .inl ⟨⟨xs, q, Nat.le_refl _⟩, hd σ H p⟩
theorem for_range {lo : Int} {n : Nat} {g : TG} {tb : TS} {D : Ends} {σ : St} {H : Hp} (Pv : Nat → St → Hp → Prop) (h0 : Pv 0 σ H)
    (hs : ∀ i σ H, i < n → Pv i σ H → g (.int (lo + i)) σ H fun σ2 H2 => tb { D with nx := Pv (i + 1), ct := Pv (i + 1), bk := D.nx } σ2 H2) (hd : ∀ σ H, Pv n σ H → D.nx σ H) :
    ∃ W : Nat → Nat → St → Hp → Prop, (∃ m, W 0 m σ H) ∧ ∀ i m σ H, W i m σ H →
      ((Itr lo n).stop i H ∧ D.nx σ H) ∨ ((Itr lo n).go i H ∧ ∃ N : St → Hp → Prop, (∀ σ' H', N σ' H' → ∃ m', m' < m ∧ W (i + 1) m' σ' H') ∧ ∀ x H', (Itr lo n).yld i H x H' → g x σ H' fun σ2 H2 => tb { D with nx := N, ct := N, bk := D.nx } σ2 H2) := by
  refine ⟨fun i m σ H => m = n - i ∧ i ≤ n ∧ Pv i σ H, ⟨n, by simp, Nat.zero_le _, h0⟩, ?_⟩
  rintro i m σ H ⟨rfl, hi, p⟩
  by_cases hlt : i < n
  · refine .inr ⟨hlt, Pv (i + 1), fun σ' H' p' => ⟨n - (i + 1), by (first | lia | omega), rfl, hlt, p'⟩, fun x H' y => ?_⟩
    obtain ⟨e, y⟩ := y
    subst e y
    exact hs i σ _ hlt p
  · have e : i = n := by (first | lia | omega)
    subst e
    exact .inl ⟨Nat.le_refl _, hd σ H p⟩
/-- while, by a word and a measure of the state -/
theorem while_by {c : TT} {tb : TS} {D : Ends} {σ : St} {H : Hp} (Pv : St → Hp → Prop) (μ : St → Hp → Nat) (h0 : Pv σ H)
    (hs : ∀ σ H, Pv σ H → c σ H fun b H1 => if b = true then tb { D with nx := fun σ' H' => Pv σ' H' ∧ μ σ' H' < μ σ H, ct := fun σ' H' => Pv σ' H' ∧ μ σ' H' < μ σ H, bk := D.nx } σ H1 else D.nx σ H1)
    (mono : ∀ σ H Q Q', (∀ b H1, Q b H1 → Q' b H1) → c σ H Q → c σ H Q') : tWhile c tb D σ H := by
  refine ⟨fun m σ H => m = μ σ H ∧ Pv σ H, ⟨_, rfl, h0⟩, ?_⟩
  rintro m σ H ⟨rfl, p⟩
  refine mono σ H _ _ (fun b H1 q => ?_) (hs σ H p)
  cases b with
  | true => exact ⟨_, fun σ' H' ⟨p', l⟩ => ⟨_, l, rfl, p'⟩, q⟩
  | false => exact q
end L2
namespace L2
open PySem PySem.Spec PyProof.Rows
abbrev R2 := V → V → Hp → VK → Prop
/-- a two-place operation on values: f is binaryOp op, inplaceOp op or compareOp op -/
def OpR (X : Cx) (f : Value → Value → Sem Value) (r : R2) : Prop :=
  ∀ (pins : List (Addr × Obj)) (s : Shared) (σ : St) (H : Hp) (x y : V) (v u : Value) (Q : VK), Inv X pins σ H s → RelV x v → RelV y u → r x y H Q →
    wpAny (model X.prog X.w) X.A (f v u) (EP X pins σ Q) X.xe s
/-- a one-place operation -/
def UnR (X : Cx) (f : Value → Sem Value) (r : V → Hp → VK → Prop) : Prop :=
  ∀ (pins : List (Addr × Obj)) (s : Shared) (σ : St) (H : Hp) (x : V) (v : Value) (Q : VK), Inv X pins σ H s → RelV x v → r x H Q →
    wpAny (model X.prog X.w) X.A (f v) (EP X pins σ Q) X.xe s
/-- a call of a value that is known (a builtin, a type) with values -/
def CallR (X : Cx) (f : Value) (r : List V → Hp → VK → Prop) : Prop :=
  ∀ (pins : List (Addr × Obj)) (s : Shared) (σ : St) (H : Hp) (xs : List V) (us : List Value) (Q : VK), Inv X pins σ H s → Vals xs us → r xs H Q →
    wpAny (model X.prog X.w) X.A (call f us) (EP X pins σ Q) X.xe s
def tOp (r : R2) (ta tb : TE) : TE := fun σ H Q => ta σ H fun x H1 => tb σ H1 fun y H2 => r x y H2 Q
def tUn (r : V → Hp → VK → Prop) (ta : TE) : TE := fun σ H Q => ta σ H fun x H1 => r x H1 Q
/-- ints in, under C, and a value out -/
inductive rI (C : Int → Int → Prop) (g : Int → Int → V) : V → V → Hp → VK → Prop
  | mk {x : V} {y : V} {H : Hp} {Q : VK} (i j) (z_0 : x = .int i) (z_1 : y = .int j) (z_2 : C i j) (z_3 : Q (g i j) H) : rI C g x y H Q
inductive rI0 (g : Int → Int → V) : V → V → Hp → VK → Prop
  | mk {x : V} {y : V} {H : Hp} {Q : VK} (i j) (z_0 : x = .int i) (z_1 : y = .int j) (z_2 : Q (g i j) H) : rI0 g x y H Q
inductive rU (g : Int → V) : V → Hp → VK → Prop
  | mk {x : V} {H : Hp} {Q : VK} (i) (z_0 : x = .int i) (z_1 : Q (g i) H) : rU g x H Q
section
variable {X : Cx} {a b c : Expr} {ta tb tc : TE} {pos : Pos}
theorem binT (ha : PE X a ta) (hb : PE X b tb) {pins : List (Addr × Obj)} {s : Shared} {σ : St} {H : Hp} {R : V → V → Hp → Prop} (I : Inv X pins σ H s)
    (h : ta σ H fun x H1 => tb σ H1 fun y H2 => R x y H2) {Q : Value → Shared → Prop} {f : Value → Value → Sem Value}
    (hf : ∀ v u s2 x y H2, Inv X pins σ H2 s2 → RelV x v → RelV y u → R x y H2 → wpAny (model X.prog X.w) X.A (f v u) Q X.xe s2) :
    wpAny (model X.prog X.w) X.A (eval a X.env) (fun v s₁ => wpAny (model X.prog X.w) X.A (eval b X.env) (fun u s₂ => wpAny (model X.prog X.w) X.A (f v u) Q X.xe s₂) X.xe s₁) X.xe s := by
  refine thn (ha pins s σ H _ I h) fun v s1 ⟨x, H1, I1, r1, q1⟩ => ?_
  refine thn (hb pins s1 σ H1 _ I1 q1) fun u s2 ⟨y, H2, I2, r2, q2⟩ => ?_
  exact hf v u s2 x y H2 I2 r1 r2 q2
theorem pe_op {op : Operator} {r : R2} (ho : OpR X (binaryOp op) r) (ha : PE X a ta) (hb : PE X b tb) : PE X (.BinOp a op b pos) (tOp r ta tb) := by
  intro pins s σ H Q I h
  exact wpAny_BinOp (binT ha hb I h fun v u s2 x y H2 I2 rx ry q => ho pins s2 σ H2 x y v u Q I2 rx ry q)
theorem pe_un {op : UnaryOp} {r : V → Hp → VK → Prop} (ho : UnR X (unaryOp op) r) (ha : PE X a ta) : PE X (.UnaryOp op a pos) (tUn r ta) := by
  intro pins s σ H Q I h
  exact UnaryOp_ (thn (ha pins s σ H _ I h) fun v s1 ⟨x, H1, I1, r1, q1⟩ => ho pins s1 σ H1 x v Q I1 r1 q1)
theorem opI {f : Value → Value → Sem Value} {C : Int → Int → Prop} {g : Int → Int → Int}
    (rule : ∀ (i j : Int) (t u : Tok) (s : Shared) (Q : Value → Shared → Prop) (E : Value → Shared → Prop), C i j → Q (.int (g i j) s.toks) { s with toks := s.toks + 1 } → wpAny (model X.prog X.w) X.A (f (.int i t) (.int j u)) Q E s) :
    OpR X f (rI C fun i j => .int (g i j)) := by
  intro pins s σ H x y v u Q I rx ry h
  obtain ⟨i, j, rfl, rfl, hc, q⟩ := h
  obtain ⟨t, rfl⟩ := rx
  obtain ⟨t', rfl⟩ := ry
  exact rule i j t t' s _ _ hc ⟨.int (g i j), H, I.tok _, ⟨_, rfl⟩, q⟩
theorem opI0 {f : Value → Value → Sem Value} {g : Int → Int → Int}
    (rule : ∀ (i j : Int) (t u : Tok) (s : Shared) (Q : Value → Shared → Prop) (E : Value → Shared → Prop), Q (.int (g i j) s.toks) { s with toks := s.toks + 1 } → wpAny (model X.prog X.w) X.A (f (.int i t) (.int j u)) Q E s) :
    OpR X f (rI0 fun i j => .int (g i j)) := by
  intro pins s σ H x y v u Q I rx ry h
  obtain ⟨i, j, rfl, rfl, q⟩ := h
  obtain ⟨t, rfl⟩ := rx
  obtain ⟨t', rfl⟩ := ry
  exact rule i j t t' s _ _ ⟨.int (g i j), H, I.tok _, ⟨_, rfl⟩, q⟩
theorem opB0 {f : Value → Value → Sem Value} {g : Int → Int → Bool}
    (rule : ∀ (i j : Int) (t u : Tok) (s : Shared) (Q : Value → Shared → Prop) (E : Value → Shared → Prop), Q (.bool (g i j)) s → wpAny (model X.prog X.w) X.A (f (.int i t) (.int j u)) Q E s) :
    OpR X f (rI0 fun i j => .bl (g i j)) := by
  intro pins s σ H x y v u Q I rx ry h
  obtain ⟨i, j, rfl, rfl, q⟩ := h
  obtain ⟨t, rfl⟩ := rx
  obtain ⟨t', rfl⟩ := ry
  exact rule i j t t' s _ _ ⟨.bl (g i j), H, I, rfl, q⟩
def CDiv (i j : Int) : Prop := 0 < j ∧ j < 1073741824
def CMul (i j : Int) : Prop := (-(2 ^ 64) < i ∧ i < 2 ^ 64) ∨ (-(2 ^ 64) < j ∧ j < 2 ^ 64)
theorem CMul.ok {i j : Int} (h : CMul i j) : IntMulOk i j := by
  rcases h with ⟨h1, h2⟩ | ⟨h1, h2⟩
  · exact .of_left (intBits_le_64 h1 h2)
  · exact .of_right (intBits_le_64 h1 h2)
theorem op_add : OpR X (binaryOp .Add) (rI0 fun i j => .int (i + j)) := opI0 fun _ _ _ _ _ _ _ q => add_int q
theorem op_sub : OpR X (binaryOp .Sub) (rI0 fun i j => .int (i - j)) := opI0 fun _ _ _ _ _ _ _ q => sub_int q
theorem op_mul : OpR X (binaryOp .Mult) (rI CMul fun i j => .int (i * j)) := opI fun _ _ _ _ _ _ _ hc q => mul_int q hc.ok
/-- // by a positive divisor -/
theorem op_fdiv : OpR X (binaryOp .FloorDiv) (rI CDiv fun i j => .int (i / j)) := opI fun i j _ _ _ _ _ hc q => by
  have h1 : (0 : Int) < j := hc.1
  have h2 : j < 1073741824 := hc.2
  exact floordiv_int (by (first | lia | omega)) (by rw [Int.fdiv_eq_ediv_of_nonneg i (by (first | lia | omega))]; exact q) (.inl (PyProof.noPylong_small (by (first | lia | omega))))
/-- % by a positive divisor of any size -/
theorem op_mod : OpR X (binaryOp .Mod) (rI (fun _ j => 0 < j) fun i j => .int (i % j)) := opI fun i j _ _ _ _ _ hc q => by
  have h1 : (0 : Int) < j := hc
  exact mod_int' (by (first | lia | omega)) (by rw [Int.fmod_eq_emod_of_nonneg i (by (first | lia | omega))]; exact q)
theorem unI {f : Value → Sem Value} {g : Int → Int}
    (rule : ∀ (i : Int) (t : Tok) (s : Shared) (Q : Value → Shared → Prop) (E : Value → Shared → Prop), Q (.int (g i) s.toks) { s with toks := s.toks + 1 } → wpAny (model X.prog X.w) X.A (f (.int i t)) Q E s) :
    UnR X f (rU fun i => .int (g i)) := by
  intro pins s σ H x v Q I rx h
  obtain ⟨i, rfl, q⟩ := h
  obtain ⟨t, rfl⟩ := rx
  exact rule i t s _ _ ⟨.int (g i), H, I.tok _, ⟨_, rfl⟩, q⟩
theorem un_neg : UnR X (unaryOp .USub) (rU fun i => .int (-i)) := unI fun _ _ _ _ _ q => neg_int q
end
/-- the scalars that == tells apart as data does -/
def scal : V → V → Bool
  | .non, .non => true | .non, .int _ => true | .int _, .non => true | .non, .bl _ => true | .bl _, .non => true | .non, .str _ => true | .str _, .non => true
  | .int _, .int _ => true | .bl _, .bl _ => true | .str _, .str _ => true | .byt _, .byt _ => true
  | .int _, .str _ => true | .str _, .int _ => true | .bl _, .str _ => true | .str _, .bl _ => true
  | _, _ => false
def rEq : R2 := fun x y H Q => scal x y = true ∧ Q (.bl (decide (x = y))) H
def rNe : R2 := fun x y H Q => scal x y = true ∧ Q (.bl (!decide (x = y))) H
theorem dec_int {i j : Int} : decide (V.int i = V.int j) = (i == j) := by
  rw [Bool.eq_iff_iff]
  simp
theorem dec_bl {i j : Bool} : decide (V.bl i = V.bl j) = (i == j) := by
  rw [Bool.eq_iff_iff]
  simp
theorem dec_str {i j : Str} : decide (V.str i = V.str j) = (i == j) := by
  rw [Bool.eq_iff_iff]
  simp
theorem dec_byt {i j : Array UInt8} : decide (V.byt i = V.byt j) = (i.toList == j.toList) := by
  rw [Bool.eq_iff_iff]
  cases i
  cases j
  simp
section
variable {X : Cx} {a b c : Expr} {ta tb tc : TE} {pos : Pos}
theorem fin_bl {pins : List (Addr × Obj)} {σ : St} {H : Hp} {s : Shared} {Q : VK} {k k' : Bool} (I : Inv X pins σ H s) (q : Q (.bl k) H) (e : k = k') : EP X pins σ Q (.bool k') s := by
  subst e
  exact ⟨.bl k, H, I, rfl, q⟩
theorem op_eq : OpR X (compareOp .Eq) rEq := by
  intro pins s σ H x y v u Q I rx ry h
  obtain ⟨hs, q⟩ := h
  cases x with
  | non =>
    cases rx
    cases y with
    | non => cases ry; exact PySem.EqNone.eq_none_none (fin_bl I q (by simp))
    | bl j => cases ry; exact PySem.EqNone.eq_none_bool (fin_bl I q (by simp))
    | int j => obtain ⟨t', rfl⟩ := ry; exact PySem.EqNone.eq_none_int (fin_bl I q (by simp))
    | str j => obtain ⟨t', rfl⟩ := ry; exact PySem.EqNone.eq_none_str (fin_bl I q (by simp))
    | _ => exact absurd (show false = true from hs) Bool.false_ne_true
  | bl i =>
    cases rx
    cases y with
    | non => cases ry; exact PySem.EqNone.eq_bool_none (fin_bl I q (by simp))
    | bl j => cases ry; exact eq_bool (fin_bl I q dec_bl)
    | str j => obtain ⟨t', rfl⟩ := ry; exact PySem.EqMixed.eq_bool_str (fin_bl I q (by simp))
    | _ => exact absurd (show false = true from hs) Bool.false_ne_true
  | int i =>
    obtain ⟨t, rfl⟩ := rx
    cases y with
    | non => cases ry; exact PySem.EqNone.eq_int_none (fin_bl I q (by simp))
    | int j => obtain ⟨t', rfl⟩ := ry; exact eq_int (fin_bl I q dec_int)
    | str j => obtain ⟨t', rfl⟩ := ry; exact PySem.EqMixed.eq_int_str (fin_bl I q (by simp))
    | _ => exact absurd (show false = true from hs) Bool.false_ne_true
  | str i =>
    obtain ⟨t, rfl⟩ := rx
    cases y with
    | non => cases ry; exact PySem.EqNone.eq_str_none (fin_bl I q (by simp))
    | bl j => cases ry; exact PySem.EqMixed.eq_str_bool (fin_bl I q (by simp))
    | int j => obtain ⟨t', rfl⟩ := ry; exact PySem.EqMixed.eq_str_int (fin_bl I q (by simp))
    | str j => obtain ⟨t', rfl⟩ := ry; exact eq_str (fin_bl I q dec_str)
    | _ => exact absurd (show false = true from hs) Bool.false_ne_true
  | byt i =>
    obtain ⟨t, rfl⟩ := rx
    cases y with
    | byt j => obtain ⟨t', rfl⟩ := ry; exact PySem.W.eq_bytes (fin_bl I q dec_byt)
    | _ => exact absurd (show false = true from hs) Bool.false_ne_true
  | _ => cases y <;> exact absurd (show false = true from hs) Bool.false_ne_true
theorem op_ne : OpR X (compareOp .NotEq) rNe := by
  intro pins s σ H x y v u Q I rx ry h
  obtain ⟨hs, q⟩ := h
  cases x with
  | non =>
    cases rx
    cases y with
    | non => cases ry; exact PySem.EqNone.ne_none_none (fin_bl I q (by simp))
    | bl j => cases ry; exact PySem.EqNone.ne_none_bool (fin_bl I q (by simp))
    | int j => obtain ⟨t', rfl⟩ := ry; exact PySem.EqNone.ne_none_int (fin_bl I q (by simp))
    | str j => obtain ⟨t', rfl⟩ := ry; exact PySem.EqNone.ne_none_str (fin_bl I q (by simp))
    | _ => exact absurd (show false = true from hs) Bool.false_ne_true
  | bl i =>
    cases rx
    cases y with
    | non => cases ry; exact PySem.EqNone.ne_bool_none (fin_bl I q (by simp))
    | bl j => cases ry; exact ne_bool (fin_bl I q (congrArg not dec_bl))
    | str j => obtain ⟨t', rfl⟩ := ry; exact PySem.EqMixed.ne_bool_str (fin_bl I q (by simp))
    | _ => exact absurd (show false = true from hs) Bool.false_ne_true
  | int i =>
    obtain ⟨t, rfl⟩ := rx
    cases y with
    | non => cases ry; exact PySem.EqNone.ne_int_none (fin_bl I q (by simp))
    | int j => obtain ⟨t', rfl⟩ := ry; exact ne_int (fin_bl I q (congrArg not dec_int))
    | str j => obtain ⟨t', rfl⟩ := ry; exact PySem.EqMixed.ne_int_str (fin_bl I q (by simp))
    | _ => exact absurd (show false = true from hs) Bool.false_ne_true
  | str i =>
    obtain ⟨t, rfl⟩ := rx
    cases y with
    | non => cases ry; exact PySem.EqNone.ne_str_none (fin_bl I q (by simp))
    | bl j => cases ry; exact PySem.EqMixed.ne_str_bool (fin_bl I q (by simp))
    | int j => obtain ⟨t', rfl⟩ := ry; exact PySem.EqMixed.ne_str_int (fin_bl I q (by simp))
    | str j => obtain ⟨t', rfl⟩ := ry; exact ne_str (fin_bl I q (congrArg not dec_str))
    | _ => exact absurd (show false = true from hs) Bool.false_ne_true
  | byt i =>
    obtain ⟨t, rfl⟩ := rx
    cases y with
    | byt j => obtain ⟨t', rfl⟩ := ry; exact PySem.W.ne_bytes (fin_bl I q (congrArg not dec_byt))
    | _ => exact absurd (show false = true from hs) Bool.false_ne_true
  | _ => cases y <;> exact absurd (show false = true from hs) Bool.false_ne_true
theorem op_lt : OpR X (compareOp .Lt) (rI0 fun i j => .bl (decide (i < j))) := opB0 fun _ _ _ _ _ _ _ q => lt_int q
theorem op_le : OpR X (compareOp .LtE) (rI0 fun i j => .bl (decide (i ≤ j))) := opB0 fun _ _ _ _ _ _ _ q => le_int q
theorem op_gt : OpR X (compareOp .Gt) (rI0 fun i j => .bl (decide (j < i))) := opB0 fun _ _ _ _ _ _ _ q => gt_int q
theorem op_ge : OpR X (compareOp .GtE) (rI0 fun i j => .bl (decide (j ≤ i))) := opB0 fun _ _ _ _ _ _ _ q => ge_int q
theorem nomark (b : Expr) {op : CmpOp} (h : op ≠ .In := by decide) (h2 : op ≠ .NotIn := by decide) : behindInMarks op b = false := by
  have e1 : (op == CmpOp.In) = false := by cases op <;> first | rfl | exact absurd rfl h
  have e2 : (op == CmpOp.NotIn) = false := by cases op <;> first | rfl | exact absurd rfl h2
  cases b <;> simp [behindInMarks, e1, e2]
/-- a comparison as a value; hm: nomark b, or (for in, not in) by with_unfolding_all rfl -/
theorem pe_cmpR {op : CmpOp} {r : R2} (ho : OpR X (compareOp op) r) (ha : PE X a ta) (hb : PE X b tb) (hm : behindInMarks op b = false) : PE X (.Compare a [op] [b] pos) (tOp r ta tb) := by
  intro pins s σ H Q I h
  exact wpAny_Compare1 (binT ha hb I h fun v u s2 x y H2 I2 rx ry q => ho pins s2 σ H2 x y v u Q I2 rx ry q) hm
/-- a reading of a value as a test -/
def tTest (t : TE) : TT := fun σ H Q => t σ H fun x H' => IsBl x H' Q
theorem pt_cmpR {op : CmpOp} {r : R2} (ho : OpR X (compareOp op) r) (ha : PE X a ta) (hb : PE X b tb) (hm : behindInMarks op b = false) : PT X (.Compare a [op] [b] pos) (tTest (tOp r ta tb)) := by
  intro pins s σ H Q I h
  refine wpAny_isTrue_Compare1 (thn (ha pins s σ H _ I h) fun v s1 ⟨x, H1, I1, r1, q1⟩ => thn (hb pins s1 σ H1 _ I1 q1) fun u s2 ⟨y, H2, I2, r2, q2⟩ =>
    thn (ho pins s2 σ H2 x y v u _ I2 r1 r2 q2) fun c s3 ⟨z, H3, I3, r3, k, e, q3⟩ => ?_) hm
  subst e
  cases r3
  exact wpAny_truthy_bool ⟨H3, I3, q3⟩
theorem line63 : (sizeLine : Nat) < 2 ^ 63 := by rw [sizeLine_eq]; decide
theorem vals1 {x : V} {us : List Value} (r : Vals [x] us) : ∃ u, us = [u] ∧ RelV x u := by
  cases r with
  | cons r1 r2 => cases r2; exact ⟨_, rfl, r1⟩
theorem vals2 {x y : V} {us : List Value} (r : Vals [x, y] us) : ∃ u w', us = [u, w'] ∧ RelV x u ∧ RelV y w' := by
  cases r with
  | cons r1 r2 =>
    cases r2 with
    | cons r3 r4 => cases r4; exact ⟨_, _, rfl, r1, r3⟩
theorem call_min2 (hc : X.calm = true) : CallR X (.builtin "min") (fun xs H Q => ∃ i j, xs = [.int i, .int j] ∧ Q (.int (if j < i then j else i)) H) := by
  intro pins s σ H xs us Q I r h
  obtain ⟨i, j, rfl, q⟩ := h
  obtain ⟨u, w', rfl, ⟨t, rfl⟩, ⟨t', rfl⟩⟩ := vals2 r
  refine min_two_ints (I.ok.hd hc) fun h' tk k => ⟨_, H, I.kept k, ?_, q⟩
  by_cases hj : j < i
  · rw [if_pos hj, if_pos hj]; exact ⟨_, rfl⟩
  · rw [if_neg hj, if_neg hj]; exact ⟨_, rfl⟩
theorem call_int1 : CallR X (.type "int") (fun xs H Q => (∃ i, xs = [.int i] ∧ Q (.int i) H) ∨ ∃ k, xs = [.bl k] ∧ Q (.int (if k then 1 else 0)) H) := by
  intro pins s σ H xs us Q I r h
  rcases h with ⟨i, rfl, q⟩ | ⟨k, rfl, q⟩
  · obtain ⟨u, rfl, t, rfl⟩ := vals1 r
    exact call_int_int ⟨.int i, H, I, ⟨_, rfl⟩, q⟩
  · obtain ⟨u, rfl, r1⟩ := vals1 r
    cases r1
    exact call_int_bool ⟨.int (if k then 1 else 0), H, I.tok _, ⟨_, rfl⟩, q⟩
end
end L2
namespace L2
open PySem PySem.Spec PyProof.Rows
structure ObjM (h : Heap) (x dx C : Addr) (mA : Str → Option Value) : Prop where
  obj : h.get? x = some (PySem.W.instObj C dx)
  ns : h.Ns1 dx mA
  ne : dx ≠ x
theorem lookIn_ns {h : Heap} {dx : Addr} {mA : Str → Option Value} (n : h.Ns1 dx mA) : ∃ od, h.get? dx = some od ∧ ∀ name, PySem.W.lookIn name od = some (mA name) := by
  obtain ⟨o, es, ep, ho, hd, hk, _, hm⟩ := n
  refine ⟨o, ho, fun name => ?_⟩
  have e := hm name
  unfold nsFind findBy at e
  rw [← Array.find?_toList] at e
  unfold PySem.W.lookIn
  rw [hd]
  dsimp only
  split
  · rename_i y q
    rw [q] at e
    exact congrArg some e
  · rename_i q
    rw [q] at e
    have a : es.toList.any (·.refKey) = false := by
      rw [List.any_eq_false]
      intro y hy
      obtain ⟨z, t, hkey⟩ := hk y (Array.mem_toList_iff.mp hy)
      simp [DictEntry.refKey, hkey]
    have a' : ¬ es.toList.any (·.refKey) = true := by rw [a]; exact Bool.false_ne_true
    rw [if_neg a']
    exact congrArg some e
theorem ObjM.look {h : Heap} {x dx C : Addr} {mA : Str → Option Value} (I : ObjM h x dx C mA) : ∃ od, PySem.W.InstAt h x (PySem.W.instObj C dx) C (some od) ∧ ∀ name, PySem.W.lookIn name od = some (mA name) :=
  let ⟨od, ho, hl⟩ := lookIn_ns I.ns
  ⟨od, ⟨I.obj, rfl, rfl, ho⟩, hl⟩
section
variable {prog : Program} {w : World} {A : Around} {E : Value → Shared → Prop} {s : Shared} {K : PySem.W.Frag} {x dx C f : Addr} {mA : Str → Option Value} {name : Str} {v : Value}
end
section
variable {P : Program} {w : World} {H H' : Hp} {h h' : Heap} {a C dx : Addr} {fs fs' : List (Str × V)}
theorem ins_get (hok : HOk P w H h) (e : H a = some (.ins C dx fs)) : ∃ mA, ObjM h a dx C mA ∧ (∀ f, RelO (fs.lookup f) (mA f)) ∧ PySem.Within mA (fs.map (·.1)) ∧ fs.length ≤ 1000 ∧ H dx = some (.own a) := by
  obtain ⟨d, z, ne, ob, mA, n, r, q⟩ := (show ObjOk P w H h a (.ins C dx fs) from hok a _ e)
  exact ⟨mA, ⟨ob, n, ne⟩, r, q, z, d⟩
end
structure Cls (K : PySem.W.Frag) (C : Addr) : Prop where
  pg : PySem.W.plainGet K C Str.empty = true
  hd : PySem.W.hasDictIn K C = true
  po : PySem.W.plainOver K C = true
  sa : PySem.W.findIn K (.ref C) "__setattr__" = some (some (.builtin "object.__setattr__"))
theorem Cls.get {K : PySem.W.Frag} {C : Addr} (c : Cls K C) (f : Str) : PySem.W.plainGet K C f = true := c.pg
section
variable {X : Cx} {pins : List (Addr × Obj)} {σ : St} {H : Hp} {s : Shared} {a C dx : Addr} {fs : List (Str × V)} {f : Str} {v : V} {A : Around} {E : Value → Shared → Prop}
end
section
variable {X : Cx} {o e value : Expr} {f : Str} {pos pos' tpos : Pos} {ta tv : TE}
end
section
variable {X : Cx} {pins : List (Addr × Obj)} {σ : St} {H : Hp} {s : Shared} {A : Around} {E : Value → Shared → Prop} {Q : Value → Shared → Prop} {c : Value} {b : Bool}
/-- the type of a value, as the fragment's deciders take it; for an instance its class -/
inductive TyOf (K : PySem.W.Frag) (H : Hp) : V → Value → Prop where
  | non : TyOf K H .non (.type "NoneType")
  | bl (x : Bool) : TyOf K H (.bl x) (.type "bool")
  | int (i : Int) : TyOf K H (.int i) (.type "int")
  | str (x : Str) : TyOf K H (.str x) (.type "str")
  | flt (x : UInt64) : TyOf K H (.flt x) (.type "float")
  | lst {a : Addr} {xs : List V} (e : H a = some (.lst xs)) : TyOf K H (.ref a) (.type "list")
  | frz {a : Addr} {o : Obj} {xs : List V} (e : H a = some (.frz o (.lst xs))) : TyOf K H (.ref a) (.type "list")
  | tup {a : Addr} {xs : List V} (e : H a = some (.tup xs)) : TyOf K H (.ref a) (.type "tuple")
  | dK {a : Addr} {kvs : List (Key × V)} (e : H a = some (.dK kvs)) : TyOf K H (.ref a) (.type "dict")
  | dT {a : Addr} {kvs : List (List Key × V)} (e : H a = some (.dT kvs)) : TyOf K H (.ref a) (.type "dict")
  | ins {a C dx : Addr} {fs : List (Str × V)} (e : H a = some (.ins C dx fs)) (cl : Cls K C) (ha : PySem.W.findIn K (.ref C) "__class__" = some (some (.builtin "object.__class__")))
      (hn : PySem.W.specialIn K (.builtin "object.__class__") "__get__" = some (some (.builtin "getset_descriptor.__get__"))) (htk : PySem.W.takesIn K (.builtin "object.__class__") = some true)
      (hm : PySem.W.mroIn K C (.type "object") = some true) : TyOf K H (.ref a) (.ref C)
/-- isinstance(x, c) for one class c, a built-in or an own one: kitOne's answer -/
theorem isinst_ok {x : V} {u t : Value} (I : Inv X pins σ H s) (rx : RelV x u) (ty : TyOf X.K H x t) (e : PySem.W.kitOne X.K t c = some b) (h : ∀ tk, Q (.bool b) { s with toks := tk }) :
    wpAny (model X.prog X.w) A (call (.builtin "isinstance") [u, c]) Q E s := by
  cases ty with
  | non => cases (show u = Value.none from rx); exact PySem.W.kia_one PySem.W.kitx_none I.kIn True.intro e (fun z => nomatch z) h
  | bl y => cases (show u = Value.bool y from rx); exact PySem.W.kia_one PySem.W.kitx_bool I.kIn True.intro e (fun z => nomatch z) h
  | int i => obtain ⟨t, q⟩ := (show ∃ t, u = Value.int i t from rx); cases q; exact PySem.W.kia_one PySem.W.kitx_int I.kIn True.intro e (fun z => nomatch z) h
  | str y => obtain ⟨t, q⟩ := (show ∃ t, u = Value.str y t from rx); cases q; exact PySem.W.kia_one PySem.W.kitx_str I.kIn True.intro e (fun z => nomatch z) h
  | flt y => obtain ⟨t, q⟩ := (show ∃ t, u = Value.float y t from rx); cases q; exact PySem.W.kia_one PySem.W.kitx_float I.kIn True.intro e (fun z => nomatch z) h
  | @lst a xs ea =>
    cases (show u = Value.ref a from rx)
    obtain ⟨_, _, n, _, h1⟩ := (show ObjOk X.prog X.w H s.heap a (.lst xs) from I.hok a _ ea)
    exact PySem.W.kia_one PySem.W.kitx_list I.kIn ⟨_, h1, rfl⟩ e (fun z => nomatch z) h
  | @frz a ob xs ea =>
    cases (show u = Value.ref a from rx)
    obtain ⟨_, _, _, n, _, h1⟩ := (show ObjOk X.prog X.w H s.heap a (.frz ob (.lst xs)) from I.hok a _ ea)
    exact PySem.W.kia_one PySem.W.kitx_list I.kIn ⟨_, h1, rfl⟩ e (fun z => nomatch z) h
  | @tup a xs ea =>
    cases (show u = Value.ref a from rx)
    obtain ⟨_, _, _, p⟩ := (show ObjOk X.prog X.w H s.heap a (.tup xs) from I.hok a _ ea)
    obtain ⟨o, h1, h2, _⟩ := p
    exact PySem.W.kia_one PySem.W.kitx_tuple I.kIn ⟨o, h1, h2⟩ e (fun z => nomatch z) h
  | @dK a kvs ea =>
    cases (show u = Value.ref a from rx)
    obtain ⟨_, _, vs, _, p⟩ := (show ObjOk X.prog X.w H s.heap a (.dK kvs) from I.hok a _ ea)
    obtain ⟨o, es, ep, h1, h2, _⟩ := p
    exact PySem.W.kia_one PySem.W.kitx_dict I.kIn ⟨o, h1, h2.1⟩ e (fun z => nomatch z) h
  | @dT a kvs ea =>
    cases (show u = Value.ref a from rx)
    obtain ⟨_, _, xs, _, o, es, ep, h1, h2, _⟩ := (show ObjOk X.prog X.w H s.heap a (.dT kvs) from I.hok a _ ea)
    exact PySem.W.kia_one PySem.W.kitx_dict I.kIn ⟨o, h1, h2.1⟩ e (fun z => nomatch z) h
  | @ins a C dx fs ea cl ha hn htk hm =>
    cases (show u = Value.ref a from rx)
    obtain ⟨mA, O, _⟩ := ins_get I.hok ea
    obtain ⟨od, J, _⟩ := O.look
    exact PySem.W.kia_one (PySem.W.kitx_own (cl.get _) cl.hd ha hn htk hm) I.kIn J e (fun z => nomatch z) h
end
end L2
namespace L2
open PySem PySem.Spec PyProof.Rows
structure Room (k : Nat) (A : Around) : Prop where
  hd : A.handled = none
  dp : A.depth + 3 * k + 5 < recursionLimit
  un : A.units + 16 * k + 200 < cLine
theorem Room.mono {j k : Nat} {A : Around} (r : Room k A) (h : j ≤ k) : Room j A := ⟨r.hd, by have := r.dp; (first | lia | omega), by have := r.un; (first | lia | omega)⟩
theorem Room.deeper {k : Nat} {A : Around} (r : Room (k + 1) A) (env : Env) : Room k (A.deeper env) :=
  ⟨r.hd, by have := r.dp; show A.depth + 1 + 3 * k + 5 < _; (first | lia | omega), by have := r.un; show A.units + 3 + 16 * k + 200 < _; (first | lia | omega)⟩
theorem Room.depth {k : Nat} {A : Around} (r : Room k A) : A.depth < recursionLimit := by have := r.dp; (first | lia | omega)
theorem Room.units {k : Nat} {A : Around} (r : Room k A) : A.units + 64 < cLine := by have := r.un; (first | lia | omega)
def tNil : TA := fun _ H Q => Q [] H
def tCons (ta : TE) (tr : TA) : TA := fun σ H Q => ta σ H fun x H1 => tr σ H1 fun xs H2 => Q (x :: xs) H2
section
variable {X : Cx} {e : Expr} {es : List Expr} {te : TE} {t : TA} {pos : Pos}
theorem pa_nil : PA X [] tNil := fun _ _ _ _ H Q I h => Calls.spliced_nil ⟨[], H, I, .nil, h⟩
theorem pa_cons (ha : PE X e te) (hr : PA X es t) (hs : starEach (e :: es) X.env = (false, eval e X.env) :: starEach es X.env := by rfl) : PA X (e :: es) (tCons te t) := by
  intro pos pins s σ H Q I h
  rw [hs]
  show wpAny _ _ (spliced ((false, eval e X.env) :: backTo pos (starEach es X.env))) _ _ s
  refine Calls.spliced_cons (thn (ha pins s σ H _ I h) fun u s1 ⟨x, H1, I1, r1, q1⟩ => ?_)
  exact thn (hr pos pins s1 σ H1 _ I1 q1) fun us s2 ⟨xs, H2, I2, r2, q2⟩ => ⟨x :: xs, H2, I2, .cons r1 r2, q2⟩
/-- a tuple, a list of written items -/
def tTup (t : TA) : TE := fun σ H Q => t σ H fun xs H1 => xs.length ≤ sizeLine ∧ ∀ p, H1 p = none → Q (.ref p) (upd H1 p (.tup xs))
def tLst (t : TA) : TE := fun σ H Q => t σ H fun xs H1 => xs.length ≤ sizeLine ∧ ∀ p, H1 p = none → Q (.ref p) (upd H1 p (.lst xs))
theorem pe_tup {x1} (h : PA X es t) : PE X (.Tuple es x1 pos) (tTup t) := by
  intro pins s σ H Q I hq
  refine wpAny_Tuple_spliced (thn (h pos pins s σ H _ I hq) fun us s1 ⟨xs, H1, I1, r, z, q⟩ => ⟨by rw [← r.length]; exact z, ?_⟩)
  have hf : H1 s1.heap.objs.size = none := I1.hok.fresh (Nat.le_refl _)
  refine ⟨.ref s1.heap.objs.size, upd H1 s1.heap.objs.size (.tup xs), I1.laid (t' := s1.toks) (fun b u e => Heap.get?_push_of_some _ e) (Nat.le_refl _) ?_, rfl, q _ hf⟩
  exact ⟨z, us, r, ⟨_, Heap.get?_push_size _ rfl, rfl, _, rfl⟩⟩
theorem pe_lst (h : PA X es t) : PE X (.List es pos) (tLst t) := by
  intro pins s σ H Q I hq
  refine wpAny_List_spliced (thn (h pos pins s σ H _ I hq) fun us s1 ⟨xs, H1, I1, r, z, q⟩ => ⟨by rw [← r.length]; exact z, ?_⟩)
  have hf : H1 s1.heap.objs.size = none := I1.hok.fresh (Nat.le_refl _)
  refine ⟨.ref s1.heap.objs.size, upd H1 s1.heap.objs.size (.lst xs), I1.laid (t' := s1.toks) (fun b u e => Heap.get?_push_of_some _ e) (Nat.le_refl _) ?_, rfl, q _ hf⟩
  exact ⟨z, us, 0, r, Heap.get?_push_size _ rfl⟩
end
/-- a def's promise: the bound arguments in the parameters' order, the heap, the wanted end, the wanted exception -/
abbrev Sp := List V → Hp → VK → XK → Prop
/-- how an exception lies behind a call (file 08 gives it): the callers' frames, abstract heap and state ahead of the call, the wish, the exception, the state -/
abbrev CXT := List Env → Hp → Shared → XK → Value → Shared → Prop
/-- the state at a call -/
structure Env0 (P : Program) (w : World) (K : PySem.W.Frag) (mg : Str → Option Value) (base : Heap) (A : Around) (outer : List Env) (s : Shared) (H : Hp) : Prop where
  frames : A.frames = some outer
  mod : Mod K mg base
  bs : ∀ b o, base.get? b = some o → s.heap.get? b = some o ∧ H b = none
  bsz : base.objs.size ≤ s.heap.objs.size
  funs : s.heap.FunFrames base outer
  frf : ∀ b ∈ frs outer, H b = none
  hok : HOk P w H s.heap
  bare : AllBare s.gens
/-- a call's end -/
def CE (outer : List Env) (P : Program) (w : World) (H : Hp) (s : Shared) (Q : VK) (u : Value) (s' : Shared) : Prop :=
  ∃ v H', s'.os = s.os ∧ AllBare s'.gens ∧ Un (frs outer) [] H H' s.heap s'.heap ∧ HOk P w H' s'.heap ∧ RelV v u ∧ Q v H'
def CR (CX : CXT) (outer : List Env) (P : Program) (w : World) (H : Hp) (s : Shared) (Q : VK) (E : XK) (r : Result) (s' : Shared) : Prop :=
  match r with
  | .ok (.ret u) => CE outer P w H s Q u s'
  | .ok _ => False
  | .error e => CX outer H s E e s'
structure FnOk (P : Program) (w : World) (K : PySem.W.Frag) (mg : Str → Option Value) (base : Heap) (CX : CXT) (k : Nat) (f : Addr) (fd : FuncData) (ps : List Str) (sp : Sp) : Prop where
  len : ∀ vs H Q E, sp vs H Q E → vs.length = ps.length
  run : ∀ (A : Around) (outer : List Env) (s : Shared) (H : Hp) (args : Args) (us : List Value) (vs : List V) (Q : VK) (E : XK), Room k A → Env0 P w K mg base A outer s H → BindsTo s fd args (ps.zip us) → Vals vs us → sp vs H Q E →
    codeAny (model P w) A (.call (.ref f) args) (CR CX outer P w H s Q E) s
section
variable {X : Cx} {pins : List (Addr × Obj)} {σ : St} {H : Hp} {s s' : Shared}
/-- from a body: what a callee wants -/
theorem Inv.env0 (I : Inv X pins σ H s) : Env0 X.prog X.w X.K X.mg X.base X.A X.stack s H :=
  ⟨I.ok.frames, I.ok.mod, I.bs, Nat.le_trans I.ok.bsz I.sz, I.stack, I.stkFree, I.hok, I.bare⟩
/-- behind a call -/
theorem Inv.after {Q : VK} {u : Value} (I : Inv X pins σ H s) (h : CE X.stack X.prog X.w H s Q u s') : EP X pins σ Q u s' := by
  obtain ⟨v, H', os, bare, un, hok, r, q⟩ := h
  obtain ⟨hh, g, d, t, os'⟩ := s'
  obtain rfl : os' = s.os := os
  exact ⟨v, H', I.call (h' := hh) (g' := g) (d' := d) (t' := t) (ch := []) un hok bare (fun b z => absurd z (by simp)), r, q⟩
end
/-- f(..): the written arguments, then the defaults dvs; E: what is wanted of an exception -/
def tCall (sp : Sp) (dvs : List V) (E : XK) (t : TA) : TE := fun σ H Q => t σ H fun vs H1 => sp (vs ++ dvs) H1 Q E
/-- how the parameters are bound: us the positional arguments, kw the keywords' values by name, ds the defaults that fill up -/
def Binds (K : PySem.W.Frag) (fd : FuncData) (ps : List Str) (ds : List Value) : Prop :=
  ∀ (s : Shared) (us : List Value), K.In s.heap → (us ++ ds).length = ps.length → BindsTo s fd ⟨us, []⟩ (ps.zip (us ++ ds))
/-- every parameter is given -/
theorem Binds.all {K : PySem.W.Frag} {fd : FuncData} {ps : List Str} (h : ∀ us : List Value, us.length = ps.length → bindArgs fd ⟨us, []⟩ = pure (ps.zip us)) : Binds K fd ps [] := fun s us _ hl => by
  rw [List.append_nil] at hl ⊢
  exact .of_eq (h us hl)
/-- an exception of a callee reaches what this body wants of exceptions -/
def Passes (CX : CXT) (X : Cx) (E : XK) : Prop := ∀ (pins : List (Addr × Obj)) (σ : St) (H : Hp) (s : Shared) (e : Value) (s' : Shared), Inv X pins σ H s → CX X.stack H s E e s' → X.xe e s'
section
variable {X : Cx} {CX : CXT} {k : Nat} {f C : Addr} {fd : FuncData} {ps : List Str} {sp : Sp} {dvs : List V} {ds : List Value} {E : XK} {x m : Str} {p pos apos : Pos} {e o : Expr} {es : List Expr} {ta : TE} {t : TA}
/-- the callee runs -/
theorem run_fn {pins : List (Addr × Obj)} {σ : St} {H : Hp} {s : Shared} {Q : VK} {us : List Value} {vs : List V} (F : FnOk X.prog X.w X.K X.mg X.base CX k f fd ps sp) (hr : Room k X.A) (hb : Binds X.K fd ps ds) (hd : Vals dvs ds) (hx : Passes CX X E)
    (I : Inv X pins σ H s) (r : Vals vs us) (h : sp (vs ++ dvs) H Q E) : wpAny (model X.prog X.w) X.A (call (.ref f) us) (EP X pins σ Q) X.xe s := by
  have r2 : Vals (vs ++ dvs) (us ++ ds) := r.append hd
  have hl : (us ++ ds).length = ps.length := by rw [← r2.length]; exact F.len _ _ _ _ h
  refine wpAny_call (codeAny_mono (F.run X.A X.stack s H ⟨us, []⟩ (us ++ ds) (vs ++ dvs) Q E hr I.env0 (hb s us I.kIn hl) r2 h) fun r s' hq => ?_)
  cases r with
  | error e => exact hx pins σ H s e s' I hq
  | ok fl =>
    cases fl with
    | ret u => exact I.after hq
    | next => exact False.elim hq
    | brk => exact False.elim hq
    | cont => exact False.elim hq
theorem pe_call (F : FnOk X.prog X.w X.K X.mg X.base CX k f fd ps sp) (hr : Room k X.A) (hg : Gl X x) (hm : X.mg x = some (.ref f)) (hk : PySem.W.keepIn X.K (.ref f) = true) (hb : Binds X.K fd ps ds) (hd : Vals dvs ds) (hx : Passes CX X E)
    (ha : PA X (e :: es) t) (hdb : (x == ("__debug__" : Str)) = false := by decide) (he : starEach (e :: es) X.env = (false, eval e X.env) :: starEach es X.env := by rfl) (hpl : (backTo pos (starEach es X.env)).any (·.1) = false := by rfl) :
    PE X (.Call (.Name x p) (e :: es) [] pos) (tCall sp dvs E t) := by
  intro pins s σ H Q I h
  refine wpAny_Call_Name_kw (ld_glob I hg hm ?_ hdb)
  refine PySem.W.callWith_K (h₀ := X.base) I.ok.mod.kin hk (thn (ha pos pins s σ H _ I h) fun us s1 ⟨vs, H1, I1, r, q⟩ => ⟨I1.kIn, ?_⟩) he hpl
  exact run_fn F hr hb hd hx I1 r q
end
section
variable {X : Cx} {CX : CXT} {k : Nat} {f C : Addr} {fd : FuncData} {ps ks : List Str} {sp : Sp} {E : XK} {x m : Str} {p pos apos kpos : Pos} {e o : Expr} {es : List Expr} {kws : List Keyword} {te ta : TE} {t tk : TA} {nm : Option Str}
variable {g : List Value → List Value → List Value} {gV : List V → List V → List V}
end
/-- names: the parameters first -/
structure FnScope (N P : List Str) (sc : Scope) : Prop where
  kind : sc.kind = .function
  co : sc.isCoroutine = false
  gen : sc.isGenerator = false
  nd : N.Nodup
  pre : N.take P.length = P
  par : ∀ x ∈ P, sc.names.lookup x = some .local ∨ sc.names.lookup x = some .cell
  nofree : ∀ y ∈ sc.names, y.2 ≠ .free
theorem bindL_out {kindOf : Str → Option NameKind} {x : Str} : ∀ {binds : List (Str × Value)} {m : Str → Option Value}, (∀ v, (x, v) ∉ binds) → bindL kindOf binds m x = m x
  | [], _, _ => rfl
  | (n, v) :: r, m, h => by
    unfold bindL
    rw [bindL_out fun w hw => h w (List.mem_cons_of_mem _ hw)]
    split
    · have : x ≠ n := by rintro rfl; exact h v List.mem_cons_self
      simp [this]
    · rfl
theorem bindC_out {kindOf : Str → Option NameKind} {x : Str} : ∀ {binds : List (Str × Value)} {m : Str → Option Value}, (∀ v, (x, v) ∉ binds) → bindC kindOf binds m x = m x
  | [], _, _ => rfl
  | (n, v) :: r, m, h => by
    unfold bindC
    rw [bindC_out fun w hw => h w (List.mem_cons_of_mem _ hw)]
    split
    · rfl
    · have : x ≠ n := by rintro rfl; exact h v List.mem_cons_self
      simp [this]
theorem bindL_get {kindOf : Str → Option NameKind} {x : Str} {v : Value} : ∀ {P : List Str} {vs : List Value} {i : Nat} {m : Str → Option Value}, P.Nodup → P[i]? = some x → vs[i]? = some v → kindOf x = some .local →
    bindL kindOf (P.zip vs) m x = some v
  | [], _, _, _, _, h, _, _ => by simp at h
  | _ :: _, [], _, _, _, _, h, _ => by simp at h
  | p :: P, w :: vs, 0, m, nd, h1, h2, hk => by
    simp at h1 h2; subst h1; subst h2
    show bindL kindOf ((p, w) :: P.zip vs) m p = _
    unfold bindL
    rw [bindL_out fun v hv => (List.nodup_cons.mp nd).1 (List.of_mem_zip hv).1, if_pos hk]
    simp
  | p :: P, w :: vs, i + 1, m, nd, h1, h2, hk => by
    show bindL kindOf ((p, w) :: P.zip vs) m x = _
    unfold bindL
    exact bindL_get (i := i) (List.nodup_cons.mp nd).2 (by simpa using h1) (by simpa using h2) hk
theorem bindC_get {kindOf : Str → Option NameKind} {x : Str} {v : Value} : ∀ {P : List Str} {vs : List Value} {i : Nat} {m : Str → Option Value}, P.Nodup → P[i]? = some x → vs[i]? = some v → kindOf x ≠ some .local →
    bindC kindOf (P.zip vs) m x = some v
  | [], _, _, _, _, h, _, _ => by simp at h
  | _ :: _, [], _, _, _, _, h, _ => by simp at h
  | p :: P, w :: vs, 0, m, nd, h1, h2, hk => by
    simp at h1 h2; subst h1; subst h2
    show bindC kindOf ((p, w) :: P.zip vs) m p = _
    unfold bindC
    rw [bindC_out fun v hv => (List.nodup_cons.mp nd).1 (List.of_mem_zip hv).1, if_neg hk]
    simp
  | p :: P, w :: vs, i + 1, m, nd, h1, h2, hk => by
    show bindC kindOf ((p, w) :: P.zip vs) m x = _
    unfold bindC
    exact bindC_get (i := i) (List.nodup_cons.mp nd).2 (by simpa using h1) (by simpa using h2) hk
/-- the names' values at the entry -/
def start (N : List Str) (vs : List V) : St := vs.map some ++ List.replicate (N.length - vs.length) none
/-- the context of a def's body, at its entry; an exception leaves the frame, then lies as CX says -/
def cxOf (CX : CXT) (P : Program) (w : World) (K : PySem.W.Frag) (mg : Str → Option Value) (base : Heap) (N : List Str) (qual : Str) (scope : Scope) (f : Addr) (cd : Value) (A : Around) (outer : List Env) (s : Shared) (H : Hp) (E : XK) : Cx where
  prog := P
  w := w
  K := K
  mg := mg
  base := base
  A := A.deeper (envOfC qual scope s.heap.objs.size f cd)
  N := N
  s₀ := s
  H₀ := H
  env := envOfC qual scope s.heap.objs.size f cd
  outer := outer
  stack := envOfC qual scope s.heap.objs.size f cd :: outer
  ex := []
  calm := true
  fn := fun _ => true
  pn := []
  xe := fun e s' => wpAny (model P w) (A.deeper (envOfC qual scope s.heap.objs.size f cd)) (leaving (envOfC qual scope s.heap.objs.size f cd) e) (fun _ s'' => CX outer H s E e s'') (fun e' s'' => CX outer H s E e' s'') s'
theorem cell_has {sc : Scope} {n : Nat} {x : Str} (h : sc.names.lookup x = some .cell) : ∃ c, (cellsFrom n sc.names []).lookup x = some c := by
  have q := PySem.W.cellsFrom_some sc.names n [] (.inl h)
  exact Option.isSome_iff_exists.mp q
theorem inv_start {CX : CXT} {P : Program} {w : World} {K : PySem.W.Frag} {mg : Str → Option Value} {base : Heap} {N ps : List Str} {qual : Str} {scope : Scope} {f : Addr} {cd : Value} {A : Around} {outer : List Env} {s s1 : Shared} {H : Hp} {E : XK} {us : List Value} {vs : List V}
    (S : FnScope N ps scope) (hd : A.handled = none) (e0 : Env0 P w K mg base A outer s H) (hl : vs.length = ps.length) (r : Vals vs us)
    (x : InCallC s s.heap.objs.size (bindL (envOfC qual scope s.heap.objs.size f cd).kindOf (ps.zip us) fun _ => none) (cellsFrom (s.heap.objs.size + 1) scope.names []) (bindC (envOfC qual scope s.heap.objs.size f cd).kindOf (ps.zip us) fun _ => none) s1) :
    Inv (cxOf CX P w K mg base N qual scope f cd A outer s H E) [] (start N vs) H s1 := by
  have hpl : ps.length ≤ N.length := by have := congrArg List.length S.pre; rw [List.length_take] at this; (first | lia | omega)
  obtain ⟨h1, tk, rfl, hk⟩ := x.done
  have noA : ∀ b : Addr, b ∉ (cxOf CX P w K mg base N qual scope f cd A outer s H E).ex := fun b z => absurd (show b ∈ ([] : List Addr) from z) (by simp)
  refine ⟨⟨e0.mod, S.kind, rfl, rfl, Nat.le_refl _, fun y z c h1 h2 => ?_, fun y hy => ?_, fun y c _ h => ?_, fun _ => hd, Around.frames_deeper e0.frames, .inr ⟨rfl, rfl⟩, fun b z => absurd z (noA b), e0.bs, e0.bsz, fun b _ _ => noA b, fun b z => absurd z (noA b), e0.funs, e0.frf⟩,
    rfl, e0.bare, Un.kept hk, ⟨_, x.toInCall.ns, fun i y v h1 h2 h3 => ?_⟩, fun y c h => ⟨_, x.cell y c h⟩, e0.hok.fresh (Nat.le_refl _), fun y c h => ?_, fun p hp => absurd (show p ∈ ([] : List (Addr × Obj)) from hp) (by simp), e0.hok.kept hk, ?_⟩
  · exact name_of_addr x.apart (PySem.mem_of_lookup h1) (PySem.mem_of_lookup h2)
  · have hy : scope.names.lookup y = some .cell ∨ scope.names.lookup y = some .free := hy
    rcases hy with hy | hy
    · exact cell_has hy
    · exact absurd rfl (S.nofree _ (PySem.mem_of_lookup hy))
  · exact Nat.le_of_lt (x.above y c (PySem.mem_of_lookup h))
  · have hi : i < vs.length := by
      unfold start at h2
      by_cases hi : i < vs.length
      · exact hi
      · rw [List.getElem?_append_right (by simpa using hi)] at h2
        rw [List.getElem?_replicate] at h2
        split at h2 <;> cases h2
    have ha : vs[i]? = some v := by
      unfold start at h2
      rw [List.getElem?_append_left (by simpa using hi), List.getElem?_map] at h2
      cases e : vs[i]? with
      | none => rw [e] at h2; cases h2
      | some a => rw [e] at h2; cases h2; rfl
    obtain ⟨u, hu, rv⟩ := r.get ha
    have hp : ps[i]? = some y := by
      rw [← S.pre, List.getElem?_take_of_lt (by (first | lia | omega))]; exact h1
    have ndP : ps.Nodup := by rw [← S.pre]; exact S.nd.sublist (List.take_sublist _ _)
    refine ⟨u, rv, ?_⟩
    rcases S.par y (List.mem_of_getElem? hp) with k | k
    · exact .inl ⟨k, bindL_get ndP hp hu k⟩
    · obtain ⟨c, e⟩ := cell_has (n := s.heap.objs.size + 1) k
      refine .inr ⟨.inl k, c, e, ?_⟩
      have q := x.cell y c e
      rw [bindC_get ndP hp hu (by show scope.names.lookup y ≠ _; rw [k]; decide)] at q
      exact q
  · exact e0.hok.fresh (Nat.le_of_lt (x.above y c (PySem.mem_of_lookup h)))
  · unfold start
    show _ = N.length
    rw [List.length_append, List.length_map, List.length_replicate]
    (first | lia | omega)
/-- THE RULE: a def (or a method) of the text, by its body. The body's reading t is chosen for each entry; it is run at the parameters' values -/
theorem fn_of {CX : CXT} {P : Program} {w : World} {K : PySem.W.Frag} {mg : Str → Option Value} {base : Heap} {k : Nat} {f : Addr} {name qual : Str} {params : Arguments} {body : List Stmt} {scope : Scope} {dV kV doc pm cdv ct oc : Value} {an od : Option Addr}
    {osl : Array (Option Value)} {N ps : List Str} {sp : Sp} (lk : K.lookup f = some ⟨oc, od, .func (PySem.W.fnOf name qual params body scope dV kV doc pm an cdv ct), osl⟩) (hcd : PySem.W.codeIn K cdv qual = true) (S : FnScope N ps scope)
    (len : ∀ vs H Q E, sp vs H Q E → vs.length = ps.length)
    (hbody : ∀ (A : Around) (outer : List Env) (s : Shared) (H : Hp) (vs : List V) (Q : VK) (E : XK), Room k (A.deeper (envOfC qual scope s.heap.objs.size f cdv)) → sp vs H Q E →
      ∃ t, PSs (cxOf CX P w K mg base N qual scope f cdv A outer s H E) body t ∧ t { nx := fun _ H' => Q .non H', rt := Q } (start N vs) H) :
    FnOk P w K mg base CX (k + 1) f (PySem.W.fnOf name qual params body scope dV kV doc pm an cdv ct) ps sp := by
  refine ⟨len, fun A outer s H args us vs Q E hr e0 hb r hsp => ?_⟩
  have hl := len _ _ _ _ hsp
  have KX : K.In s.heap := e0.mod.kin.keeps fun b o e => (e0.bs b o e).1
  have lim : s.heap.NoLimit := e0.mod.nolimit.keeps fun b o e => (e0.bs b o e).1
  have hkind : ∀ y ∈ ps.zip us, scope.names.lookup y.1 = some .local ∨ (scope.names.lookup y.1 = some .cell ∧ ((cellsFrom (s.heap.objs.size + 1) scope.names []).lookup y.1).isSome = true) := fun ⟨n, v⟩ hy => by
    rcases S.par n (List.of_mem_zip hy).1 with q | q
    · exact .inl q
    · exact .inr ⟨q, PySem.W.cellsFrom_some _ _ _ (.inl q)⟩
  refine codeAny_call_function hr.depth (KX _ _ lk) rfl S.co S.gen rfl (PySem.W.codeRec_of KX hcd) (hb _ _ _ _ ?_)
  refine wpAny_newFunctionEnv_cells S.kind hkind fun env he s1 x => ?_
  subst he
  refine ⟨lim.keeps x.toInCall.keep, codeAny_func ?_⟩
  obtain ⟨t, ht, hq⟩ := hbody A outer s H vs Q E (hr.deeper _) hsp
  have I : Inv (cxOf CX P w K mg base N qual scope f cdv A outer s H E) [] (start N vs) H s1 := inv_start S hr.hd e0 hl r x
  refine wpAny_mono (ht [] s1 (start N vs) H _ I hq) (fun fl s' hs => ?_) fun e s' hs => hs
  have fin : ∀ {σ' : St} {H' : Hp} {v : V} {u : Value}, Inv (cxOf CX P w K mg base N qual scope f cdv A outer s H E) [] σ' H' s' → RelV v u → Q v H' → CE outer P w H s Q u s' :=
    fun {σ' H' v u} J rv q => ⟨v, H', J.os, J.bare, J.base, J.hok, rv, q⟩
  cases fl with
  | ret u =>
    obtain ⟨v, σ', H', J, rv, q⟩ := hs
    exact fin J rv q
  | next =>
    obtain ⟨σ', H', J, q⟩ := hs
    exact fin (v := V.non) (u := Value.none) J rfl q
  | brk =>
    obtain ⟨_, _, _, q⟩ := hs
    exact False.elim q
  | cont =>
    obtain ⟨_, _, _, q⟩ := hs
    exact False.elim q
end L2
namespace L2
open PySem PySem.Spec PyProof.Rows
section
variable {X : Cx} {x : Str} {p pos : Pos} {e : Expr} {es : List Expr} {t : TA} {id T : String} {r : List V → Hp → VK → Prop}
def tCB (r : List V → Hp → VK → Prop) (t : TA) : TE := fun σ H Q => t σ H fun vs H1 => r vs H1 Q
/-- f(e, ..), f a built-in function -/
theorem pe_callB (hc : CallR X (.builtin id) r) (hg : Gl X x) (hm : X.mg x = none) (hv : bootBuiltins x = some (.builtin id)) (ha : PA X (e :: es) t) (hn : x ≠ "__name__" := by decide) (hdb : (x == ("__debug__" : Str)) = false := by decide)
    (he : starEach (e :: es) X.env = (false, eval e X.env) :: starEach es X.env := by rfl) (hpl : (backTo pos (starEach es X.env)).any (·.1) = false := by rfl) : PE X (.Call (.Name x p) (e :: es) [] pos) (tCB r t) := by
  intro pins s σ H Q I h
  refine wpAny_Call_Name_kw (ld_blt I hg hm hv ?_ hn hdb)
  exact PyProof.Rows.callWith_builtin1 (thn (ha pos pins s σ H _ I h) fun us s1 ⟨vs, H1, I1, r1, q1⟩ => hc pins s1 σ H1 vs us Q I1 r1 q1) he hpl
/-- T(e, ..), T a built-in type -/
theorem pe_callTy (hc : CallR X (.type T) r) (hg : Gl X x) (hm : X.mg x = none) (hv : bootBuiltins x = some (.type T)) (ha : PA X (e :: es) t) (hn : x ≠ "__name__" := by decide) (hdb : (x == ("__debug__" : Str)) = false := by decide)
    (he : starEach (e :: es) X.env = (false, eval e X.env) :: starEach es X.env := by rfl) (hpl : (backTo pos (starEach es X.env)).any (·.1) = false := by rfl) : PE X (.Call (.Name x p) (e :: es) [] pos) (tCB r t) := by
  intro pins s σ H Q I h
  refine wpAny_Call_Name_kw (ld_blt I hg hm hv ?_ hn hdb)
  exact PyProof.Rows.callWith_type1 (thn (ha pos pins s σ H _ I h) fun us s1 ⟨vs, H1, I1, r1, q1⟩ => hc pins s1 σ H1 vs us Q I1 r1 q1) he hpl
end
end L2
namespace HT
open PySem PyProof.Rows
section
open PySem.SeqAt
open PySem.AutoSeq1 (wpAny_loadPart')
open PySem.MeetsSeq PySem.MeetsSeq2 PySem.MeetsSeq3
end
section
variable {prog : Program} {w : World} {A : Around} {E : Value → Shared → Prop} {s : Shared}
/-- a slice's bound as a place among n (d where it is left out) -/
def sIx (n d : Nat) : Option Int → Nat
  | none => d
  | some v => if v < 0 then (v + (n : Int)).toNat else min v.toNat n
theorem sIx_none (n d : Nat) : sIx n d none = d := rfl
theorem sIx_nat (n d k : Nat) : sIx n d (some (k : Int)) = min k n := by
  show (if (k : Int) < 0 then ((k : Int) + (n : Int)).toNat else min (k : Int).toNat n) = min k n
  rw [if_neg (by (first | lia | omega)), Int.toNat_natCast]
end
end HT
namespace L2
open PySem PySem.Spec PyProof.Rows
abbrev TO := St → Hp → (Option Int → Hp → Prop) → Prop
/-- a slice's part (left out, or an int) -/
def PO (X : Cx) (e : Option Expr) (t : TO) : Prop :=
  ∀ (pins : List (Addr × Obj)) (s : Shared) (σ : St) (H : Hp) (Q : Option Int → Hp → Prop), Inv X pins σ H s → t σ H Q →
    wpAny (model X.prog X.w) X.A (evalPart e X.env) (fun u s' => ∃ o H', Inv X pins σ H' s' ∧ IsPart u o ∧ Q o H') X.xe s
def tNoPart : TO := fun _ H Q => Q none H
inductive IsPart' (x : V) (H : Hp) (Q : Option Int → Hp → Prop) : Prop
  | mk (i : Int) (z_0 : x = .int i) (z_1 : Q (some i) H) : IsPart' x H Q
def tPart (t : TE) : TO := fun σ H Q => t σ H fun x H1 => IsPart' x H1 Q
section
variable {X : Cx} {e : Expr} {te : TE} {lo hi : Option Expr} {tl th : TO} {pos p2 : Pos}
theorem po_none : PO X none tNoPart := by
  intro pins s σ H Q I h
  rw [evalPart_none]
  exact wpAny_pure ⟨none, H, I, .none, h⟩
theorem po_some (h : PE X e te) : PO X (some e) (tPart te) := by
  intro pins s σ H Q I hw
  rw [evalPart_some]
  refine thn (h pins s σ H _ I hw) fun u s1 ⟨x, H1, I1, r1, q1⟩ => ?_
  obtain ⟨i, rfl, q⟩ := q1
  obtain ⟨t, rfl⟩ := r1
  exact ⟨some i, H1, I1, .int i t, q⟩
/-- what a slice of a value is, by values: the slice object stands at sl -/
def SlR (X : Cx) (r : V → Option Int → Option Int → Hp → VK → Prop) : Prop :=
  ∀ (pins : List (Addr × Obj)) (s : Shared) (σ : St) (H : Hp) (x : V) (v vl vu : Value) (lo hi : Option Int) (sl : Addr) (Q : VK), Inv X pins σ H s → RelV x v → s.heap.IsSliceOf sl vl vu .none → IsPart vl lo → IsPart vu hi → r x lo hi H Q →
    ∃ T id, typeLookup (.type T) "__getitem__" = pure (some (.builtin id)) ∧ s.TypeIs v T ∧ wpAny (model X.prog X.w) X.A (getItem v (.ref sl)) (EP X pins σ Q) X.xe s
def tSl (r : V → Option Int → Option Int → Hp → VK → Prop) (te : TE) (tl th : TO) : TE := fun σ H Q => te σ H fun x H1 => tl σ H1 fun l H2 => th σ H2 fun u H3 => r x l u H3 Q
/-- a[lo:hi], any a -/
theorem pe_slice {r : V → Option Int → Option Int → Hp → VK → Prop} (hr : SlR X r) (he : PE X e te) (hl : PO X lo tl) (hu : PO X hi th) : PE X (.Subscript e (.Slice lo hi none p2) pos) (tSl r te tl th) := by
  intro pins s σ H Q I h
  refine Subscript_ (thn (he pins s σ H _ I h) fun v s1 ⟨x, H1, I1, r1, q1⟩ => ?_)
  refine wpAny_Slice (thn (hl pins s1 σ H1 _ I1 q1) fun vl s2 ⟨l, H2, I2, pl, q2⟩ => thn (hu pins s2 σ H2 _ I2 q2) fun vu s3 ⟨u, H3, I3, pu, q3⟩ => ?_)
  rw [evalPart_none]
  refine wpAny_pure ?_
  have I4 : Inv X pins σ H3 { s3 with heap := s3.heap.push { cls := .type "slice", data := .fields #[vl, vu, .none] } } := I3.kept (t' := s3.toks) fun b ob q => Heap.get?_push_of_some _ q
  obtain ⟨T, id, hT, ht, hg⟩ := hr pins { s3 with heap := s3.heap.push { cls := .type "slice", data := .fields #[vl, vu, .none] } } σ H3 x v vl vu l u s3.heap.objs.size Q I4 r1 (Heap.IsSliceOf.new ..) pl pu q3
  show wpAny (model X.prog X.w) X.A (subscriptTail e (.Slice lo hi none p2) v (.ref s3.heap.objs.size)) (EP X pins σ Q) X.xe { s3 with heap := s3.heap.push { cls := .type "slice", data := .fields #[vl, vu, .none] } }
  exact tail_any (ops := [.ref s3.heap.objs.size, v]) ht hT hg (by with_unfolding_all rfl)
/-- the items of xs[lo:hi] -/
def cutV (xs : List V) (lo hi : Option Int) : List V := (xs.drop (HT.sIx xs.length 0 lo)).take (HT.sIx xs.length xs.length hi - HT.sIx xs.length 0 lo)
theorem cutV_length (xs : List V) (lo hi : Option Int) : (cutV xs lo hi).length ≤ xs.length := by
  unfold cutV
  rw [List.length_take, List.length_drop]
  (first | lia | omega)
end
end L2
namespace L2
open PySem PySem.Spec PyProof.Rows
/-- the place that an index of any sign means -/
def ixN (n : Nat) (i : Int) : Option Nat := if 0 ≤ i then (if i < n then some i.toNat else none) else if -(n : Int) ≤ i then some (i + n).toNat else none
def atI {α : Type} (xs : List α) (i : Int) : Option α := (ixN xs.length i).bind fun j => xs[j]?
theorem ixN_seq {n : Nat} {i : Int} {j : Nat} (h : ixN n i = some j) : seqIndex? i n = some j ∧ j < n ∧ -(n : Int) ≤ i ∧ i < n := by
  unfold ixN at h
  by_cases h0 : 0 ≤ i
  · rw [if_pos h0] at h
    by_cases h1 : i < n
    · rw [if_pos h1] at h
      have e : i.toNat = j := Option.some.inj h
      exact ⟨by rw [seqIndex_of h0 h1, e], by (first | lia | omega), by (first | lia | omega), h1⟩
    · rw [if_neg h1] at h; cases h
  · rw [if_neg h0] at h
    by_cases h1 : -(n : Int) ≤ i
    · rw [if_pos h1] at h
      have e : (i + n).toNat = j := Option.some.inj h
      exact ⟨by rw [seqIndex_neg (by (first | lia | omega)) h1, e], by (first | lia | omega), h1, by (first | lia | omega)⟩
    · rw [if_neg h1] at h; cases h
theorem atI_get {α : Type} {xs : List α} {i : Int} {v : α} (h : atI xs i = some v) : ∃ j, seqIndex? i xs.length = some j ∧ xs[j]? = some v ∧ j < xs.length ∧ -(xs.length : Int) ≤ i ∧ i < xs.length := by
  unfold atI at h
  cases e : ixN xs.length i with
  | none => rw [e] at h; cases h
  | some j =>
    rw [e] at h
    obtain ⟨h1, h2, h3, h4⟩ := ixN_seq e
    exact ⟨j, h1, h, h2, h3, h4⟩
theorem atI_nat {α : Type} {xs : List α} {j : Nat} {v : α} (h : xs[j]? = some v) : atI xs (j : Int) = some v := by
  have hj : j < xs.length := (List.getElem?_eq_some_iff.mp h).1
  have e : ixN xs.length (j : Int) = some j := by
    unfold ixN
    rw [if_pos (by (first | lia | omega)), if_pos (by (first | lia | omega))]; simp
  unfold atI; rw [e]; exact h
theorem atI_last {α : Type} (xs : List α) (v : α) : atI (xs ++ [v]) (-1) = some v := by
  have hl : (xs ++ [v]).length = xs.length + 1 := by simp
  have e : ixN (xs ++ [v]).length (-1) = some xs.length := by
    unfold ixN
    rw [hl, if_neg (by decide), if_pos (by (first | lia | omega))]
    congr 1
    (first | lia | omega)
  unfold atI
  rw [e]
  show (xs ++ [v])[xs.length]? = some v
  simp
/-- what stands as an index of a plain subscript -/
def PlainIx (b : Expr) : Prop := ∀ o i, subscripted b false o i = operate [o, i] (getItem o i)
/-- a subscript by values -/
def IxR (X : Cx) (r : R2) : Prop :=
  ∀ (value slice : Expr) (pins : List (Addr × Obj)) (s : Shared) (σ : St) (H : Hp) (x y : V) (v u : Value) (Q : VK), Inv X pins σ H s → RelV x v → RelV y u → r x y H Q →
    subscripted slice false v u = operate [v, u] (getItem v u) → wpAny (model X.prog X.w) X.A (subscriptTail value slice v u) (EP X pins σ Q) X.xe s
/-- a call of a builtin's method by values: the receiver, the arguments -/
def MtR (X : Cx) (id : String) (r : V → List V → Hp → VK → Prop) : Prop :=
  ∀ (pins : List (Addr × Obj)) (s : Shared) (σ : St) (H : Hp) (x : V) (xs : List V) (v : Value) (us : List Value) (Q : VK), Inv X pins σ H s → RelV x v → Vals xs us → r x xs H Q →
    wpAny (model X.prog X.w) X.A (call (.builtin id) (v :: us)) (EP X pins σ Q) X.xe s
section
variable {X : Cx} {a b : Expr} {ta tb : TE} {pos : Pos}
/-- a[b] -/
theorem pe_ix {r : R2} (hr : IxR X r) (ha : PE X a ta) (hb : PE X b tb) (hs : PlainIx b) : PE X (.Subscript a b pos) (tOp r ta tb) := by
  intro pins s σ H Q I h
  exact Subscript_ (binT ha hb I h fun v u s2 x y H2 I2 rx ry q => hr a b pins s2 σ H2 x y v u Q I2 rx ry q (hs _ _))
inductive rIxL (K : PySem.W.Frag) : V → V → Hp → VK → Prop
  | mk {x : V} {y : V} {H : Hp} {Q : VK} (p xs i v) (z_0 : x = .ref p) (z_1 : y = .int i) (z_2 : SqL K H p xs) (z_3 : atI xs i = some v) (z_4 : Q v H) : rIxL K x y H Q
theorem ix_list : IxR X (rIxL X.K) := by
  intro value slice pins s σ H x y v u Q I rx ry h hs
  obtain ⟨p, xs, i, z, rfl, rfl, hq, he, q⟩ := h
  cases rx
  obtain ⟨t, rfl⟩ := ry
  obtain ⟨its, r, pl, hz⟩ := I.list hq
  obtain ⟨j, h1, h2, h3, h4, h5⟩ := atI_get he
  obtain ⟨w, ew, rw'⟩ := r.get h2
  have hl := r.length
  have hn := line63
  have fin : EP X pins σ Q w s := ⟨z, H, I, rw', q⟩
  by_cases h0 : 0 ≤ i
  · have hj : i.toNat = j := by
      rw [seqIndex_of h0 h5] at h1
      exact Option.some.inj h1
    exact item_listR pl.isList h0 (by (first | lia | omega)) (by rw [hj]; simpa using ew) fin hs
  · have hj : (i + (its.toArray.size : Int)).toNat = j := by
      rw [seqIndex_neg (by (first | lia | omega)) h4] at h1
      rw [List.size_toArray, ← hl]
      exact Option.some.inj h1
    exact subscriptTail_builtinR (x := w) pl.isList.typeIs slot_list_getitem.lookup
      (wpAny_getItem_list_neg (Q := fun r s' => r = w ∧ EP X pins σ Q r s') pl.isList (by (first | lia | omega)) (by rw [List.size_toArray] <;> (first | lia | omega)) (by (first | lia | omega)) (by rw [hj]; simpa using ew) ⟨rfl, fin⟩) hs
/-- the list's object behind a store -/
theorem mapSeq_set (its : List Value) (n j : Nat) (u : Value) : Obj.mapSeq (·.setIfInBounds j u) { cls := .type "list", data := .seq its.toArray n } = { cls := .type "list", data := .seq (its.set j u).toArray n } := by
  simp [Obj.mapSeq]
theorem Inv.lst {pins : List (Addr × Obj)} {σ : St} {H : Hp} {s : Shared} {p : Addr} {xs : List V} (I : Inv X pins σ H s) (h : H p = some (.lst xs)) :
    ∃ (its : List Value) (n : Nat), Vals xs its ∧ s.heap.get? p = some { cls := .type "list", data := .seq its.toArray n } ∧ xs.length ≤ sizeLine := by
  obtain ⟨z, its, n, r, e⟩ := I.hok p _ h
  exact ⟨its, n, r, e, z⟩
/-- the list at p is written by an update of its object -/
theorem Inv.lstUpd {pins : List (Addr × Obj)} {σ : St} {H : Hp} {s : Shared} {p : Addr} {xs ys : List V} {its its' : List Value} {n n' : Nat} {f : Obj → Obj} (I : Inv X pins σ H s) (h : H p = some (.lst xs))
    (ho : s.heap.get? p = some { cls := .type "list", data := .seq its.toArray n }) (hf : f { cls := .type "list", data := .seq its.toArray n } = { cls := .type "list", data := .seq its'.toArray n' }) (r : Vals ys its') (hz : ys.length ≤ sizeLine) (t : Nat) :
    Inv X pins σ (upd H p (.lst ys)) { s with heap := s.heap.update p f, toks := t } := by
  have e : (s.heap.update p f).get? p = some { cls := .type "list", data := .seq its'.toArray n' } := by
    rw [Heap.get?_update_self f ho (by rw [hf] <;> rfl), hf]
  refine I.write (x := p) (e := p) (by rw [h]; trivial) (.inl rfl) (fun b u hb q => (Heap.get?_update_other _ _ (Ne.symm hb)).trans q) ⟨_, e⟩ ?_
  exact ⟨hz, its', n', r, e⟩
inductive rSetL : V → V → V → Hp → (Hp → Prop) → Prop
  | mk {o : V} {i : V} {v : V} {H : Hp} {Q : (Hp → Prop)} (p xs k j) (z_0 : o = .ref p) (z_1 : i = .int k) (z_2 : H p = some (.lst xs)) (z_3 : ixN xs.length k = some j) (z_4 : Q (upd H p (.lst (xs.set j v)))) : rSetL  o i v H Q
theorem set_list : PSet X rSetL := by
  intro pins s σ H o i v ov iv u Q I ro ri rv h
  obtain ⟨p, xs, k, j, rfl, rfl, hp, hj, q⟩ := h
  cases ro
  obtain ⟨t, rfl⟩ := ri
  obtain ⟨its, n, r, ho, hz⟩ := I.lst hp
  obtain ⟨h1, h2, h3, h4⟩ := ixN_seq hj
  have hl := r.length
  have hn := line63
  have I' : Inv X pins σ (upd H p (.lst (xs.set j v))) { s with heap := s.heap.update p (Obj.mapSeq (·.setIfInBounds j u)) } :=
    I.lstUpd hp ho (mapSeq_set its n j u) (r.set rv j) (by rw [List.length_set]; exact hz) s.toks
  by_cases h0 : 0 ≤ k
  · have hk : k.toNat = j := by
      rw [seqIndex_of h0 h4] at h1
      exact Option.some.inj h1
    exact PySem.W.ki_setAt ho h0 (by (first | lia | omega)) (by rw [List.size_toArray, ← hl]; exact h4) (by rw [hk]; exact ⟨_, I', q⟩)
  · have hk : (k + (its.toArray.size : Int)).toNat = j := by
      rw [seqIndex_neg (by (first | lia | omega)) h3] at h1
      rw [List.size_toArray, ← hl]
      exact Option.some.inj h1
    exact PySem.W.ki_setBack ho (by (first | lia | omega)) (by rw [List.size_toArray, ← hl]; exact h3) (by (first | lia | omega)) (by rw [hk]; exact ⟨_, I', q⟩)
theorem slice_bounds (lo hi : Option Int) (n : Nat) : (sliceBounds lo hi none n).1 = ((HT.sIx n 0 lo : Nat) : Int) ∧ (sliceBounds lo hi none n).2.1 = ((HT.sIx n n hi : Nat) : Int) ∧ (sliceBounds lo hi none n).2.2 = 1 := by
  refine ⟨?_, ?_, rfl⟩
  · cases lo with
    | none => simp [sliceBounds, HT.sIx]
    | some i =>
      simp only [sliceBounds, HT.sIx, Option.getD_none, show (1 : Int) > 0 by decide, if_true]
      by_cases h : i < 0
      · simp only [h, if_true] <;> (first | lia | omega)
      · simp only [h, if_false] <;> (first | lia | omega)
  · cases hi with
    | none => simp [sliceBounds, HT.sIx]
    | some i =>
      simp only [sliceBounds, HT.sIx, Option.getD_none, show (1 : Int) > 0 by decide, if_true]
      by_cases h : i < 0
      · simp only [h, if_true] <;> (first | lia | omega)
      · simp only [h, if_false] <;> (first | lia | omega)
theorem slicePick_cut (its : List Value) (lo hi : Option Int) : slicePick its.toArray lo hi none = ((its.drop (HT.sIx its.length 0 lo)).take (HT.sIx its.length its.length hi - HT.sIx its.length 0 lo)).toArray := by
  obtain ⟨h1, h2, h3⟩ := slice_bounds lo hi its.toArray.size
  unfold slicePick
  rw [h1, h2, h3]
  simp only [sliceRange_one, pick_run, List.size_toArray] <;> rfl
/-- xs[lo:hi] of a list: a new list -/
inductive rSlL (K : PySem.W.Frag) : V → Option Int → Option Int → Hp → VK → Prop
  | mk {x : V} {lo : Option Int} {hi : Option Int} {H : Hp} {Q : VK} (a xs) (z_0 : x = .ref a) (z_1 : SqL K H a xs) (z_2 : ∀ p, H p = none → Q (.ref p) (upd H p (.lst (cutV xs lo hi)))) : rSlL K x lo hi H Q
theorem sl_list : SlR X (rSlL X.K) := by
  intro pins s σ H x v vl vu lo hi sl Q I rx hs pl pu h
  obtain ⟨a, xs, rfl, hx, q⟩ := h
  cases rx
  obtain ⟨its, r, ht, hz⟩ := I.list hx
  have hlen := r.length
  refine ⟨"list", _, slot_list_getitem.lookup, ht.isList.typeIs, ?_⟩
  refine wpAny_getItem_list_slice ht.isList hs pl pu .none (by simp) ?_ (by rw [List.size_toArray] <;> (first | lia | omega))
  rw [slicePick_cut, ← hlen]
  refine ⟨.ref s.heap.objs.size, _, I.laid (t' := s.toks) (o := .lst (cutV xs lo hi)) (fun b ob q => Heap.get?_push_of_some _ q) (Nat.le_refl _) ?_, rfl, q _ (I.hok.fresh (Nat.le_refl _))⟩
  exact ⟨Nat.le_trans (cutV_length xs lo hi) hz, _, 0, (r.drop (HT.sIx xs.length 0 lo)).take (HT.sIx xs.length xs.length hi - HT.sIx xs.length 0 lo), Heap.get?_push_size _ rfl⟩
theorem call_len_seq : CallR X (.builtin "len") (fun xs H Q => ∃ p ys, xs = [.ref p] ∧ (SqL X.K H p ys ∨ SqT X.K H p ys) ∧ Q (.int ys.length) H) := by
  intro pins s σ H xs us Q I r h
  obtain ⟨p, ys, rfl, hq, q⟩ := h
  obtain ⟨u, rfl, rx⟩ := vals1 r
  cases rx
  have hn := line63
  rcases hq with hq | hq
  · obtain ⟨its, r', pl, hz⟩ := I.list hq
    have hlen := r'.length
    exact Calls.call_len_list pl.isList (by simp only [List.size_toArray] <;> (first | lia | omega)) ⟨.int ys.length, H, I.tok _, ⟨s.toks + 1, by rw [List.size_toArray, hlen]⟩, q⟩
  · obtain ⟨its, r', pl, hz⟩ := I.tuple hq
    have hlen := r'.length
    exact len_tuple pl (by simp only [List.size_toArray] <;> (first | lia | omega)) ⟨.int ys.length, H, I.tok _, ⟨s.toks + 1, by rw [List.size_toArray, hlen]⟩, q⟩
theorem call_list_of : CallR X (.type "list") (fun xs H Q => ∃ p ys, xs = [.ref p] ∧ (SqL X.K H p ys ∨ SqT X.K H p ys) ∧ ∀ l, H l = none → Q (.ref l) (upd H l (.lst ys))) := by
  intro pins s σ H xs us Q I r h
  obtain ⟨p, ys, rfl, hq, q⟩ := h
  obtain ⟨u, rfl, rx⟩ := vals1 r
  cases rx
  have fin : ∀ (its : List Value), Vals ys its → ys.length ≤ sizeLine → ∀ (h' : Heap) (c' : Nat), (∀ b o', s.heap.get? b = some o' → h'.get? b = some o') →
      h'.get? s.heap.objs.size = some { cls := .type "list", dict := none, data := .seq its.toArray c', slots := #[] } → EP X pins σ Q (.ref s.heap.objs.size) { s with heap := h' } := fun its r' hz h' c' kp e =>
    ⟨.ref s.heap.objs.size, _, I.laid (t' := s.toks) kp (Nat.le_refl _) (show ObjOk X.prog X.w _ h' _ (.lst ys) from ⟨hz, its, c', r', e⟩), rfl, q _ (I.hok.fresh (Nat.le_refl _))⟩
  rcases hq with hq | hq
  · obtain ⟨its, r', pl, hz⟩ := I.list hq
    have hlen := r'.length
    obtain ⟨o, ho, hc, n, hd⟩ := pl.isList
    exact call_list_seq p (.inl rfl) ho hc hd (fun h' c' kp e => fin its r' hz h' c' kp e) (by simp only [List.size_toArray] <;> (first | lia | omega))
  · obtain ⟨its, r', pl, hz⟩ := I.tuple hq
    have hlen := r'.length
    obtain ⟨o, ho, hc, n, hd⟩ := pl
    exact call_list_seq p (.inr rfl) ho hc hd (fun h' c' kp e => fin its r' hz h' c' kp e) (by simp only [List.size_toArray] <;> (first | lia | omega))
/-- the value is of that builtin type -/
def tyV (K : PySem.W.Frag) (T : String) (x : V) (H : Hp) : Prop := match x with
  | .str _ => T = "str"
  | .int _ => T = "int"
  | .ref p => (T = "list" ∧ ∃ xs, SqL K H p xs) ∨ (T = "tuple" ∧ ∃ o, K.lookup p = some o ∧ o.cls = .type "tuple" ∧ o.dict = none) ∨
      (T = "dict" ∧ ((∃ kvs, H p = some (.dK kvs)) ∨ ∃ kvs, H p = some (.dT kvs))) ∨ (T = "set" ∧ ∃ S n, H p = some (.set S n))
  | _ => False
theorem tyV_is {pins : List (Addr × Obj)} {σ : St} {H : Hp} {s : Shared} {T : String} {x : V} {v : Value} (I : Inv X pins σ H s) (r : RelV x v) (ty : tyV X.K T x H) :
    s.TypeIs v T ∧ ∀ a, v = .ref a → ∃ ob, s.heap.get? a = some ob ∧ ob.dict = none := by
  cases x with
  | str z =>
    obtain ⟨t, rfl⟩ := r
    cases (show T = "str" from ty)
    exact ⟨typeIs_str s z t, fun _ e => nomatch e⟩
  | int i =>
    obtain ⟨t, rfl⟩ := r
    cases (show T = "int" from ty)
    exact ⟨typeIs_int s i t, fun _ e => nomatch e⟩
  | ref p =>
    cases r
    rcases ty with ⟨rfl, xs, hq⟩ | ⟨rfl, o, hk, hc, hd⟩ | ⟨rfl, hk⟩ | ⟨rfl, S, n, hk⟩
    · obtain ⟨its, _, pl, _⟩ := I.list hq
      refine ⟨pl.isList.typeIs, fun a e => ?_⟩
      cases e
      obtain ⟨o, n, e, c, hd, _⟩ := pl
      exact ⟨o, e, hd⟩
    · refine ⟨⟨o, I.kIn p o hk, hc⟩, fun a e => ?_⟩
      cases e
      exact ⟨o, I.kIn _ o hk, hd⟩
    · have z : ∃ o, s.heap.get? p = some o ∧ o.ExactDict := by
        rcases hk with ⟨kvs, hk⟩ | ⟨kvs, hk⟩
        · obtain ⟨_, _, _, _, o, _, _, e, ex, _⟩ := I.hok p _ hk
          exact ⟨o, e, ex⟩
        · obtain ⟨_, _, _, _, o, _, _, e, ex, _⟩ := I.hok p _ hk
          exact ⟨o, e, ex⟩
      obtain ⟨o, e, ex⟩ := z
      refine ⟨⟨o, e, ex.1⟩, fun a e2 => ?_⟩
      cases e2
      exact ⟨o, e, ex.2.1⟩
    · obtain ⟨o, _, _, _, e, ex, _⟩ := I.hok p _ hk
      refine ⟨⟨o, e, ex.1⟩, fun a e2 => ?_⟩
      cases e2
      exact ⟨o, e, ex.2.1⟩
  | _ => exact False.elim ty
def tBM (K : PySem.W.Frag) (T : String) (r : V → List V → Hp → VK → Prop) (to : TE) (t : TA) : TE := fun σ H Q => to σ H fun x H1 => tyV K T x H1 ∧ t σ H1 fun xs H2 => r x xs H2 Q
variable {o e : Expr} {es : List Expr} {to : TE} {t : TA} {name : Str} {apos cpos : Pos} {T id : String} {r : V → List V → Hp → VK → Prop}
theorem pe_bm (pa : PlainAttrs T) (slot : Slot T name id) (hty : typeOf (.builtin id) = pure (.type "method_descriptor")) (hm : MtR X id r) (ho : PE X o to) (ha : PA X (e :: es) t)
    (hbase : attributeBase o name X.env (eval o X.env) = eval o X.env := by rfl)
    (hfew : ((backTo cpos (starEach (e :: es) X.env)).all (fun x => !x.1) && (backToKw cpos (keywordEach [] X.env)).all (fun x => x.1.isSome)
      && decide ((e :: es).length + ([] : List Keyword).length + (if ([] : List Keyword).isEmpty then 0 else 1) < 30)) = true := by rfl)
    (hline : (apos.endLine == cpos.line) = true := by rfl) (hs : starEach (e :: es) X.env = (false, eval e X.env) :: starEach es X.env := by rfl) (hplain : (backTo cpos (starEach es X.env)).any (·.1) = false := by rfl) :
    PE X (.Call (.Attribute o name apos) (e :: es) [] cpos) (tBM X.K T r to t) := by
  intro pins s σ H Q I h
  refine wpAny_Call_method_late hbase hfew hline rfl (thn (ho pins s σ H _ I h) fun v s1 ⟨x, H1, I1, r1, ty, q1⟩ => ?_)
  obtain ⟨h1, h2⟩ := tyV_is I1 r1 ty
  refine ⟨T, id, pa, slot, hty, h1, h2, ?_⟩
  have hA := ha cpos pins s1 σ H1 _ I1 q1
  rw [hs] at hA ⊢
  refine Calls.callWith_builtin (by show (false || (backTo cpos (starEach es X.env)).any (·.1)) = false; rw [hplain] <;> rfl) (Calls.evalArgs_plain ?_)
  exact thn hA fun us s2 ⟨vs, H2, I2, r2, q2⟩ => hm pins s2 σ H2 x vs v us Q I2 r1 r2 q2
/- xs.append(e), list.index on a module's tuple .. are MtR facts of 06m -/
end
end L2
namespace L2
open PySem PySem.Spec PyProof.Rows
def MtM (X : Cx) (id : String) (r : V → List V → Hp → VK → Prop) : Prop :=
  ∀ (pins : List (Addr × Obj)) (s : Shared) (σ : St) (H : Hp) (x : V) (xs : List V) (v : Value) (us : List Value) (Q : VK), Inv X pins σ H s → RelV x v → Vals xs us → r x xs H Q →
    wpAny (model X.prog X.w) X.A (call (.builtin id) (v :: us)) (EP X pins σ Q) X.xe s
theorem Vals.one : ∀ {x : V} {us : List Value}, Vals [x] us → ∃ u, us = [u] ∧ RelV x u
  | _, _, .cons r .nil => ⟨_, rfl, r⟩
section
variable {X : Cx} {pins : List (Addr × Obj)} {σ : St} {H : Hp} {s : Shared} {l b : Addr} {xs ys zs : List V}
theorem Inv.lset {its its' : List Value} {n : Nat} {f : Array Value → Array Value} {t' : Nat} (I : Inv X pins σ H s) (hH : H l = some (.lst xs))
    (e : s.heap.get? l = some { cls := .type "list", data := .seq its.toArray n }) (hf : f its.toArray = its'.toArray) (hv : Vals ys its') (hz : ys.length ≤ sizeLine) :
    Inv X pins σ (upd H l (.lst ys)) { s with heap := s.heap.update l (Obj.mapSeq f), toks := t' } := by
  have q := PySem.IsL.update e f
  rw [hf] at q
  refine I.write (x := l) (e := l) (by rw [hH]; exact trivial) (.inl rfl) (fun b' u hb hu => (Heap.get?_update_other s.heap (Obj.mapSeq f) (Ne.symm hb)).trans hu) ⟨_, q⟩ ?_
  exact ⟨hz, its', _, hv, q⟩
theorem Inv.lnew {its : List Value} {t' : Nat} (I : Inv X pins σ H s) (hv : Vals ys its) (hz : ys.length ≤ sizeLine) :
    Inv X pins σ (upd H s.heap.objs.size (.lst ys)) { s with heap := s.heap.push { cls := .type "list", data := .seq its.toArray }, toks := t' } :=
  I.laid (fun _ _ q => Heap.get?_push_of_some _ q) (Nat.le_refl _) ⟨hz, its, 0, hv, Heap.get?_push_size _ rfl⟩
theorem Inv.fresh (I : Inv X pins σ H s) : H s.heap.objs.size = none := I.hok.fresh (Nat.le_refl _)
theorem Inv.lstM (I : Inv X pins σ H s) (hH : H l = some (.lst xs)) : xs.length ≤ sizeLine ∧ ∃ (its : List Value) (n : Nat), Vals xs its ∧ xs.length = its.length ∧ s.heap.get? l = some { cls := .type "list", data := .seq its.toArray n } := by
  obtain ⟨z, its, n, r, e⟩ := I.hok l _ hH
  exact ⟨z, its, n, r, r.length, e⟩
theorem notLongL {n : Nat} (h : n ≤ sizeLine) : Builtin.List.listTooLong n = false := by
  unfold Builtin.List.listTooLong
  exact decide_eq_false (by (first | lia | omega))
end
section
variable {X : Cx}
inductive rAppend : V → List V → Hp → VK → Prop
  | mk {x : V} {vs : List V} {H : Hp} {Q : VK} (l xs y) (z_0 : x = .ref l) (z_1 : vs = [y]) (z_2 : H l = some (.lst xs)) (z_3 : xs.length < sizeLine) (z_4 : Q .non (upd H l (.lst (xs ++ [y])))) : rAppend  x vs H Q
theorem mt_append : MtM X "list.append" rAppend := by
  intro pins s σ H x vs v us Q I rx rv h
  obtain ⟨l, xs, y, rfl, rfl, hH, hz, q⟩ := h
  cases rx
  obtain ⟨u, rfl, ru⟩ := rv.one
  obtain ⟨z, its, n, r, hl, e⟩ := I.lstM hH
  refine call_meets F.slot_list_append ⟨_, e, rfl⟩ F.entry_list_append (F.args_list_append_2 _ _) (PySem.list_append l its.toArray n u (by rw [List.size_toArray]; (first | lia | omega))) ⟨e, ?_⟩
  refine ⟨.non, _, I.lset (its' := its ++ [u]) hH e (by simp) (r.append (.cons ru .nil)) ?_, rfl, q⟩
  rw [List.length_append, List.length_singleton]
  (first | lia | omega)
inductive rExtend : V → List V → Hp → VK → Prop
  | mk {x : V} {vs : List V} {H : Hp} {Q : VK} (l b xs zs) (z_0 : x = .ref l) (z_1 : vs = [.ref b]) (z_2 : H l = some (.lst xs)) (z_3 : H b = some (.lst zs)) (z_4 : xs.length + zs.length ≤ sizeLine) (z_5 : Q .non (upd H l (.lst (xs ++ zs)))) : rExtend  x vs H Q
theorem mt_extend : MtM X "list.extend" rExtend := by
  intro pins s σ H x vs v us Q I rx rv h
  obtain ⟨l, b, xs, zs, rfl, rfl, hH, hB, hz, q⟩ := h
  cases rx
  obtain ⟨u, rfl, ru⟩ := rv.one
  cases ru
  obtain ⟨z, its, n, r, hl, e⟩ := I.lstM hH
  obtain ⟨z2, its2, n2, r2, hl2, e2⟩ := I.lstM hB
  have hsz : its.toArray.size + its2.toArray.size ≤ sizeLine := by rw [List.size_toArray, List.size_toArray]; (first | lia | omega)
  have hlong : ¬ (!its.toArray.isEmpty && Builtin.List.listTooLong (its.toArray.size + its2.toArray.size)) = true := by
    rw [notLongL hsz, Bool.and_false]
    exact Bool.false_ne_true
  refine call_meets F.slot_list_extend ⟨_, e, rfl⟩ F.entry_list_extend (F.args_list_extend_2 _ _)
    (AutoSeq1.list_extend_list_list_0 l its.toArray n b its2.toArray n2 hlong (by rw [List.size_toArray]; (first | lia | omega)) (by (first | lia | omega))) ⟨e, e2, ?_⟩
  refine ⟨.non, _, I.lset (its' := its ++ its2) hH e (by simp) (r.append r2) ?_, rfl, q⟩
  rw [List.length_append]
  (first | lia | omega)
inductive rCat : V → V → Hp → VK → Prop
  | mk {x : V} {y : V} {H : Hp} {Q : VK} (l b xs zs) (z_0 : x = .ref l) (z_1 : y = .ref b) (z_2 : H l = some (.lst xs)) (z_3 : H b = some (.lst zs)) (z_4 : xs.length + zs.length ≤ sizeLine) (z_5 : ∀ p, H p = none → Q (.ref p) (upd H p (.lst (xs ++ zs)))) : rCat  x y H Q
theorem op_cat : OpR X (binaryOp .Add) rCat := by
  intro pins s σ H x y v u Q I rx ry h
  obtain ⟨l, b, xs, zs, rfl, rfl, hH, hB, hz, q⟩ := h
  cases rx
  cases ry
  obtain ⟨z, its, n, r, hl, e⟩ := I.lstM hH
  obtain ⟨z2, its2, n2, r2, hl2, e2⟩ := I.lstM hB
  refine PySem.P.add_list e e2 ?_ (by rw [List.size_toArray, List.size_toArray]; (first | lia | omega))
  have ea : its.toArray ++ its2.toArray = (its ++ its2).toArray := by simp
  rw [ea]
  exact ⟨.ref _, _, I.lnew (t' := s.toks) (r.append r2) (by rw [List.length_append]; (first | lia | omega)), rfl, q _ I.fresh⟩
end
section
variable {prog : Program} {w : World} {A : Around} {E : Value → Shared → Prop} {s : Shared}
end
section
variable {X : Cx}
end
end L2
namespace Att
open PySem PySem.W PySem.Calls PyProof.Rows
theorem ints_of_wellAll {P : Params} {h : Heap} : ∀ (ns : List Int) (vs : List Value), WellAll P h vs (ns.map WData.int) → IntsAre vs ns := by
  intro ns
  induction ns with
  | nil =>
    intro vs w
    rw [List.map_nil] at w
    cases w
    exact .nil
  | cons n ns ih =>
    intro vs w
    rw [List.map_cons] at w
    cases w with
    | cons a b =>
      cases a
      exact .cons _ _ (ih _ b)
theorem script_of {l : OpenLaw} {n : Nat} (hn : l.most = some n) {P : Params} {h : Heap} {args : List WData} {vals : List Value}
    (hpre : l.row.toRowW.claim.pre args = true) (hwl : WellAll P h vals args) :
    ∃ a vs ns, vals = [Value.ref a] ∧ args = [WData.list (ns.map WData.int)] ∧ h.get? a = some { cls := .type "list", data := .seq vs.toArray } ∧ IntsAre vs ns ∧ ns.length ≤ n := by
  have hsh : WShape.hasAll [] args [.list .int] = true := (pre_splitW hpre).1
  have hc : l.pre.holds [] { args := args } = true := (pre_splitW hpre).2
  obtain ⟨d, r, rfl, h1, h2⟩ := hasAllW_cons hsh
  obtain rfl := hasAllW_nil h2
  obtain ⟨xs, rfl, h3⟩ := hasW_list h1
  obtain ⟨ns, rfl⟩ := items_int h3
  have hlen : ns.length ≤ n := by
    unfold OpenLaw.pre at hc
    have h4 : (WTm.not (.lt (.lit (.int (n : Int))) (.len (.arg 0)))).holds [] { args := [.list (ns.map .int)] } = true := by
      have h4 := (holds_andW hc).1
      rw [hn] at h4
      exact h4
    have h5 := condW_of h4 (w_not (w_lt w_lit (w_len_list (w_arg rfl))))
    rw [List.length_map] at h5
    refine Nat.le_of_not_lt fun q => ?_
    have q' : (n : Int) < ((ns.length : Nat) : Int) := by (first | lia | omega)
    first
      | (rw [decide_eq_true q'] at h5; exact absurd h5 (by decide))
      | (simp at h5; (first | lia | omega))
  cases hwl with
  | cons w1 w2 =>
    cases w2
    cases w1 with
    | list ho hall => exact ⟨_, _, ns, rfl, rfl, ho, ints_of_wellAll ns _ hall, hlen⟩
theorem post_true (l : OpenLaw) (args : List WData) : l.row.toRowW.claim.post args (.bool true) args = true :=
  postW_of (r := l.row.toRowW) (X := (true == true))
    (show WShape.has [] (.bool true) .bool = true by first | rfl | decide | simp [WShape.has, WShape.arms, WShape.armsAll])
    (show (WTm.eq .res (.lit (.bool true))).value [] { args := args, res := some (.bool true), after := args } = some (.bool (true == true)) from w_eq_bool (w_res rfl) w_lit) rfl
/-- the same from a codeAny of the CALL (for a layer whose function contracts speak of calls) -/
theorem attach_call {l : OpenLaw} {n : Nat} {q : Program} {loose : List Str} {XP : (Str → Option Value) → Heap → Prop} {YP : World → Heap → Prop} {d : DefRec}
    (hn : l.most = some n) (hdf : d.params.defaults = [])
    (call : ∀ (w : World) (s₀ s₁ : Shared) (mg mb : Str → Option Value) (fa : Addr) (o : Obj) (pm cd doc : Value) (a : Addr) (vs : List Value) (ns : List Int),
      Ground q loose [] XP w s₀ mg mb s₁.heap → YP w s₁.heap →
      s₁.heap.get? fa = some o → o.data = .func (docDef d.name d.params d.body d.scope pm cd doc) → s₁.heap.CodeRec cd d.name → mg d.name = some (.ref fa) →
      s₁.heap.get? a = some { cls := .type "list", data := .seq vs.toArray } → IntsAre vs ns → ns.length ≤ n → s₁.gens = #[] →
      codeAny (model l.prog w) callerA (.call (.ref fa) ⟨[.ref a], []⟩) (fun r s' => r = .ok (.ret (.bool true)) ∧ OldK s₁.heap s'.heap ∧ s'.os = s₁.os ∧ AllBare s'.gens) s₁) :
    WalkO q loose XP YP l.row.toRowW d [] (fun f vs => PySem.call f vs) := by
  intro w s₀ s₁ mg mb G Y fa o pm cd doc dV kV ho hd hcd hD hmg hg args vals as hpre hlay hrd hwl hlo
  obtain rfl : dV = .none := Dflts.none hD hdf
  obtain rfl : kV = .none := Dflts.noKw hD
  obtain ⟨a, vs, ns, rfl, rfl, hobj, hints, hlen⟩ := script_of hn hpre hwl
  refine enter_call (codeAny_mono (call w s₀ s₁ mg mb fa o pm cd doc a vs ns G Y ho (fd_plain hd) hcd hmg hobj hints hlen hg) fun r s' hq => ?_)
  obtain ⟨rfl, h2, h3, h4⟩ := hq
  exact ⟨.inl ⟨.bool true, .bool true, [], rfl, fun _ => rfl, .bool true, post_true l _, fun _ => ⟨List.Pairwise.nil, fun _ hm => (nomatch hm)⟩⟩, h2, h3, h4⟩
section
variable {prog : Program} {w : World} {A : Around} {E : Value → Shared → Prop} {s : Shared} {K : Frag}
end
end Att
namespace L2
open PySem PySem.Spec PyProof.Rows
theorem vals_ints : ∀ {vs : List Value} {ns : List Int}, IntsAre vs ns → Vals (ns.map V.int) vs
  | _, _, .nil => .nil
  | _, _, .cons n t h => .cons ⟨t, rfl⟩ (vals_ints h)
/-- nothing is tracked but the script, known to the object (or it is an object of the module) -/
def Only (H : Hp) : Prop := ∀ b, H b = none ∨ ∃ o xs, H b = some (.frz o (.lst xs))
/-- THE HEAD: the law's promise, at the heap behind the top. F, the promise of the law's def, may use that base is part of the heap (so K.In base, base.Ns mainGlobals mg stand in Mod) -/
theorem law_call {P : Program} {w : World} {K : PySem.W.Frag} {mg mb : Str → Option Value} {CX : CXT} {k : Nat} {fa a : Addr} {fd : FuncData} {x : Str} {sp : Sp} {s₁ : Shared} {vs : List Value} {ns : List Int}
    (KX : K.In s₁.heap) (hns : s₁.heap.Ns mainGlobals mg) (hb : s₁.heap.Ns builtinsNs mb) (hbb : ∀ x : Str, x ≠ "__name__" → mb x = bootBuiltins x) (hlim : s₁.heap.NoLimit) (hg : s₁.gens = #[])
    (ha : s₁.heap.get? a = some { cls := .type "list", data := .seq vs.toArray }) (hi : IntsAre vs ns) (hl : ns.length ≤ sizeLine) (hr : Room k callerA)
    (F : ∀ base : Heap, K.In base → base.Ns mainGlobals mg → FnOk P w K mg base CX k fa fd [x] sp) (hbind : ∀ (s : Shared) (u : Value), BindsTo s fd ⟨[u], []⟩ [(x, u)])
    (hsp : ∀ H : Hp, Only H → SqL K H a (ns.map V.int) → sp [.ref a] H (fun v _ => v = .bl true) fun _ _ _ => False)
    (hCX : ∀ H e s', CX [] H s₁ (fun _ _ _ => False) e s' → False) :
    codeAny (model P w) callerA (.call (.ref fa) ⟨[.ref a], []⟩) (fun r s' => r = .ok (.ret (.bool true)) ∧ OldK s₁.heap s'.heap ∧ s'.os = s₁.os ∧ AllBare s'.gens) s₁ := by
  have rv := vals_ints hi
  have lenV := hi.length
  -- from an abstract heap in which nothing but the script may be tracked
  have core : ∀ H : Hp, Only H → SqL K H a (ns.map V.int) → HOk P w H s₁.heap → (∀ b, H b ≠ none → b = a) → (H a ≠ none → K.lookup a = none) →
      codeAny (model P w) callerA (.call (.ref fa) ⟨[.ref a], []⟩) (fun r s' => r = .ok (.ret (.bool true)) ∧ OldK s₁.heap s'.heap ∧ s'.os = s₁.os ∧ AllBare s'.gens) s₁ := by
    intro H hO hS hok hA hK
    have base_of : ∀ {b : Addr} {o : Obj}, s₁.heap.get? b = some o → H b = none → (hidT s₁.heap H).get? b = some o := fun e n => hidT_get e n
    have noA : ∀ {b : Addr} {o : Obj} {es : Array DictEntry} {ep : Nat}, s₁.heap.get? b = some o → o.data = .dict es ep → H b = none := fun {b o es ep} e d => by
      cases q : H b with
      | none => rfl
      | some u =>
        have e' : b = a := hA b (by rw [q]; simp)
        subst e'
        rw [ha] at e; cases e
        have d' : Data.seq vs.toArray _ = Data.dict es ep := d
        cases d'
    have nsK : ∀ {b : Addr} {m : Str → Option Value}, s₁.heap.Ns b m → (hidT s₁.heap H).Ns b m := fun {b m} ⟨o, es, ep, e, d, r⟩ => ⟨o, es, ep, base_of e (noA e d), d, r⟩
    have hKb : K.In (hidT s₁.heap H) := fun b o e => base_of (KX b o e) (by
      cases q : H b with
      | none => rfl
      | some u =>
        have e' : b = a := hA b (by rw [q]; simp)
        subst e'
        rw [hK (by rw [q]; simp)] at e; cases e)
    have hM : Mod K mg (hidT s₁.heap H) := ⟨hKb, nsK hns, ⟨mb, nsK hb, hbb⟩, let ⟨mc, h1, h2⟩ := hlim; ⟨mc, nsK h1, h2⟩⟩
    have e0 : Env0 P w K mg (hidT s₁.heap H) callerA [] s₁ H := ⟨rfl, hM, fun b o e => of_hidT e, Nat.le_of_eq (hidT_size _ _), trivial, fun b hb => absurd (show b ∈ ([] : List Addr) from hb) (by simp), hok, .of_eq hg⟩
    refine codeAny_mono ((F _ hKb (nsK hns)).run callerA [] s₁ H ⟨[.ref a], []⟩ [.ref a] [.ref a] _ _ hr e0 (hbind s₁ (.ref a)) (.cons rfl .nil) (hsp H hO hS)) fun r s' h => ?_
    cases r with
    | error e => exact (hCX H e s' h).elim
    | ok fl =>
      cases fl with
      | next => exact False.elim h
      | brk => exact False.elim h
      | cont => exact False.elim h
      | ret u =>
        obtain ⟨v, H', os, bare, un, hok', r', q⟩ := h
        have q' : v = .bl true := q
        subst q'
        obtain rfl : u = Value.bool true := r'
        refine ⟨rfl, OldK.of_keep fun b o e => ?_, os, bare⟩
        cases q : H b with
        | none => exact un.keep b o e q (by intro z; exact absurd (show b ∈ ([] : List Addr) from z) (by simp)) (by simp)
        | some u =>
          rcases hO b with z | ⟨ob, xs, z⟩
          · rw [q] at z; cases z
          · have z2 := un.frzs b ob _ z
            obtain ⟨e1, _⟩ := hok b _ z
            obtain ⟨e2, _⟩ := hok' b _ z2
            rw [e] at e1; cases e1
            exact e2
  cases hk : K.lookup a with
  | some o =>
    -- the script is one of the module's own objects
    have e := KX a o hk
    rw [ha] at e
    cases e
    refine core (fun _ => none) (fun _ => .inl rfl) (.inr ⟨_, vs.toArray, _, hk, rfl, rfl, rfl, by rw [List.size_toArray, lenV]; exact hl, by simpa using rv⟩) (fun b u z => by have z' : (none : Option HO) = some u := z; cases z') (fun b z => absurd rfl z) fun z => absurd rfl z
  | none =>
    refine core (fun b => if b = a then some (.frz { cls := .type "list", data := .seq vs.toArray } (.lst (ns.map V.int))) else none) (fun b => ?_) (.inl (.inr ⟨{ cls := .type "list", data := .seq vs.toArray }, if_pos rfl⟩)) (fun b u z => ?_) (fun b z => ?_) fun _ => hk
    · by_cases hb : b = a
      · exact .inr ⟨_, _, if_pos hb⟩
      · exact .inl (if_neg hb)
    · by_cases hb : b = a
      · have z' := (if_pos hb).symm.trans z
        cases z'
        subst hb
        exact ⟨ha, by rw [List.length_map]; exact hl, vs, _, rv, ha⟩
      · have z' := (if_neg hb).symm.trans z
        cases z'
    · by_cases hb : b = a
      · exact hb
      · exact absurd (if_neg hb) z
end L2
namespace L2
open PySem PySem.Spec PyProof.Rows
abbrev KOf {K : PySem.W.Frag} {h : Heap} (_ : K.In h) : PySem.W.Frag := K
/-- the goal that k_head leaves (case hc), from the law's promise. F gives the function object fd (K's own) once, then the promise over every base -/
theorem walk_of {l : PySem.W.OpenLaw} {n k : Nat} {q : Program} {loose : List Str} {XP : (Str → Option Value) → Heap → Prop} {YP : World → Heap → Prop} {d : DefRec} {K : Params → PySem.W.Frag} {CX : World → CXT} {sp : World → Sp} {x : Str}
    (hn : l.most = some n) (hn2 : n ≤ sizeLine) (hdf : d.params.defaults = []) (hr : Room k callerA)
    (hY : ∀ (w : World) (h : Heap), YP w h → (K w.params).In h)
    (F : ∀ (w : World) (mg : Str → Option Value) (fa : Addr) (h : Heap), (K w.params).In h → h.Ns mainGlobals mg → mg d.name = some (.ref fa) →
      ∃ fd : FuncData, (∀ (s : Shared) (u : Value), BindsTo s fd ⟨[u], []⟩ [(x, u)]) ∧
        ∀ base : Heap, (K w.params).In base → base.Ns mainGlobals mg → FnOk l.prog w (K w.params) mg base (CX w) k fa fd [x] (sp w))
    (hsp : ∀ (w : World) (H : Hp) (a : Addr) (ns : List Int), ns.length ≤ n → Only H → SqL (K w.params) H a (ns.map V.int) → sp w [.ref a] H (fun v _ => v = .bl true) fun _ _ _ => False)
    (hCX : ∀ (w : World) (H : Hp) (s : Shared) (e : Value) (s' : Shared), CX w [] H s (fun _ _ _ => False) e s' → False) :
    PySem.W.WalkO q loose XP YP l.row.toRowW d [] (fun f vs => PySem.call f vs) := by
  refine Att.attach_call hn hdf fun w s₀ s₁ mg mb fa o pm cd doc a vs ns G Y ho hd hcd hmg hobj hints hlen hg => ?_
  have KX := hY w _ Y
  obtain ⟨fd, hb, hF⟩ := F w mg fa _ KX G.T.g hmg
  exact law_call KX G.T.g G.T.b G.T.builtins G.T.nolimit hg hobj hints (Nat.le_trans hlen hn2) hr hF hb (fun H hO hS => hsp w H a ns hlen hO hS) fun H e s' => hCX w H s₁ e s'
/-- the same where the promise hangs on the written part alone: (sp := My.sp_law), no hole under a binder -/
theorem walk_ofK {l : PySem.W.OpenLaw} {n k : Nat} {q : Program} {loose : List Str} {XP : (Str → Option Value) → Heap → Prop} {YP : World → Heap → Prop} {d : DefRec} {K : Params → PySem.W.Frag} {CX : CXT} {sp : PySem.W.Frag → Sp} {x : Str}
    (hn : l.most = some n) (hn2 : n ≤ sizeLine) (hdf : d.params.defaults = []) (hr : Room k callerA)
    (hY : ∀ (w : World) (h : Heap), YP w h → (K w.params).In h)
    (F : ∀ (w : World) (mg : Str → Option Value) (fa : Addr) (h : Heap), (K w.params).In h → h.Ns mainGlobals mg → mg d.name = some (.ref fa) →
      ∃ fd : FuncData, (∀ (s : Shared) (u : Value), BindsTo s fd ⟨[u], []⟩ [(x, u)]) ∧
        ∀ base : Heap, (K w.params).In base → base.Ns mainGlobals mg → FnOk l.prog w (K w.params) mg base CX k fa fd [x] (sp (K w.params)))
    (hsp : ∀ (K : PySem.W.Frag) (H : Hp) (a : Addr) (ns : List Int), ns.length ≤ n → Only H → SqL K H a (ns.map V.int) → sp K [.ref a] H (fun v _ => v = .bl true) fun _ _ _ => False)
    (hCX : ∀ (H : Hp) (s : Shared) (e : Value) (s' : Shared), CX [] H s (fun _ _ _ => False) e s' → False) :
    PySem.W.WalkO q loose XP YP l.row.toRowW d [] (fun f vs => PySem.call f vs) :=
  walk_of (K := K) (CX := fun _ => CX) (sp := fun w => sp (K w.params)) hn hn2 hdf hr hY F (fun w H a ns h1 h2 h3 => hsp (K w.params) H a ns h1 h2 h3) fun _ H s e s' => hCX H s e s'
end L2
namespace L2
open PySem PySem.Spec PyProof.Rows
def defArgs (s : Stmt) : Arguments := match s with
  | .FunctionDef _ a _ _ _ _ _ _ _ _ => a
  | _ => { posonlyargs := [], args := [], vararg := none, kwonlyargs := [], kw_defaults := [], kwarg := none, defaults := [] }
def defBody (s : Stmt) : List Stmt := match s with
  | .FunctionDef _ _ b _ _ _ _ _ _ _ => b
  | _ => []
def defScope (s : Stmt) : Scope := match s with
  | .FunctionDef _ _ _ _ _ _ sc _ _ _ => sc
  | _ => { kind := .function, names := [], isGenerator := false, isCoroutine := false }
abbrev CX0 : CXT := fun _ _ _ _ _ _ => False
abbrev E0 : XK := fun _ _ _ => False
theorem pass0 {X : Cx} : Passes CX0 X E0 := fun _ _ _ _ _ _ _ h => h.elim
structure Fun (K : PySem.W.Frag) (x qual : Str) (st : Stmt) (f : Addr) (fd : FuncData) : Prop where
  ex : ∃ (oc : Value) (od : Option Addr) (kV doc pm : Value) (an : Option Addr) (cdv ct : Value) (osl : Array (Option Value)),
    fd = PySem.W.fnOf x qual (defArgs st) (defBody st) (defScope st) .none kV doc pm an cdv ct ∧ K.lookup f = some ⟨oc, od, .func fd, osl⟩ ∧ PySem.W.codeIn K cdv qual = true
  kp : PySem.W.keepIn K (.ref f) = true
section
variable {P : Program} {w : World} {K : PySem.W.Frag} {mg : Str → Option Value} {base : Heap}
/-- THE RULE for a def: its body as a term of rules, and the reading of that term -/
theorem Fun.ok {x qual : Str} {st : Stmt} {f : Addr} {fd : FuncData} {N ps : List Str} {k : Nat} {sp : Sp} (F : Fun K x qual st f fd) (S : FnScope N ps (defScope st)) (len : ∀ vs H Q E, sp vs H Q E → vs.length = ps.length)
    (hbody : ∀ (cdv : Value) (A : Around) (outer : List Env) (s : Shared) (H : Hp) (vs : List V) (Q : VK) (E : XK), Room k (A.deeper (envOfC qual (defScope st) s.heap.objs.size f cdv)) → sp vs H Q E →
      ∃ t, PSs (cxOf CX0 P w K mg base N qual (defScope st) f cdv A outer s H E).nox (defBody st) t ∧ t { nx := fun _ H' => Q .non H', rt := Q } (start N vs) H) : FnOk P w K mg base CX0 (k + 1) f fd ps sp := by
  obtain ⟨oc, od, kV, doc, pm, an, cdv, ct, osl, rfl, lk, hcd⟩ := F.ex
  refine fn_of lk hcd S len fun A outer s H vs Q E hr hsp => ?_
  obtain ⟨t, h, q⟩ := hbody cdv A outer s H vs Q E hr hsp
  exact ⟨t, h.nox, q⟩
/-- how its arguments bind (no defaults): h is «fun _ _ _ _ _ _ us hl => match us, hl with | [_, _], _ => rfl», one _ a parameter -/
theorem Fun.binds {x qual : Str} {st : Stmt} {f : Addr} {fd : FuncData} {ps : List Str} (F : Fun K x qual st f fd)
    (h : ∀ (kV doc pm : Value) (an : Option Addr) (cdv ct : Value) (us : List Value), us.length = ps.length → bindArgs (PySem.W.fnOf x qual (defArgs st) (defBody st) (defScope st) .none kV doc pm an cdv ct) ⟨us, []⟩ = pure (ps.zip us)) : Binds K fd ps [] := by
  obtain ⟨oc, od, kV, doc, pm, an, cdv, ct, osl, rfl, lk, hcd⟩ := F.ex
  exact .all (h kV doc pm an cdv ct)
theorem fun_mk {x qual : Str} {st : Stmt} {f : Addr} {oc : Value} {od an : Option Addr} {osl : Array (Option Value)} {kV doc pm cdv ct : Value} (l : K.lookup f = some ⟨oc, od, .func (PySem.W.fnOf x qual (defArgs st) (defBody st) (defScope st) .none kV doc pm an cdv ct), osl⟩)
    (c : PySem.W.codeIn K cdv qual = true) (k : PySem.W.keepIn K (.ref f) = true) : Fun K x qual st f (PySem.W.fnOf x qual (defArgs st) (defBody st) (defScope st) .none kV doc pm an cdv ct) := ⟨⟨oc, od, kV, doc, pm, an, cdv, ct, osl, rfl, l, c⟩, k⟩
end
theorem small1000 {n : Nat} (h : n ≤ 1000) : n < sizeLine := Nat.lt_of_le_of_lt h (by decide)
section
variable {X : Cx}
theorem pv (i : Nat) {x : Str} {pos : Pos} (hN : X.N[i]? = some x := by rfl) (hv : Vis X.env.scope x := by first | exact Or.inl rfl | exact Or.inr (Or.inl rfl) | exact Or.inr (Or.inr rfl)) (hd : (x == ("__debug__" : Str)) = false := by decide)
    (hcd : (x == ("__classdict__" : Str)) = false := by decide) : PE X (.Name x pos) (tVar i) := pe_var hN hv hd hcd
end
theorem iteF {A B : Prop} (h : B) : if false = true then A else B := by
  rw [if_neg Bool.false_ne_true]
  exact h
theorem iteT {A B : Prop} (h : A) : if true = true then A else B := by
  rw [if_pos rfl]
  exact h
theorem ite2 {c A B : Prop} [Decidable c] (h1 : c → A) (h2 : ¬ c → B) : if c then A else B := by
  by_cases h : c
  · rw [if_pos h]
    exact h1 h
  · rw [if_neg h]
    exact h2 h
theorem iteNS {c A B : Prop} [Decidable c] (hc : c) (h : B) : if (!decide c) = true then A else B := by
  rw [decide_eq_true hc]
  exact iteF h
/-- all that was tracked is as it was -/
def Same (H H' : Hp) : Prop := ∀ b o, H b = some o → H' b = some o
theorem Same.refl (H : Hp) : Same H H := fun _ _ h => h
theorem Same.trans {H H1 H2 : Hp} (a : Same H H1) (b : Same H1 H2) : Same H H2 := fun c o h => b c o (a c o h)
theorem Same.free {H H' : Hp} (e : Same H H') {l : Addr} (h : H' l = Option.none) : H l = Option.none := by
  cases q : H l with
  | none => rfl
  | some o =>
    rw [e l o q] at h
    cases h
theorem Same.seq {K : PySem.W.Frag} {H H' : Hp} {a : Addr} {xs : List V} (e : Same H H') (h : SqL K H a xs) : SqL K H' a xs := by
  rcases h with (h | ⟨o, h⟩) | h
  · exact .inl (.inl (e _ _ h))
  · exact .inl (.inr ⟨o, e _ _ h⟩)
  · exact .inr h
end L2
namespace SM
def Cg (p a b : Int) : Prop := ∃ k, a = b + p * k
theorem Cg.refl (p a : Int) : Cg p a a := ⟨0, by grind⟩
theorem Cg.symm {p a b : Int} (h : Cg p a b) : Cg p b a := by obtain ⟨k, h⟩ := h; exact ⟨-k, by grind⟩
theorem Cg.trans {p a b c : Int} (h : Cg p a b) (g : Cg p b c) : Cg p a c := by
  obtain ⟨k, h⟩ := h; obtain ⟨m, g⟩ := g; exact ⟨k + m, by grind⟩
theorem Cg.add {p a b c d : Int} (h : Cg p a b) (g : Cg p c d) : Cg p (a + c) (b + d) := by
  obtain ⟨k, h⟩ := h; obtain ⟨m, g⟩ := g; exact ⟨k + m, by grind⟩
theorem Cg.sub {p a b c d : Int} (h : Cg p a b) (g : Cg p c d) : Cg p (a - c) (b - d) := by
  obtain ⟨k, h⟩ := h; obtain ⟨m, g⟩ := g; exact ⟨k - m, by grind⟩
theorem Cg.mul {p a b c d : Int} (h : Cg p a b) (g : Cg p c d) : Cg p (a * c) (b * d) := by
  obtain ⟨k, h⟩ := h; obtain ⟨m, g⟩ := g; exact ⟨b * m + k * d + p * k * m, by grind⟩
theorem Cg.of_eq {p a b : Int} (h : a = b) : Cg p a b := h ▸ Cg.refl p a
theorem Cg.mod (p a : Int) : Cg p (a % p) a := ⟨-(a / p), by have := Int.mul_ediv_add_emod a p; grind⟩
theorem Cg.emod {p a b : Int} (h : Cg p a b) : a % p = b % p := by
  obtain ⟨k, h⟩ := h
  rw [h, Int.add_mul_emod_self_left]
theorem Cg.of_emod {p a b : Int} (h : a % p = b % p) : Cg p a b := (Cg.mod p a).symm.trans ((Cg.of_eq h).trans (Cg.mod p b))
def ev (c : List Int) (x : Int) : Int := c.foldr (fun a t => t * x + a) 0
theorem ev_cons (a : Int) (c : List Int) (x : Int) : ev (a :: c) x = ev c x * x + a := rfl
theorem ev_snoc0 : ∀ (c : List Int) (x : Int), ev (c ++ [0]) x = ev c x
  | [], x => by simp [ev]
  | a :: c, x => by rw [List.cons_append, ev_cons, ev_cons, ev_snoc0 c x]
def signAt (p : Int) (c : List Int) (x : Int) : Int := c.foldr (fun a t => ((t * x) % p + a) % p) 0
def along (p : Int) (c : List Int) (n : Nat) : List Int := (List.range n).map fun (k : Nat) => signAt p c (k : Int)
def sumC (p : Int) (a b : List Int) : List Int := List.zipWith (fun l r => (l + r) % p) a b
def scal (p : Int) (c : List Int) (f : Int) : List Int := c.map fun a => (a * f) % p
def woN (p : Int) (c : List Int) (x : Int) : List Int := List.zipWith (fun u d => (u - d) % p) (0 :: c) (scal p (c ++ [0]) x)
/-- power's loop: result, square, left -/
def powGo (p : Int) : Nat → Int → Int → Nat → Int
  | 0, r, _, _ => r
  | f + 1, r, q, n => if n = 0 then r else powGo p f (if n % 2 = 1 then (r * q) % p else r) ((q * q) % p) (n / 2)
def pow (p s : Int) (n : Nat) : Int := powGo p (n + 1) 1 s n
def inv (p s : Int) : Int := pow p s (p - 2).toNat
/-- a turn of curve_through -/
def ctTurn (p : Int) (st : List Int × List Int) (xs : Int × Int) : List Int × List Int :=
  let missing := (xs.2 - signAt p st.1 xs.1) % p
  let height := signAt p st.2 xs.1
  let share := (missing * inv p height) % p
  (sumC p (st.1 ++ [0]) (scal p st.2 share), woN p st.2 xs.1)
def ct (p : Int) (places signs : List Int) : List Int := ((places.zip signs).foldl (ctTurn p) ([], [1])).1
def lengthened (p : Int) (word : List Int) (n : Nat) : List Int := along p (ct p ((List.range word.length).map (fun (k : Nat) => (k : Int))) word) n
theorem signAt_ev {p : Int} : ∀ (c : List Int) (x : Int), signAt p c x = ev c x % p
  | [], x => by simp [signAt, ev]
  | a :: c, x => by
    show ((signAt p c x * x) % p + a) % p = (ev c x * x + a) % p
    rw [signAt_ev c x]
    exact (((Cg.mod p _).trans ((Cg.mod p _).mul (Cg.refl p x))).add (Cg.refl p a)).emod
theorem scal_len (p : Int) (c : List Int) (f : Int) : (scal p c f).length = c.length := by simp [scal]
theorem sumC_len (p : Int) (a b : List Int) (h : a.length = b.length) : (sumC p a b).length = a.length := by simp [sumC, h]
theorem woN_len (p : Int) (c : List Int) (x : Int) : (woN p c x).length = c.length + 1 := by simp [woN, scal]
theorem sumC_ev {p : Int} : ∀ (a b : List Int) (x : Int), a.length = b.length → Cg p (ev (sumC p a b) x) (ev a x + ev b x)
  | [], [], x, _ => Cg.of_eq (by simp [sumC, ev])
  | a :: as, b :: bs, x, h => by
    have ih := sumC_ev (p := p) as bs x (by simpa using h)
    show Cg p (ev (sumC p as bs) x * x + (a + b) % p) ((ev as x * x + a) + (ev bs x * x + b))
    refine ((ih.mul (Cg.refl p x)).add (Cg.mod p (a + b))).trans (Cg.of_eq ?_)
    grind
  | [], _ :: _, _, h => by simp at h
  | _ :: _, [], _, h => by simp at h
theorem scal_ev {p : Int} : ∀ (c : List Int) (f x : Int), Cg p (ev (scal p c f) x) (f * ev c x)
  | [], f, x => Cg.of_eq (by simp [scal, ev])
  | a :: c, f, x => by
    have ih := scal_ev (p := p) c f x
    show Cg p (ev (scal p c f) x * x + (a * f) % p) (f * (ev c x * x + a))
    refine ((ih.mul (Cg.refl p x)).add (Cg.mod p (a * f))).trans (Cg.of_eq ?_)
    grind
theorem zipSub_ev {p : Int} : ∀ (a b : List Int) (x : Int), a.length = b.length → Cg p (ev (List.zipWith (fun u d => (u - d) % p) a b) x) (ev a x - ev b x)
  | [], [], x, _ => Cg.of_eq (by simp [ev])
  | a :: as, b :: bs, x, h => by
    have ih := zipSub_ev (p := p) as bs x (by simpa using h)
    show Cg p (ev (List.zipWith (fun u d => (u - d) % p) as bs) x * x + (a - b) % p) ((ev as x * x + a) - (ev bs x * x + b))
    refine ((ih.mul (Cg.refl p x)).add (Cg.mod p (a - b))).trans (Cg.of_eq ?_)
    grind
  | [], _ :: _, _, h => by simp at h
  | _ :: _, [], _, h => by simp at h
theorem woN_ev {p : Int} (c : List Int) (r x : Int) : Cg p (ev (woN p c r) x) ((x - r) * ev c x) := by
  have h1 := zipSub_ev (p := p) (0 :: c) (scal p (c ++ [0]) r) x (by simp [scal])
  have h2 := scal_ev (p := p) (c ++ [0]) r x
  rw [ev_snoc0] at h2
  refine h1.trans (((Cg.refl p (ev (0 :: c) x)).sub h2).trans (Cg.of_eq ?_))
  rw [ev_cons]
  grind
/-- what is asked of the prime: the program's inverse is one -/
structure Fld (p : Int) : Prop where
  two : 2 ≤ p
  inv : ∀ a : Int, 0 < a → a < p → Cg p (inv p a * a) 1
theorem Fld.pos {p : Int} (F : Fld p) : 0 < p := by have := F.two; (first | lia | omega)
theorem Fld.zero {p a b : Int} (F : Fld p) (h : Cg p (a * b) 0) (ha : ¬ Cg p a 0) : Cg p b 0 := by
  have hp := F.pos
  have e := Cg.mod p a
  have a0 : 0 ≤ a % p := Int.emod_nonneg a (by (first | lia | omega))
  have a1 : a % p < p := Int.emod_lt_of_pos a hp
  have ne : a % p ≠ 0 := fun z => ha (e.symm.trans (Cg.of_eq z))
  have i := F.inv (a % p) (by (first | lia | omega)) a1
  have s1 : Cg p b ((SM.inv p (a % p) * (a % p)) * b) := by
    have := (i.symm).mul (Cg.refl p b)
    exact (Cg.of_eq (by grind)).trans this
  refine s1.trans ?_
  have s2 : Cg p ((SM.inv p (a % p) * (a % p)) * b) (SM.inv p (a % p) * (a * b)) := by
    refine (Cg.of_eq (b := SM.inv p (a % p) * ((a % p) * b)) (by grind)).trans ?_
    exact (Cg.refl p _).mul (e.mul (Cg.refl p b))
  exact (s2.trans ((Cg.refl p _).mul h)).trans (Cg.of_eq (by grind))
def quot (c : List Int) (r : Int) : List Int := match c with
  | [] => []
  | _ :: c => go c
where go : List Int → List Int
  | [] => []
  | a :: c => ev (a :: c) r :: go c
theorem go_len (r : Int) : ∀ c : List Int, (quot.go r c).length = c.length
  | [] => rfl
  | _ :: c => by simp [quot.go, go_len r c]
theorem go_ev (r x : Int) : ∀ c : List Int, ∀ a : Int, ev (a :: c) x - ev (a :: c) r = (x - r) * ev (quot.go r c) x
  | [], a => by simp [quot.go, ev]
  | b :: c, a => by
    have ih := go_ev r x c b
    rw [ev_cons, ev_cons (a := a) (x := r)]
    show _ = (x - r) * (ev (quot.go r c) x * x + ev (b :: c) r)
    grind
theorem roots {p : Int} (F : Fld p) : ∀ (n : Nat) (c xs : List Int), c.length = n → xs.length = n → xs.Pairwise (fun a b => ¬ Cg p (b - a) 0) → (∀ x ∈ xs, Cg p (ev c x) 0) → ∀ x, Cg p (ev c x) 0
  | 0, c, xs, hc, _, _, _, x => by
    have : c = [] := List.length_eq_zero_iff.mp hc
    subst this; exact Cg.of_eq rfl
  | n + 1, c, xs, hc, hx, hd, hr, x => by
    match c, xs, hc, hx with
    | a :: c, r :: xs, hc, hx =>
      have hd' := List.pairwise_cons.mp hd
      have hr0 := hr r (List.mem_cons_self ..)
      have h : ∀ y ∈ xs, Cg p (ev (quot.go r c) y) 0 := fun y hy => by
        have e := go_ev r y c a
        have h1 := (hr y (List.mem_cons_of_mem _ hy)).sub hr0
        have h2 : Cg p ((y - r) * ev (quot.go r c) y) 0 := by rw [← e]; exact h1.trans (Cg.of_eq (by (first | lia | omega)))
        exact F.zero h2 (hd'.1 y hy)
      have q := roots F n (quot.go r c) xs (by rw [go_len]; simpa using hc) (by simpa using hx) hd'.2 h x
      have e := go_ev r x c a
      have e2 : ev (a :: c) x = (x - r) * ev (quot.go r c) x + ev (a :: c) r := by (first | lia | omega)
      rw [e2]
      exact (((Cg.refl p _).mul q).add hr0).trans (Cg.of_eq (by grind))
theorem sub_curves (p : Int) (a b : List Int) (h : a.length = b.length) : ∃ c : List Int, c.length = a.length ∧ ∀ x, Cg p (ev c x) (ev a x - ev b x) :=
  ⟨List.zipWith (fun u d => (u - d) % p) a b, by simp [h], fun x => zipSub_ev a b x h⟩
/-- two curves of one size that are the same at as many different places are the same -/
theorem same_curve {p : Int} (F : Fld p) {a b xs : List Int} (hab : a.length = b.length) (hx : xs.length = a.length) (hd : xs.Pairwise (fun a b => ¬ Cg p (b - a) 0)) (h : ∀ x ∈ xs, Cg p (ev a x) (ev b x)) (x : Int) : Cg p (ev a x) (ev b x) := by
  obtain ⟨c, hc, e⟩ := sub_curves p a b hab
  have q := roots F a.length c xs hc hx hd (fun y hy => (e y).trans (((h y hy).sub (Cg.refl p _)).trans (Cg.of_eq (by (first | lia | omega))))) x
  have e2 := (e x).symm.trans q
  have := e2.add (Cg.refl p (ev b x))
  exact ((Cg.of_eq (by (first | lia | omega))).trans this).trans (Cg.of_eq (by (first | lia | omega)))
/-- the invariant of curve_through: behind the places xs with the signs ss -/
structure CtI (p : Int) (xs ss : List Int) (st : List Int × List Int) : Prop where
  len1 : st.1.length = xs.length
  len2 : st.2.length = xs.length + 1
  has : ∀ (i : Nat) (x s : Int), xs[i]? = some x → ss[i]? = some s → Cg p (ev st.1 x) s
  nought : ∀ x ∈ xs, Cg p (ev st.2 x) 0
  other : ∀ x, (∀ y ∈ xs, ¬ Cg p (x - y) 0) → ¬ Cg p (ev st.2 x) 0
theorem CtI.start {p : Int} (F : Fld p) : CtI p [] [] ([], [1]) := by
  refine ⟨rfl, rfl, fun i x s h => by simp at h, fun x h => by simp at h, fun x _ h => ?_⟩
  have hp := F.two
  have e : ev [1] x = 1 := by simp [ev]
  rw [show (([], [1]) : List Int × List Int).2 = [1] from rfl, e] at h
  have := h.emod
  rw [Int.emod_eq_of_lt (by (first | lia | omega)) (by (first | lia | omega)), Int.zero_emod] at this
  (first | lia | omega)
theorem CtI.turn {p : Int} (F : Fld p) {xs ss : List Int} {st : List Int × List Int} {x s : Int} (I : CtI p xs ss st) (hl : xs.length = ss.length) (hd : ∀ y ∈ xs, ¬ Cg p (x - y) 0) :
    CtI p (xs ++ [x]) (ss ++ [s]) (ctTurn p st (x, s)) := by
  have l1 := I.len1
  have l2 := I.len2
  have hp := F.pos
  have nz := I.other x hd
  have h0 : 0 ≤ ev st.2 x % p := Int.emod_nonneg _ (by (first | lia | omega))
  have h1 : ev st.2 x % p < p := Int.emod_lt_of_pos _ hp
  have h2 : ev st.2 x % p ≠ 0 := fun z => nz ((Cg.mod p _).symm.trans (Cg.of_eq z))
  have hi := F.inv (ev st.2 x % p) (by (first | lia | omega)) h1
  have hlen : (st.1 ++ [0]).length = (scal p st.2 (((s - signAt p st.1 x) % p * inv p (signAt p st.2 x)) % p)).length := by rw [scal_len]; simp; (first | lia | omega)
  have evc : ∀ y, Cg p (ev (ctTurn p st (x, s)).1 y) (ev st.1 y + (((s - signAt p st.1 x) % p * inv p (signAt p st.2 x)) % p) * ev st.2 y) := fun y => by
    have a := sumC_ev (p := p) (st.1 ++ [0]) (scal p st.2 (((s - signAt p st.1 x) % p * inv p (signAt p st.2 x)) % p)) y hlen
    rw [ev_snoc0] at a
    exact a.trans ((Cg.refl p _).add (scal_ev st.2 _ y))
  have evn : ∀ y, Cg p (ev (ctTurn p st (x, s)).2 y) ((y - x) * ev st.2 y) := fun y => woN_ev st.2 x y
  refine ⟨?_, ?_, ?_, ?_, ?_⟩
  · show (sumC p (st.1 ++ [0]) _).length = _
    rw [sumC_len p _ _ hlen]; simp; (first | lia | omega)
  · show (woN p st.2 x).length = _
    rw [woN_len]; simp; (first | lia | omega)
  · intro i y t hy ht
    by_cases hlt : i < xs.length
    · have hy' : xs[i]? = some y := by rwa [List.getElem?_append_left hlt] at hy
      have ht' : ss[i]? = some t := by rwa [List.getElem?_append_left (by (first | lia | omega))] at ht
      have n0 := I.nought y (List.mem_of_getElem? hy')
      refine (evc y).trans (((I.has i y t hy' ht').add ((Cg.refl p _).mul n0)).trans (Cg.of_eq (by grind)))
    · by_cases he : i = xs.length
      · subst he
        have ey : y = x := by simpa [eq_comm] using hy
        have et : t = s := by rw [hl] at ht; simpa [eq_comm] using ht
        subst ey; subst et
        refine (evc y).trans ?_
        rw [signAt_ev, signAt_ev]
        have m1 : Cg p ((t - ev st.1 y % p) % p) (t - ev st.1 y) := (Cg.mod p _).trans ((Cg.refl p t).sub (Cg.mod p _))
        have m2 : Cg p (((t - ev st.1 y % p) % p * inv p (ev st.2 y % p)) % p * ev st.2 y) ((t - ev st.1 y) * (inv p (ev st.2 y % p) * (ev st.2 y % p))) := by
          refine (((Cg.mod p _).trans (m1.mul (Cg.refl p _))).mul (Cg.mod p (ev st.2 y)).symm).trans (Cg.of_eq ?_)
          grind
        have m3 := m2.trans ((Cg.refl p (t - ev st.1 y)).mul hi)
        exact ((Cg.refl p (ev st.1 y)).add m3).trans (Cg.of_eq (by grind))
      · have : (xs ++ [x])[i]? = none := List.getElem?_eq_none (by simp; (first | lia | omega))
        rw [this] at hy; cases hy
  · intro y hy
    refine (evn y).trans ?_
    rcases List.mem_append.mp hy with hy | hy
    · exact ((Cg.refl p _).mul (I.nought y hy)).trans (Cg.of_eq (by grind))
    · have : y = x := by simpa using hy
      subst this
      exact Cg.of_eq (by grind)
  · intro y hy h
    have h' := (evn y).symm.trans h
    have hyx : ¬ Cg p (y - x) 0 := hy x (by simp)
    exact I.other y (fun z hz => hy z (by simp [hz])) (F.zero h' hyx)
theorem ct_fold {p : Int} (F : Fld p) : ∀ (xs' ss' xs ss : List Int) (st : List Int × List Int), CtI p xs ss st → xs.length = ss.length → xs'.length = ss'.length → (xs ++ xs').Pairwise (fun a b => ¬ Cg p (b - a) 0) →
    CtI p (xs ++ xs') (ss ++ ss') ((xs'.zip ss').foldl (ctTurn p) st)
  | [], [], xs, ss, st, I, _, _, _ => by simpa using I
  | x :: xs', s :: ss', xs, ss, st, I, hl, hl', hd => by
    have hd' : ((xs ++ [x]) ++ xs').Pairwise (fun a b => ¬ Cg p (b - a) 0) := by simpa using hd
    have hx : ∀ y ∈ xs, ¬ Cg p (x - y) 0 := fun y hy => (List.pairwise_append.mp hd).2.2 y hy x (List.mem_cons_self ..)
    have := ct_fold F xs' ss' (xs ++ [x]) (ss ++ [s]) (ctTurn p st (x, s)) (I.turn F hl hx) (by simp [hl]) (by simpa using hl') hd'
    simpa using this
  | [], _ :: _, _, _, _, _, _, h, _ => by simp at h
  | _ :: _, [], _, _, _, _, _, h, _ => by simp at h
theorem ct_ok {p : Int} (F : Fld p) {xs ss : List Int} (hl : xs.length = ss.length) (hd : xs.Pairwise (fun a b => ¬ Cg p (b - a) 0)) :
    (ct p xs ss).length = xs.length ∧ ∀ (i : Nat) (x s : Int), xs[i]? = some x → ss[i]? = some s → Cg p (ev (ct p xs ss) x) s := by
  have I := ct_fold F xs ss [] [] ([], [1]) (CtI.start F) rfl hl (by simpa using hd)
  simp only [List.nil_append] at I
  exact ⟨I.len1, I.has⟩
/-- places 0 .. n - 1 are different where n is at most the prime -/
theorem range_apart {p : Int} {n : Nat} (h : (n : Int) ≤ p) : ((List.range n).map (fun (k : Nat) => (k : Int))).Pairwise (fun a b => ¬ Cg p (b - a) 0) := by
  rw [List.pairwise_map]
  have := List.pairwise_lt_range (n := n)
  refine (List.Pairwise.and_mem.mp this).imp ?_
  rintro a b ⟨ha, hb, hab⟩ hc
  have ha' := List.mem_range.mp ha
  have hb' := List.mem_range.mp hb
  have := hc.emod
  rw [Int.emod_eq_of_lt (by (first | lia | omega)) (by (first | lia | omega)), Int.zero_emod] at this
  (first | lia | omega)
end SM
namespace SM
def pts (p : Int) (c : List Int) (n : Nat) : List Int := (List.range n).map fun (k : Nat) => ev c (k : Int) % p
theorem along_pts (p : Int) (c : List Int) (n : Nat) : along p c n = pts p c n := by
  unfold along pts
  exact List.map_congr_left fun k _ => signAt_ev c k
theorem pts_len (p : Int) (c : List Int) (n : Nat) : (pts p c n).length = n := by simp [pts]
theorem pts_get {p : Int} {c : List Int} {n i : Nat} (h : i < n) : (pts p c n)[i]? = some (ev c (i : Int) % p) := by simp [pts, h]
theorem pts_take {p : Int} {c : List Int} {n m : Nat} (h : m ≤ n) : (pts p c n).take m = pts p c m := by
  unfold pts
  rw [← List.map_take, List.take_range, Nat.min_eq_left h]
theorem pts_mem {p : Int} (hp : 0 < p) {c : List Int} {n : Nat} : ∀ s ∈ pts p c n, 0 ≤ s ∧ s < p := fun s hs => by
  unfold pts at hs
  obtain ⟨k, _, rfl⟩ := List.mem_map.mp hs
  exact ⟨Int.emod_nonneg _ (by (first | lia | omega)), Int.emod_lt_of_pos _ hp⟩
abbrev rng (n : Nat) : List Int := (List.range n).map fun (k : Nat) => (k : Int)
theorem rng_get {n i : Nat} (h : i < n) : (rng n)[i]? = some (i : Int) := by simp [rng, h]
/-- the curve through a word -/
theorem word_curve {p : Int} (F : Fld p) {word : List Int} (hn : (word.length : Int) ≤ p) :
    (ct p (rng word.length) word).length = word.length ∧ ∀ (i : Nat) (s : Int), word[i]? = some s → Cg p (ev (ct p (rng word.length) word) (i : Int)) s := by
  have h := ct_ok F (xs := rng word.length) (ss := word) (by simp [rng]) (range_apart hn)
  refine ⟨by simpa [rng] using h.1, fun i s hs => h.2 i i s (rng_get ?_) hs⟩
  obtain ⟨hi, _⟩ := List.getElem?_eq_some_iff.mp hs
  exact hi
theorem lengthened_pts (p : Int) (word : List Int) (n : Nat) : lengthened p word n = pts p (ct p (rng word.length) word) n := along_pts ..
/-- the first signs of a curve, made longer, are the curve's -/
theorem lengthened_curve {p : Int} (F : Fld p) {c : List Int} {n : Nat} (hn : (c.length : Int) ≤ p) : lengthened p (pts p c c.length) n = pts p c n := by
  have hl : (pts p c c.length).length = c.length := pts_len ..
  have h := word_curve F (word := pts p c c.length) (by rw [hl]; exact hn)
  rw [lengthened_pts]
  have hx : ((rng (pts p c c.length).length)).length = (ct p (rng (pts p c c.length).length) (pts p c c.length)).length := by rw [h.1]; simp [rng]
  have all := same_curve F (a := ct p (rng (pts p c c.length).length) (pts p c c.length)) (b := c) (by rw [h.1, hl]) hx (range_apart (by rw [hl]; exact hn)) fun x hx' => by
    obtain ⟨k, hk, rfl⟩ := List.mem_map.mp hx'
    have hk' : k < c.length := by rw [hl] at hk; exact List.mem_range.mp hk
    exact (h.2 k _ (pts_get hk')).trans (Cg.mod p _)
  unfold pts
  exact List.map_congr_left fun k _ => (all k).emod
/-- a made word begins with its word -/
theorem lengthened_take {p : Int} (F : Fld p) {word : List Int} {n : Nat} (hw : ∀ s ∈ word, 0 ≤ s ∧ s < p) (hn : (word.length : Int) ≤ p) (hl : word.length ≤ n) : (lengthened p word n).take word.length = word := by
  have h := word_curve F hn
  rw [lengthened_pts, pts_take hl]
  refine List.ext_getElem? fun i => ?_
  by_cases hi : i < word.length
  · rw [pts_get hi]
    have e : word[i]? = some word[i] := List.getElem?_eq_getElem hi
    rw [e]
    have c := (h.2 i _ e).emod
    have b := hw word[i] (List.getElem_mem hi)
    rw [Int.emod_eq_of_lt b.1 b.2] at c
    rw [c]
  · rw [List.getElem?_eq_none (by rw [pts_len]; (first | lia | omega)), List.getElem?_eq_none (by (first | lia | omega))]
def DD (f : Nat → Int) : Nat → Int := fun i => f (i + 1) - f i
def DN : Nat → (Nat → Int) → Nat → Int
  | 0, f => f
  | n + 1, f => DD (DN n f)
theorem DN_succ : ∀ (n : Nat) (f : Nat → Int), DN (n + 1) f = DN n (DD f)
  | 0, _ => rfl
  | n + 1, f => by
    show DD (DN (n + 1) f) = DD (DN n (DD f))
    rw [DN_succ n f]
theorem DN_cg {p : Int} : ∀ (n : Nat) (f g : Nat → Int) (i : Nat), (∀ j, j ≤ i + n → Cg p (f j) (g j)) → Cg p (DN n f i) (DN n g i)
  | 0, _, _, i, h => h i (by (first | lia | omega))
  | n + 1, f, g, i, h => (DN_cg n f g (i + 1) fun j hj => h j (by (first | lia | omega))).sub (DN_cg n f g i fun j hj => h j (by (first | lia | omega)))
theorem addC_ev : ∀ (a b : List Int) (x : Int), a.length = b.length → ev (List.zipWith (· + ·) a b) x = ev a x + ev b x
  | [], [], _, _ => by simp [ev]
  | a :: as, b :: bs, x, h => by
    show ev (List.zipWith (· + ·) as bs) x * x + (a + b) = (ev as x * x + a) + (ev bs x * x + b)
    rw [addC_ev as bs x (by simpa using h)]; grind
  | [], _ :: _, _, h => by simp at h
  | _ :: _, [], _, h => by simp at h
theorem polyD : ∀ (c : List Int) (n : Nat), c.length = n + 1 → ∃ d : List Int, d.length = n ∧ ∀ x, ev d x = ev c (x + 1) - ev c x
  | [], n, h => by simp at h
  | [a], n, h => ⟨[], by simp at h; simp [h], fun x => by simp [ev]⟩
  | a :: b :: c, n, h => by
    have hn : (b :: c).length = n := by simpa using h
    obtain ⟨m, rfl⟩ : ∃ m, n = m + 1 := ⟨c.length, by simpa using hn.symm⟩
    obtain ⟨d, hd, e⟩ := polyD (b :: c) m hn
    have hm : c.length = m := by simpa using hn
    refine ⟨List.zipWith (· + ·) (List.zipWith (· + ·) (0 :: d) (d ++ [0])) (b :: c), by simp [hd, hm], fun x => ?_⟩
    rw [addC_ev _ _ x (by simp [hd, hm]), addC_ev _ _ x (by simp), ev_cons, ev_snoc0, e x, ev_cons a (b :: c) (x + 1), ev_cons a (b :: c) x]
    grind
theorem polyDN : ∀ (n : Nat) (c : List Int) (i : Nat), c.length = n → DN n (fun j => ev c (j : Int)) i = 0
  | 0, c, i, h => by
    have : c = [] := List.length_eq_zero_iff.mp h
    subst this; rfl
  | n + 1, c, i, h => by
    obtain ⟨d, hd, e⟩ := polyD c n h
    rw [DN_succ]
    have : DD (fun j => ev c (j : Int)) = fun (j : Nat) => ev d (j : Int) := by
      funext j
      show ev c ((j + 1 : Nat) : Int) - ev c (j : Int) = _
      rw [e]; simp
    rw [this]
    exact polyDN n d i hd
def dif (p : Int) (row : List Int) : List Int := (List.range (row.length - 1)).map fun (k : Nat) => (row.getD (k + 1) 0 - row.getD k 0) % p
def difN (p : Int) (row : List Int) : Nat → List Int
  | 0 => row
  | n + 1 => dif p (difN p row n)
def ptGo (x : Int) : List Int → Int × Int → Int × Int
  | [], s => s
  | a :: c, s => ptGo x c (s.1 + a * s.2, s.2 * x)
theorem ptGo_ev (x : Int) : ∀ (c : List Int) (s : Int × Int), (ptGo x c s).1 = s.1 + s.2 * ev c x
  | [], s => by simp [ptGo, ev]
  | a :: c, s => by
    show (ptGo x c (s.1 + a * s.2, s.2 * x)).1 = _
    rw [ptGo_ev x c]
    show s.1 + a * s.2 + s.2 * x * ev c x = s.1 + s.2 * (ev c x * x + a)
    grind
def apartN (a b : List Int) : Nat := ((a.zip b).filter fun q => q.1 != q.2).length
theorem zip_filter_len {f g : Nat → Int} : ∀ (l : List Nat), (((l.map f).zip (l.map g)).filter fun q => q.1 != q.2).length + (l.filter fun k => f k == g k).length = l.length
  | [] => rfl
  | k :: l => by
    have ih := zip_filter_len (f := f) (g := g) l
    simp only [List.map_cons, List.zip_cons_cons, List.filter_cons, List.length_cons]
    by_cases h : f k = g k
    · simp [h]; (first | lia | omega)
    · simp [h]; (first | lia | omega)
theorem far_apart {p : Int} (F : Fld p) {a b : List Int} {L : Nat} (hab : a.length = b.length) (hL : (L : Int) ≤ p) (hne : pts p a L ≠ pts p b L) : L < apartN (pts p a L) (pts p b L) + a.length := by
  have e := zip_filter_len (f := fun k => ev a (k : Int) % p) (g := fun k => ev b (k : Int) % p) (List.range L)
  rw [List.length_range] at e
  have e' : apartN (pts p a L) (pts p b L) + ((List.range L).filter fun (k : Nat) => ev a (k : Int) % p == ev b (k : Int) % p).length = L := e
  refine Nat.lt_of_not_le fun hle => hne ?_
  have hlen : a.length ≤ ((List.range L).filter fun (k : Nat) => ev a (k : Int) % p == ev b (k : Int) % p).length := by (first | lia | omega)
  generalize hxs : ((List.range L).filter fun (k : Nat) => ev a (k : Int) % p == ev b (k : Int) % p) = xs at hlen
  have hpw : (rng L).Pairwise (fun a b => ¬ Cg p (b - a) 0) := range_apart hL
  have hsub : (xs.take a.length).map (fun (k : Nat) => (k : Int)) |>.Pairwise (fun a b => ¬ Cg p (b - a) 0) := by
    refine hpw.sublist ?_
    refine List.Sublist.map _ ((List.take_sublist _ _).trans ?_)
    rw [← hxs]; exact List.filter_sublist
  have all := same_curve F (a := a) (b := b) (xs := (xs.take a.length).map (fun (k : Nat) => (k : Int))) hab (by simp; (first | lia | omega)) hsub fun x hx => by
    obtain ⟨k, hk, rfl⟩ := List.mem_map.mp hx
    have hk' := List.mem_of_mem_take hk
    rw [← hxs] at hk'
    have := (List.mem_filter.mp hk').2
    exact Cg.of_emod (by simpa using this)
  unfold pts
  exact List.map_congr_left fun k _ => (all k).emod
theorem powGo_fuel {p : Int} : ∀ (f g : Nat) (r q : Int) (n : Nat), n < 2 ^ f → n < 2 ^ g → powGo p f r q n = powGo p g r q n
  | 0, 0, _, _, _, _, _ => rfl
  | 0, g + 1, r, q, n, h, _ => by
    have : n = 0 := by simpa using h
    subst this; simp [powGo]
  | f + 1, 0, r, q, n, _, h => by
    have : n = 0 := by simpa using h
    subst this; simp [powGo]
  | f + 1, g + 1, r, q, n, h, h' => by
    show (if n = 0 then r else _) = (if n = 0 then r else _)
    by_cases hn : n = 0
    · rw [if_pos hn, if_pos hn]
    · rw [if_neg hn, if_neg hn]
      exact powGo_fuel f g _ _ _ (by rw [Nat.pow_succ] at h; (first | lia | omega)) (by rw [Nat.pow_succ] at h'; (first | lia | omega))
def powN (p : Nat) : Nat → Nat → Nat → Nat → Nat
  | 0, r, _, _ => r
  | f + 1, r, q, n => bif n.beq 0 then r else powN p f (bif (n % 2).beq 1 then (r * q) % p else r) ((q * q) % p) (n / 2)
theorem powN_eq (p : Nat) : ∀ (f r q n : Nat), powGo (p : Int) f (r : Int) (q : Int) n = ((powN p f r q n : Nat) : Int)
  | 0, _, _, _ => rfl
  | f + 1, r, q, n => by
    show (if n = 0 then (r : Int) else powGo p f (if n % 2 = 1 then ((r : Int) * q) % p else r) (((q : Int) * q) % p) (n / 2)) = _
    unfold powN
    by_cases hn : n = 0
    · subst hn; rfl
    · have hb : (n.beq 0) = false := by
        cases h : n.beq 0 with
        | false => rfl
        | true => exact absurd (Nat.eq_of_beq_eq_true h) hn
      rw [if_neg hn, hb, cond_false]
      by_cases h2 : n % 2 = 1
      · have hb2 : (n % 2).beq 1 = true := by rw [h2]; rfl
        rw [if_pos h2, hb2, cond_true]
        exact powN_eq p f ((r * q) % p) ((q * q) % p) (n / 2)
      · have hb2 : (n % 2).beq 1 = false := by
          cases h : (n % 2).beq 1 with
          | false => rfl
          | true => exact absurd (Nat.eq_of_beq_eq_true h) h2
        rw [if_neg h2, hb2, cond_false]
        exact powN_eq p f r ((q * q) % p) (n / 2)
def allB (f : Nat → Bool) : Nat → Bool
  | 0 => true
  | n + 1 => f n && allB f n
theorem allB_get {f : Nat → Bool} : ∀ {n : Nat}, allB f n = true → ∀ k, k < n → f k = true
  | n + 1, h, k, hk => by
    have h' : (f n && allB f n) = true := h
    rw [Bool.and_eq_true] at h'
    by_cases e : k = n
    · subst e; exact h'.1
    · exact allB_get h'.2 k (by (first | lia | omega))
def fldB (p : Nat) : Bool := allB (fun a => a.beq 0 || ((powN p 10 1 a (p - 2) * a) % p).beq 1) p
theorem fld_of {p : Nat} (h2 : 2 ≤ p) (hb : p ≤ 1000) (h : fldB p = true) : Fld (p : Int) := by
  refine ⟨by (first | lia | omega), fun a a0 a1 => ?_⟩
  obtain ⟨k, rfl⟩ : ∃ k : Nat, a = (k : Int) := ⟨a.toNat, by (first | lia | omega)⟩
  have q := allB_get h k (by (first | lia | omega))
  have hk : (k.beq 0) = false := by
    cases e : k.beq 0 with
    | false => rfl
    | true => have := Nat.eq_of_beq_eq_true e; (first | lia | omega)
  rw [hk, Bool.false_or] at q
  have q := Nat.eq_of_beq_eq_true q
  have e : SM.inv (p : Int) (k : Int) = ((powN p 10 1 k (p - 2) : Nat) : Int) := by
    unfold SM.inv SM.pow
    have e1 : ((p : Int) - 2).toNat = p - 2 := by (first | lia | omega)
    rw [e1, powGo_fuel (p - 2 + 1) 10 1 (k : Int) (p - 2) (Nat.lt_trans (by (first | lia | omega)) (Nat.lt_two_pow_self (n := p - 2 + 1))) (by (first | lia | omega))]
    exact powN_eq p 10 1 k (p - 2)
  rw [e]
  refine Cg.of_emod ?_
  have q' : (((powN p 10 1 k (p - 2) * k) % p : Nat) : Int) = ((1 : Nat) : Int) := congrArg _ q
  rw [Int.natCast_emod, Int.natCast_mul] at q'
  rw [q', Int.emod_eq_of_lt (by (first | lia | omega)) (by (first | lia | omega))]
  rfl
/-- no number from 2 to 20 that is less divides it -/
def noDiv (q : Nat) : Bool := allB (fun d => !((d + 2).blt q && (q % (d + 2)).beq 0)) 19
theorem all_fld : allB (fun q => !(noDiv (q + 2)) || fldB (q + 2)) 408 = true := by decide +kernel
theorem fld_997 : fldB 997 = true := by decide +kernel
end SM
namespace SM
end SM
namespace SM
end SM
namespace SM
abbrev Kp := List (Nat × List Int)
def fresh (p : Int) (rest : List Int) (l : Nat) : List Int := scal p rest (inv p (rest.getD l 0))
end SM
namespace SM
end SM
namespace SM
end SM
namespace SM
end SM
namespace SM
end SM
namespace SM
end SM
namespace L3
open PySem PySem.Spec L2
open PyProof.Rows hiding St
theorem ints_of : ∀ {ns : List Int} {us : List Value}, Vals (ns.map V.int) us → IntsAre us ns
  | [], _, r => by cases r; exact .nil
  | n :: ns, _, r => by
    cases r with
    | cons a b =>
      obtain ⟨t, rfl⟩ := a
      exact .cons n t (ints_of b)
def rEqL (K : PySem.W.Frag) : R2 := fun x y H Q => ∃ a b ns ms, x = .ref a ∧ y = .ref b ∧ SqL K H a (List.map V.int ns) ∧ SqL K H b (List.map V.int ms) ∧ Q (.bl (decide (ns = ms))) H
def rNeL (K : PySem.W.Frag) : R2 := fun x y H Q => ∃ a b ns ms, x = .ref a ∧ y = .ref b ∧ SqL K H a (List.map V.int ns) ∧ SqL K H b (List.map V.int ms) ∧ Q (.bl (!decide (ns = ms))) H
section
variable {X : Cx}
theorem op_eqL (hu : X.A.units + 64 < cLine) : OpR X (compareOp .Eq) (rEqL X.K) := by
  intro pins s σ H x y v u Q I rx ry h
  obtain ⟨a, b, ns, ms, rfl, rfl, h1, h2, q⟩ := h
  cases rx; cases ry
  obtain ⟨i1, r1, p1, _⟩ := I.list h1
  obtain ⟨i2, r2, p2, _⟩ := I.list h2
  exact PySem.W.ke_eq_ints p1.isList p2.isList (ints_of r1) (ints_of r2) hu ⟨.bl _, H, I, rfl, q⟩
theorem op_neL (hu : X.A.units + 64 < cLine) : OpR X (compareOp .NotEq) (rNeL X.K) := by
  intro pins s σ H x y v u Q I rx ry h
  obtain ⟨a, b, ns, ms, rfl, rfl, h1, h2, q⟩ := h
  cases rx; cases ry
  obtain ⟨i1, r1, p1, _⟩ := I.list h1
  obtain ⟨i2, r2, p2, _⟩ := I.list h2
  exact PySem.W.ke_ne_ints p1.isList p2.isList (ints_of r1) (ints_of r2) hu ⟨.bl _, H, I, rfl, q⟩
theorem call_rangeV : CallR X (.type "range") (fun xs H Q => ∃ j : Int, xs = [.int j] ∧ ∀ p, H p = none → Q (.ref p) (upd H p (.rng 0 j))) := by
  intro pins s σ H xs us Q I r h
  obtain ⟨j, rfl, q⟩ := h
  obtain ⟨u, rfl, t, rfl⟩ := vals1 r
  refine call_range_1 ⟨.ref _, upd H s.heap.objs.size (.rng 0 j), ?_, rfl, q _ I.fresh⟩
  exact I.laid (fun b o e => Heap.get?_push_of_some _ e) (Nat.le_refl _) ⟨_, _, _, Heap.get?_push_size _ rfl⟩
def rngV (lo : Int) (n : Nat) : List V := (List.range n).map fun (k : Nat) => V.int (lo + (k : Int))
theorem vals_items {P : Nat → Value → Prop} {f : Nat → V} (hf : ∀ i v, P i v → RelV (f i) v) : ∀ (l : List Value) (k n : Nat), l.length = n → (∀ (j : Nat) (v : Value), l[j]? = some v → P (k + j) v) → Vals ((List.range n).map fun i => f (k + i)) l
  | [], k, n, h, _ => by
    have : n = 0 := by simpa using h.symm
    subst this; exact .nil
  | v :: l, k, n, h, hP => by
    obtain ⟨m, rfl⟩ : ∃ m, n = m + 1 := ⟨l.length, by simpa using h.symm⟩
    rw [List.range_succ_eq_map, List.map_cons, List.map_map]
    refine .cons (hf _ _ (hP 0 v rfl)) ?_
    have ih := vals_items hf l (k + 1) m (by simpa using h) fun j u hj => by
      have := hP (j + 1) u (by simpa using hj)
      rwa [show k + (j + 1) = k + 1 + j by (first | lia | omega)] at this
    have e : ((fun i => f (k + i)) ∘ Nat.succ) = fun i => f (k + 1 + i) := by
      funext i; show f (k + (i + 1)) = f (k + 1 + i); rw [show k + (i + 1) = k + 1 + i by (first | lia | omega)]
    rw [e]; exact ih
theorem call_list_rng (hc : X.calm = true) : CallR X (.type "list") (fun xs H Q => ∃ (p : Addr) (lo hi : Int), xs = [.ref p] ∧ H p = some (.rng lo hi) ∧ (-(2 ^ 62) ≤ lo ∧ lo < 2 ^ 62 ∧ -(2 ^ 62) ≤ hi ∧ hi < 2 ^ 62) ∧ (hi - lo).toNat ≤ sizeLine ∧ (hi - lo).toNat ≤ 2 ^ 24 ∧
    ∀ l, H l = none → Q (.ref l) (upd H l (.lst (rngV lo (hi - lo).toNat)))) := by
  intro pins s σ H xs us Q I r h
  obtain ⟨p, lo, hi, rfl, hp, ⟨b1, b2, b3, b4⟩, hz, hz2, q⟩ := h
  obtain ⟨u, rfl, rx⟩ := vals1 r
  cases rx
  obtain ⟨t1, t2, t3, e⟩ := I.hok p _ hp
  refine call_list_range (I.ok.hd hc) (show IsRange s.heap p lo hi 1 t1 t2 t3 from e) (small_one b1 b2 b3 b4) (n := (hi - lo).toNat) (by rw [rangeSize_one]; split <;> (first | lia | omega)) hz2 fun h' tk acc c hk ho hi' => ?_
  refine ⟨.ref _, upd H s.heap.objs.size (.lst (rngV lo (hi - lo).toNat)), I.laid (t' := tk) hk (Nat.le_refl _) ⟨by simpa [rngV] using hz, acc.toList, c, ?_, by simpa using ho⟩, rfl, q _ I.fresh⟩
  have := vals_items (P := fun i v => ∃ t, v = Value.int (lo + i * 1) t) (f := fun i => V.int (lo + (i : Int))) (fun i v ⟨t, e⟩ => ⟨t, by rw [e, Int.mul_one]⟩) acc.toList 0 (hi - lo).toNat (by simpa using hi'.1) fun j v hj => by
    have := hi'.2 j v (by simpa using hj)
    simpa using this
  simpa [rngV] using this
theorem call_isin : CallR X (.builtin "isinstance") (fun xs H Q => ∃ x n t b, xs = [x, .ty n] ∧ TyOf X.K H x t ∧ PySem.W.kitOne X.K t (.type n) = some b ∧ Q (.bl b) H) := by
  intro pins s σ H xs us Q I r h
  obtain ⟨x, n, t, b, rfl, ty, e, q⟩ := h
  obtain ⟨u, c, rfl, rx, rc⟩ := vals2 r
  cases rc
  exact isinst_ok I rx ty e fun tk => ⟨.bl b, H, I.tok _, rfl, q⟩
end
def Itv (K : PySem.W.Frag) (a : Addr) (n : Nat) : It :=
  ⟨fun i H => ∃ xs, SqL K H a xs ∧ xs.length = n ∧ i < n, fun i H x H' => H' = H ∧ ∀ xs, SqL K H a xs → xs[n - 1 - i]? = some x, fun i _ => n ≤ i⟩
theorem turn_rev {P : Program} {w : World} {K : PySem.W.Frag} {tg : Expr} (a it : Addr) (n : Nat) : Turn P w K tg (Itv K a n) [it] it (fun i h => i ≤ n ∧ h.IsRevIter it a ((n : Int) - 1 - (i : Int))) where
  mem := by simp
  obj := fun i h st b hb => by
    obtain rfl : b = it := by simpa using hb
    obtain ⟨_, o, e, c, d⟩ := st
    exact ⟨o, e, fun v z => by rw [d] at z; cases z⟩
  keep := fun i h h' st k => ⟨st.1, st.2.at fun o e => k it (by simp) o e⟩
  item := by
    intro X hP hw hK hc i pins s σ H E I hf st hg
    subst hP hw hK
    obtain ⟨xs, hq, hl, hi⟩ := hg
    obtain ⟨its, rv, p, hz⟩ := I.list hq
    have hlen := rv.length
    have hx : xs[n - 1 - i]? = some (xs[n - 1 - i]'(by (first | lia | omega))) := List.getElem?_eq_getElem _
    obtain ⟨u, hu, ru⟩ := rv.get hx
    obtain ⟨f0, f1, f2, f3, f4, f5⟩ := hf it (by simp)
    have e : (n : Int) - 1 - (i : Int) = ((n - 1 - i : Nat) : Int) := by (first | lia | omega)
    have st2 := st.2
    rw [e] at st2
    refine wpAny_pyNext_rev_item st2 p.isList (x := u) (by simpa using hu) fun h' st' sb => ?_
    have I1 : Inv X pins σ H { s with heap := h' } := I.turned (t' := s.toks) (fun b o hb e => (sb.2 b hb).trans e) f0 f1 f3 f4 f5
    have e2 : ((n - 1 - i : Nat) : Int) - 1 = (n : Int) - 1 - ((i + 1 : Nat) : Int) := by (first | lia | omega)
    rw [e2] at st'
    obtain ⟨o, eo, c, d⟩ := id st'
    exact ⟨u, rfl, go_of (s := { s with heap := h' }) eo c d (by decide) ⟨_, H, I1, ru, ⟨rfl, fun ys hy => by rw [I.list_inj hy hq]; exact hx⟩, ⟨by (first | lia | omega), st'⟩, fun b hb => (hf b hb).1⟩⟩
  done := by
    intro X hP hw hK hc i pins s σ H E I hf st hg
    subst hP hw hK
    obtain ⟨f0, f1, f2, f3, f4, f5⟩ := hf it (by simp)
    have hni : n ≤ i := hg
    have e : (n : Int) - 1 - (i : Int) = -1 := by have := st.1; (first | lia | omega)
    have st2 := st.2
    rw [e] at st2
    exact wpAny_pyNext_rev_end (I.ok.hd hc) st2 fun h' eb => ⟨rfl, I.turned (t' := s.toks) (fun b o hb e => eb b o hb e) f0 f1 f3 f4 f5⟩
  self := fun _ _ _ _ _ st h => wpAny_pyIter_revIter st.2 h
section
variable {X : Cx} {tg : Expr}
def iRev (K : PySem.W.Frag) (ta : TA) : TI := fun σ H R => ta σ H fun vs H1 => ∃ a xs, vs = [.ref a] ∧ SqL K H1 a xs ∧ R (Itv K a xs.length) H1
theorem pi_rev {a : Expr} {ta : TA} {p pos : Pos} (hg : Gl X "reversed") (hm : X.mg "reversed" = none) (ha : PA X [a] ta) (hs : starEach [a] X.env = [(false, eval a X.env)] := by rfl) : PI X tg (.Call (.Name "reversed" p) [a] [] pos) (iRev X.K ta) := by
  intro pins s σ H R I h
  refine Call_ (ld_blt I hg hm boot_reversed (PyProof.Rows.callWith_type1 (thn (ha pos pins s σ H _ I h) fun us s1 ⟨vs, H1, I1, r1, q1⟩ => ?_) hs rfl))
  obtain ⟨l, xs, rfl, hq, q⟩ := q1
  obtain ⟨u, rfl, rx⟩ := vals1 r1
  cases rx
  obtain ⟨its, rv, pl, hz⟩ := I1.list hq
  have hlen := rv.length
  refine call_reversed_list pl.isList ?_
  have I2 : Inv X pins σ H1 { s1 with heap := s1.heap.push (revObj l ((its.toArray.size : Int) - 1)) } := I1.kept (t' := s1.toks) fun b o e => Heap.get?_push_of_some _ e
  have it0 : (s1.heap.push (revObj l ((its.toArray.size : Int) - 1))).IsRevIter s1.heap.objs.size l ((xs.length : Int) - 1 - ((0 : Nat) : Int)) :=
    ⟨_, Heap.get?_push_size _ rfl, rfl, by simp [revObj, hlen]⟩
  refine wpAny_pyIter_revIter it0 ?_
  refine ⟨s1.heap.objs.size, [s1.heap.objs.size], _, _, H1, rfl, I2, turn_rev l _ xs.length, ⟨Nat.zero_le _, it0⟩, fun b hb => ?_, q⟩
  obtain rfl : b = s1.heap.objs.size := by simpa using hb
  exact I1.fpOk (Nat.le_refl _) (I1.hok.fresh (Nat.le_refl _))
end
theorem for_rev {K : PySem.W.Frag} {a : Addr} {xs : List V} {g : TG} {tb : TS} {D : Ends} {σ : St} {H : Hp} (Pv : Nat → St → Hp → Prop) (h0 : Pv 0 σ H) (hl : ∀ i σ H, i ≤ xs.length → Pv i σ H → SqL K H a xs)
    (hs : ∀ i x σ H, i < xs.length → xs[xs.length - 1 - i]? = some x → Pv i σ H → g x σ H fun σ2 H2 => tb { D with nx := Pv (i + 1), ct := Pv (i + 1), bk := D.nx } σ2 H2) (hd : ∀ σ H, Pv xs.length σ H → D.nx σ H) :
    ∃ W : Nat → Nat → St → Hp → Prop, (∃ m, W 0 m σ H) ∧ ∀ i m σ H, W i m σ H →
      ((Itv K a xs.length).stop i H ∧ D.nx σ H) ∨ ((Itv K a xs.length).go i H ∧ ∃ N : St → Hp → Prop, (∀ σ' H', N σ' H' → ∃ m', m' < m ∧ W (i + 1) m' σ' H') ∧ ∀ x H', (Itv K a xs.length).yld i H x H' → g x σ H' fun σ2 H2 => tb { D with nx := N, ct := N, bk := D.nx } σ2 H2) := by
  refine ⟨fun i m σ H => m = xs.length - i ∧ i ≤ xs.length ∧ Pv i σ H, ⟨xs.length, by simp, Nat.zero_le _, h0⟩, ?_⟩
  rintro i m σ H ⟨rfl, hi, p⟩
  have q := hl i σ H hi p
  by_cases hlt : i < xs.length
  · refine .inr ⟨⟨xs, q, rfl, hlt⟩, Pv (i + 1), fun σ' H' p' => ⟨xs.length - (i + 1), by (first | lia | omega), rfl, hlt, p'⟩, fun x H' y => ?_⟩
    obtain ⟨e, y⟩ := y
    subst e
    exact hs i x σ _ hlt (y xs q) p
  · have e : i = xs.length := by (first | lia | omega)
    subst e
    exact .inl ⟨Nat.le_refl _, hd σ H p⟩
section
variable {X : Cx} {pins : List (Addr × Obj)} {σ : St} {H : Hp} {s : Shared} {h' : Heap} {ch : List Addr}
theorem fp_step (hf : ∀ b ∈ ch, FpOk X pins H b) : ∀ b ∈ ch, (b ∈ X.ex ∨ X.s₀.heap.objs.size ≤ b) ∧ b ≠ X.env.locals ∧ (∀ x c, X.env.cells.lookup x = some c → c ≠ b) ∧ ∀ p ∈ X.pn ++ pins, p.1 ≠ b := fun b hb =>
  let ⟨_, f1, _, f3, f4, f5⟩ := hf b hb
  ⟨f3, f1, f4, f5⟩
theorem inv_turnN {t' : Nat} (I : Inv X pins σ H s) (hf : ∀ b ∈ ch, FpOk X pins H b) (kk : ∀ b o, b ∉ ch → s.heap.get? b = some o → h'.get? b = some o) : Inv X pins σ H { s with heap := h', toks := t' } := by
  have nit : ∀ b u, H b = some u → b ∉ ch := fun b u e hb => by rw [(hf b hb).1] at e; cases e
  refine I.step (g' := s.gens) (d' := s.drawn) (ch := ch) (fp_step hf) (fun b o _ _ hc e _ => kk b o hc e) (fun b o _ _ hc e _ => ⟨o.slots, kk b o hc e⟩) (fun _ _ _ _ n => n)
    (fun b o hc e => ⟨o, kk b o hc e⟩) (fun _ _ e => e) (fun _ _ _ e => e) (fun b ps e => ⟨#[], by rw [e]; simp⟩) (fun m hm => ?_) (fun b ob e => ?_) I.bare
  · obtain ⟨o, es, ep, ho, r⟩ := hm
    exact ⟨o, es, ep, kk _ o (fun hb => (hf _ hb).2.1 rfl) ho, r⟩
  · refine (I.hok b ob e).stay (fun c v hc q => kk c v ?_ q) (fun _ q => q) fun _ _ q => q
    rcases hc with rfl | hc
    · exact nit _ _ e
    · exact nit _ _ hc
theorem inv_turnLaid {t' : Nat} {T : Addr} {o : HO} (I : Inv X pins σ H s) (hf : ∀ b ∈ ch, FpOk X pins H b) (kk : ∀ b o, b ∉ ch → s.heap.get? b = some o → h'.get? b = some o) (hT : s.heap.objs.size ≤ T)
    (new : ObjOk X.prog X.w (upd H T o) h' T o) : Inv X pins σ (upd H T o) { s with heap := h', toks := t' } := by
  have nit : ∀ b u, H b = some u → b ∉ ch := fun b u e hb => by rw [(hf b hb).1] at e; cases e
  have hn : H T = none := I.hok.fresh hT
  have lt : ∀ {b u}, s.heap.get? b = some u → b ≠ T := fun e => Nat.ne_of_lt (Nat.lt_of_lt_of_le (Heap.lt_size e) hT)
  refine I.step (g' := s.gens) (d' := s.drawn) (ch := ch) (fp_step hf) (fun b o _ _ hc e _ => kk b o hc e) (fun b o _ _ hc e _ => ⟨o.slots, kk b o hc e⟩) (fun b o _ e n => by rw [upd_ne (lt e)]; exact n)
    (fun b o hc e => ⟨o, kk b o hc e⟩) (fun b zs e => by rw [upd_ne (ne_of_none e hn)]; exact e) (fun b ob zs e => by rw [upd_ne (ne_of_none e hn)]; exact e) (fun b ps e => ⟨#[], by rw [upd_ne (ne_of_none e hn), e]; simp⟩) (fun m hm => ?_) (fun b ob e => ?_) I.bare
  · obtain ⟨o, es, ep, ho, r⟩ := hm
    exact ⟨o, es, ep, kk _ o (fun hb => (hf _ hb).2.1 rfl) ho, r⟩
  · by_cases hb : b = T
    · subst hb
      rw [upd_same] at e; cases e
      exact new
    · rw [upd_ne hb] at e
      refine (I.hok b ob e).stay (fun c v hc q => kk c v ?_ q) (fun c q => by rw [upd_ne (ne_of_none q hn)]; exact q) fun c zs q => by rw [upd_ne (ne_of_none q hn)]; exact q
      rcases hc with rfl | hc
      · exact nit _ _ e
      · exact nit _ _ hc
end
def Itz (K : PySem.W.Frag) (a b : Addr) (n : Nat) : It :=
  ⟨fun i H => ∃ xs ys, SqL K H a xs ∧ SqL K H b ys ∧ min xs.length ys.length = n ∧ i < n,
   fun i H x H' => ∃ p u v, x = .ref p ∧ H p = none ∧ H' = upd H p (.tup [u, v]) ∧ (∀ xs, SqL K H a xs → xs[i]? = some u) ∧ ∀ ys, SqL K H b ys → ys[i]? = some v,
   fun i H => n ≤ i ∧ ∃ xs ys, SqL K H a xs ∧ SqL K H b ys ∧ min xs.length ys.length = n⟩
def zSt (z TI TO i1 i2 l1 l2 : Addr) (n : Nat) (i : Nat) (h : Heap) : Prop :=
  i ≤ n ∧ IsZip h z TI TO .none ∧ IsPair h TI (.ref i1) (.ref i2) ∧ (∃ a b, IsPair h TO a b) ∧ h.IsListIter i1 l1 i ∧ h.IsListIter i2 l2 i
theorem turn_zip {P : Program} {w : World} {K : PySem.W.Frag} {es : List Expr} {kt : Nat} {pt : Pos} {z TI TO i1 i2 l1 l2 : Addr} (n : Nat) (D : ZipApart z TI TO i1 i2 l1 l2) :
    Turn P w K (.Tuple es kt pt) (Itz K l1 l2 n) [z, TI, TO, i1, i2] z (zSt z TI TO i1 i2 l1 l2 n) where
  mem := by simp
  obj := fun i h st b hb => by
    obtain ⟨_, hz, hTI, ⟨a, c, hTO⟩, h1, h2⟩ := st
    simp only [List.mem_cons, List.not_mem_nil, or_false] at hb
    have nf : ∀ {vs : Array Value} {v : Option Value}, Data.fields vs ≠ Data.cell v := fun q => nomatch q
    have ns : ∀ {vs : Array Value} {k : Nat} {v : Option Value}, Data.seq vs k ≠ Data.cell v := fun q => nomatch q
    rcases hb with rfl | rfl | rfl | rfl | rfl
    · exact ⟨_, hz, fun v => nf⟩
    · exact ⟨_, hTI, fun v => ns⟩
    · exact ⟨_, hTO, fun v => ns⟩
    · obtain ⟨o, e, _, d⟩ := h1
      exact ⟨o, e, fun v => by rw [d]; exact nf⟩
    · obtain ⟨o, e, _, d⟩ := h2
      exact ⟨o, e, fun v => by rw [d]; exact nf⟩
  keep := fun i h h' st k => by
    obtain ⟨hn, hz, hTI, ⟨a, c, hTO⟩, h1, h2⟩ := st
    exact ⟨hn, k z (by simp) _ hz, k TI (by simp) _ hTI, ⟨a, c, k TO (by simp) _ hTO⟩, h1.at fun o e => k i1 (by simp) o e, h2.at fun o e => k i2 (by simp) o e⟩
  item := by
    intro X hP hw hK hc i pins s σ H E I hf st hg
    subst hP hw hK
    obtain ⟨xs, ys, hx, hy, hl, hi⟩ := hg
    obtain ⟨ix, rx, px, _⟩ := I.list hx
    obtain ⟨iy, ry, py, _⟩ := I.list hy
    have gx : xs[i]? = some (xs[i]'(by (first | lia | omega))) := List.getElem?_eq_getElem _
    have gy : ys[i]? = some (ys[i]'(by (first | lia | omega))) := List.getElem?_eq_getElem _
    generalize xs[i]'(by (first | lia | omega)) = xi at gx
    generalize ys[i]'(by (first | lia | omega)) = yi at gy
    obtain ⟨u, hu, ru⟩ := rx.get gx
    obtain ⟨v, hv, rv⟩ := ry.get gy
    obtain ⟨_, hz, hTI, ⟨a, c, hTO⟩, h1, h2⟩ := st
    have hf' : ∀ b ∈ [z, TO, i1, i2], FpOk X pins H b := fun b hb => hf b (by
      simp only [List.mem_cons, List.not_mem_nil, or_false] at hb ⊢
      rcases hb with q | q | q | q
      · exact .inl q
      · exact .inr (.inr (.inl q))
      · exact .inr (.inr (.inr (.inl q)))
      · exact .inr (.inr (.inr (.inr q))))
    refine wpAny_pyNext_zip_item D hz hTI hTO h1 h2 px.isList py.isList (by simpa using hu) (by simpa using hv) fun h' a1 a2 a3 a4 a5 a6 hk => ?_
    refine ⟨_, rfl, wpAny_letOwnedTupleGo_zip a1 fun h'' b1 sb => ?_⟩
    have lt : ∀ {c o}, s.heap.get? c = some o → c ≠ s.heap.objs.size := fun e => Nat.ne_of_lt (Heap.lt_size e)
    have hTn : s.heap.objs.size ≠ z := Ne.symm (lt hz)
    have kk : ∀ b o, b ∉ [z, TO, i1, i2] → s.heap.get? b = some o → h''.get? b = some o := fun b o hb e => by
      simp only [List.mem_cons, List.not_mem_nil, or_false, not_or] at hb
      exact (sb.2 b hb.1).trans (hk b o hb.1 hb.2.1 hb.2.2.1 hb.2.2.2 e)
    have hTup : h''.get? s.heap.objs.size = some { cls := .type "tuple", data := .seq #[u, v] } := (sb.2 _ hTn).trans a5
    have hnew : H s.heap.objs.size = none := I.hok.fresh (Nat.le_refl _)
    have I2 : Inv X pins σ (upd H s.heap.objs.size (.tup [xi, yi])) { s with heap := h'' } :=
      inv_turnLaid (t' := s.toks) I hf' kk (Nat.le_refl _) ⟨by show 2 ≤ sizeLine; decide, [u, v], .cons ru (.cons rv .nil), ⟨_, hTup, rfl, _, rfl⟩⟩
    refine ⟨.ref _, _, I2, rfl, ⟨_, xi, yi, rfl, hnew, rfl, fun xs' h' => by rw [I.list_inj h' hx]; exact gx, fun ys' h' => by rw [I.list_inj h' hy]; exact gy⟩,
      ⟨by (first | lia | omega), b1, (sb.2 _ D.TIz).trans (hk _ _ D.TIz D.TITO D.TIi1 D.TIi2 hTI), ⟨_, _, (sb.2 _ D.TOz).trans a2⟩, a3.at fun o e => (sb.2 _ D.i1z).trans e, a4.at fun o e => (sb.2 _ D.i2z).trans e⟩, fun b hb => ?_⟩
    have hbn : b ≠ s.heap.objs.size := by
      simp only [List.mem_cons, List.not_mem_nil, or_false] at hb
      rcases hb with rfl | rfl | rfl | rfl | rfl
      · exact lt hz
      · exact lt hTI
      · exact lt hTO
      · obtain ⟨o, e, _⟩ := h1; exact lt e
      · obtain ⟨o, e, _⟩ := h2; exact lt e
    rw [upd_ne hbn]
    exact (hf b hb).1
  done := by
    intro X hP hw hK hc i pins s σ H E I hf st hg
    subst hP hw hK
    obtain ⟨hni, xs, ys, hx, hy, hl⟩ := hg
    obtain ⟨ix, rx, px, _⟩ := I.list hx
    obtain ⟨iy, ry, py, _⟩ := I.list hy
    have hlx := rx.length
    have hly := ry.length
    obtain ⟨_, hz, hTI, ⟨a, c, hTO⟩, h1, h2⟩ := st
    have hf' : ∀ b ∈ [z, TO, i1, i2], FpOk X pins H b := fun b hb => hf b (by
      simp only [List.mem_cons, List.not_mem_nil, or_false] at hb ⊢
      rcases hb with q | q | q | q
      · exact .inl q
      · exact .inr (.inr (.inl q))
      · exact .inr (.inr (.inr (.inl q)))
      · exact .inr (.inr (.inr (.inr q))))
    refine wpAny_pyNext_zip_end (I.ok.hd hc) D hz hTI hTO h1 h2 px.isList py.isList ?_ fun h' hk => ⟨rfl, inv_turnN (t' := s.toks) I hf' fun b o hb e => ?_⟩
    · by_cases hm : xs.length ≤ i
      · left; simp; (first | lia | omega)
      · right; simp; (first | lia | omega)
    · simp only [List.mem_cons, List.not_mem_nil, or_false, not_or] at hb
      exact hk b o hb.1 hb.2.1 hb.2.2.1 hb.2.2.2 e
  self := fun _ _ _ _ _ st h => wpAny_pyIter_zip st.2.1 h
section
variable {X : Cx} {es : List Expr} {kt : Nat} {pt : Pos}
def iZip (K : PySem.W.Frag) (ta : TA) : TI := fun σ H R => ta σ H fun vs H1 => ∃ a b xs ys, vs = [.ref a, .ref b] ∧ SqL K H1 a xs ∧ SqL K H1 b ys ∧ R (Itz K a b (min xs.length ys.length)) H1
theorem pi_zip {a b : Expr} {ta : TA} {p pos : Pos} (hg : Gl X "zip") (hm : X.mg "zip" = none) (ha : PA X [a, b] ta) (hs : starEach [a, b] X.env = [(false, eval a X.env), (false, eval b X.env)] := by rfl) (hs2 : starEach [b] X.env = [(false, eval b X.env)] := by rfl) :
    PI X (.Tuple es kt pt) (.Call (.Name "zip" p) [a, b] [] pos) (iZip X.K ta) := by
  intro pins s σ H R I h
  refine Call_ (ld_blt I hg hm boot_zip (PyProof.Rows.callWith_type1 (thn (ha pos pins s σ H _ I h) fun us s1 ⟨vs, H1, I1, r1, q1⟩ => ?_) (by rw [hs, hs2]) (by rw [hs2]; rfl)))
  obtain ⟨l1, l2, xs, ys, rfl, hx, hy, q⟩ := q1
  obtain ⟨u, v, rfl, ru, rv⟩ := vals2 r1
  cases ru; cases rv
  obtain ⟨ix, rx, px, _⟩ := I1.list hx
  obtain ⟨iy, ry, py, _⟩ := I1.list hy
  refine call_zip_2 px.isList py.isList fun h' hz hTI hTO h1 h2 hsz hk => ?_
  have I2 : Inv X pins σ H1 { s1 with heap := h' } := I1.kept (t' := s1.toks) fun b o e => hk b o e
  refine wpAny_pyIter_zip hz ?_
  have L1 : l1 < s1.heap.objs.size := by obtain ⟨o, _, e, _⟩ := px; exact Heap.lt_size e
  have L2 : l2 < s1.heap.objs.size := by obtain ⟨o, _, e, _⟩ := py; exact Heap.lt_size e
  have AP : ZipApart (s1.heap.objs.size + 4) (s1.heap.objs.size + 2) (s1.heap.objs.size + 3) s1.heap.objs.size (s1.heap.objs.size + 1) l1 l2 := zipApart_new L1 L2
  refine ⟨_, [s1.heap.objs.size + 4, s1.heap.objs.size + 2, s1.heap.objs.size + 3, s1.heap.objs.size, s1.heap.objs.size + 1], _, _, H1, rfl, I2, turn_zip (min xs.length ys.length) AP, ⟨Nat.zero_le _, hz, hTI, ⟨_, _, hTO⟩, h1, h2⟩, fun b hb => ?_, q⟩
  have hb' : s1.heap.objs.size ≤ b := by
    simp only [List.mem_cons, List.not_mem_nil, or_false] at hb
    rcases hb with rfl | rfl | rfl | rfl | rfl <;> (first | lia | omega)
  exact I1.fpOk hb' (I1.hok.fresh hb')
end
theorem for_zip {K : PySem.W.Frag} {a b : Addr} {xs ys : List V} {g : TG} {tb : TS} {D : Ends} {σ : St} {H : Hp} (Pv : Nat → St → Hp → Prop) (h0 : Pv 0 σ H) (hl : ∀ i σ H, i ≤ min xs.length ys.length → Pv i σ H → SqL K H a xs ∧ SqL K H b ys)
    (hs : ∀ i x y p σ H, xs[i]? = some x → ys[i]? = some y → H p = none → Pv i σ H → g (.ref p) σ (upd H p (.tup [x, y])) fun σ2 H2 => tb { D with nx := Pv (i + 1), ct := Pv (i + 1), bk := D.nx } σ2 H2) (hd : ∀ σ H, Pv (min xs.length ys.length) σ H → D.nx σ H) :
    ∃ W : Nat → Nat → St → Hp → Prop, (∃ m, W 0 m σ H) ∧ ∀ i m σ H, W i m σ H →
      ((Itz K a b (min xs.length ys.length)).stop i H ∧ D.nx σ H) ∨ ((Itz K a b (min xs.length ys.length)).go i H ∧ ∃ N : St → Hp → Prop, (∀ σ' H', N σ' H' → ∃ m', m' < m ∧ W (i + 1) m' σ' H') ∧
        ∀ x H', (Itz K a b (min xs.length ys.length)).yld i H x H' → g x σ H' fun σ2 H2 => tb { D with nx := N, ct := N, bk := D.nx } σ2 H2) := by
  refine ⟨fun i m σ H => m = min xs.length ys.length - i ∧ i ≤ min xs.length ys.length ∧ Pv i σ H, ⟨_, rfl, Nat.zero_le _, h0⟩, ?_⟩
  rintro i m σ H ⟨rfl, hi, p⟩
  have q := hl i σ H hi p
  by_cases hlt : i < min xs.length ys.length
  · refine .inr ⟨⟨xs, ys, q.1, q.2, rfl, hlt⟩, Pv (i + 1), fun σ' H' p' => ⟨min xs.length ys.length - (i + 1), by (first | lia | omega), rfl, hlt, p'⟩, fun x H' y => ?_⟩
    obtain ⟨t, u, v, rfl, hn, rfl, gu, gv⟩ := y
    exact hs i u v t σ H (gu xs q.1) (gv ys q.2) hn p
  · have e : i = min xs.length ys.length := by (first | lia | omega)
    subst e
    exact .inl ⟨⟨Nat.le_refl _, xs, ys, q.1, q.2, rfl⟩, hd σ H p⟩
end L3
namespace L3
open PySem PySem.Spec L2
open PyProof.Rows hiding St
mutual
inductive Dp (K : PySem.W.Frag) (H : Hp) : V → PyData → Prop
  | non : Dp K H .non .none
  | bl (b : Bool) : Dp K H (.bl b) (.bool b)
  | int (i : Int) : Dp K H (.int i) (.int i)
  | lst {a : Addr} {xs : List V} {ds : List PyData} : SqL K H a xs → DpAll K H xs ds → Dp K H (.ref a) (.list ds)
inductive DpAll (K : PySem.W.Frag) (H : Hp) : List V → List PyData → Prop
  | nil : DpAll K H [] []
  | cons {v : V} {vs : List V} {d : PyData} {ds : List PyData} : Dp K H v d → DpAll K H vs ds → DpAll K H (v :: vs) (d :: ds)
end
section
variable {X : Cx} {pins : List (Addr × Obj)} {σ : St} {H : Hp} {s : Shared}
mutual
theorem Dp.reads (I : Inv X pins σ H s) : ∀ {v : V} {d : PyData} {u : Value}, Dp X.K H v d → RelV v u → ∃ as, Reads s.heap u d as
  | _, _, _, .non, r => by cases r; exact ⟨_, .none⟩
  | _, _, _, .bl b, r => by cases r; exact ⟨_, .bool b⟩
  | _, _, _, .int i, r => by obtain ⟨t, rfl⟩ := r; exact ⟨_, .int i t⟩
  | _, _, _, .lst h hs, r => by
    cases r
    obtain ⟨its, rv, ⟨o, n, e, c, d, hd⟩, _⟩ := I.list h
    obtain ⟨as, q⟩ := DpAll.reads I hs rv
    exact ⟨_, .list e c hd (by simpa using q)⟩
theorem DpAll.reads (I : Inv X pins σ H s) : ∀ {vs : List V} {ds : List PyData} {us : List Value}, DpAll X.K H vs ds → Vals vs us → ∃ as, ReadsAll s.heap us ds as
  | _, _, _, .nil, r => by cases r; exact ⟨_, .nil⟩
  | _, _, _, .cons h hs, r => by
    cases r with
    | cons a b =>
      obtain ⟨as, q⟩ := Dp.reads I h a
      obtain ⟨bs, q'⟩ := DpAll.reads I hs b
      exact ⟨_, .cons q q'⟩
end
end
section
variable {X : Cx}
end
end L3
namespace L3
open PySem PySem.Spec L2
open PyProof.Rows hiding St
def Every {α : Type} (P : α → Prop) : List α → Prop
  | [] => True
  | a :: l => P a ∧ Every P l
theorem Every.mem {α : Type} {P : α → Prop} : ∀ {l : List α}, Every P l → ∀ a ∈ l, P a
  | b :: l, h, a, ha => by
    rcases List.mem_cons.mp ha with e | ha
    · rw [e]; exact h.1
    · exact h.2.mem a ha
/-- what is known of the slots stays known -/
def Ext : St → St → Prop
  | [], [] => True
  | none :: l, _ :: r => Ext l r
  | some v :: l, o :: r => o = some v ∧ Ext l r
  | [], _ :: _ => False
  | _ :: _, [] => False
theorem Ext.len : ∀ {a b : St}, Ext a b → b.length = a.length
  | [], [], _ => rfl
  | none :: l, _ :: r, h => congrArg (· + 1) (Ext.len (a := l) (b := r) h)
  | some _ :: l, _ :: r, h => congrArg (· + 1) (Ext.len (a := l) (b := r) h.2)
  | [], _ :: _, h => h.elim
  | none :: _, [], h => h.elim
  | some _ :: _, [], h => h.elim
theorem Ext.get : ∀ {a b : St} (i : Nat) (v : V), Ext a b → a[i]? = some (some v) → b[i]? = some (some v)
  | [], [], _, _, _, e => e
  | none :: l, _ :: r, 0, v, _, e => by simp at e
  | none :: l, _ :: r, i + 1, v, h, e => by
    have := Ext.get (a := l) (b := r) i v h (by simpa using e)
    simpa using this
  | some u :: l, o :: r, 0, v, h, e => by
    have e' : u = v := by simpa using e
    rw [h.1, e']; rfl
  | some u :: l, o :: r, i + 1, v, h, e => by
    have := Ext.get (a := l) (b := r) i v h.2 (by simpa using e)
    simpa using this
  | [], _ :: _, _, _, h, _ => h.elim
  | none :: _, [], _, _, h, _ => h.elim
  | some _ :: _, [], _, _, h, _ => h.elim
/-- the block's names: its own stand empty, the free ones as in the def's slots -/
def slots (ix : List (Option Nat)) (σ : St) : St := ix.map fun o => match o with
  | none => none
  | some k => (σ[k]?).getD none
def FrOk (X : Cx) (scope : Scope) : List Str → List (Option Nat) → Prop
  | [], [] => True
  | _ :: N, none :: ix => FrOk X scope N ix
  | x :: N, some k :: ix => (X.N[k]? = some x ∧ X.env.kindOf x = some .cell ∧ scope.names.lookup x = some .free) ∧ FrOk X scope N ix
  | [], _ :: _ => False
  | _ :: _, [] => False
theorem FrOk.get {X : Cx} {scope : Scope} : ∀ {N : List Str} {ix : List (Option Nat)} (i k : Nat) (x : Str), FrOk X scope N ix → N[i]? = some x → ix[i]? = some (some k) → X.N[k]? = some x ∧ X.env.kindOf x = some .cell ∧ scope.names.lookup x = some .free
  | [], [], _, _, _, _, h, _ => by simp at h
  | _ :: N, none :: ix, 0, _, _, _, _, e => by simp at e
  | _ :: N, none :: ix, i + 1, k, x, h, h1, h2 => FrOk.get (N := N) (ix := ix) i k x h (by simpa using h1) (by simpa using h2)
  | y :: N, some m :: ix, 0, k, x, h, h1, h2 => by
    have e1 : y = x := by simpa using h1
    have e2 : m = k := by simpa using h2
    rw [← e1, ← e2]; exact h.1
  | _ :: N, some _ :: ix, i + 1, k, x, h, h1, h2 => FrOk.get (N := N) (ix := ix) i k x h.2 (by simpa using h1) (by simpa using h2)
  | [], _ :: _, _, _, _, h, _, _ => h.elim
  | _ :: _, [], _, _, _, h, _, _ => h.elim
theorem FrOk.len {X : Cx} {scope : Scope} : ∀ {N : List Str} {ix : List (Option Nat)}, FrOk X scope N ix → ix.length = N.length
  | [], [], _ => rfl
  | _ :: N, none :: ix, h => congrArg (· + 1) (FrOk.len (N := N) (ix := ix) h)
  | _ :: N, some _ :: ix, h => congrArg (· + 1) (FrOk.len (N := N) (ix := ix) h.2)
  | [], _ :: _, h => h.elim
  | _ :: _, [], h => h.elim
def HasOk (cl : List (Str × Addr)) : List (Str × NameKind) → Prop
  | [] => True
  | (x, .free) :: l => (∃ c, cl.lookup x = some c) ∧ HasOk cl l
  | _ :: l => HasOk cl l
theorem HasOk.get {cl : List (Str × Addr)} : ∀ {l : List (Str × NameKind)} (x : Str), HasOk cl l → (x, NameKind.free) ∈ l → ∃ c, cl.lookup x = some c
  | (y, k) :: l, x, h, hm => by
    rcases List.mem_cons.mp hm with e | hm
    · cases e; exact h.1
    · refine HasOk.get (l := l) x ?_ hm
      cases k <;> first | exact h | exact h.2
structure CompSc (X : Cx) (N' : List Str) (ix : List (Option Nat)) (scope : Scope) (cl : List (Str × Addr)) : Prop where
  kind : scope.kind = .function
  nocell : ∀ y ∈ scope.names, y.2 ≠ .cell
  names : ∀ y ∈ scope.names, y.2 = .local → scope.names.lookup y.1 = some .local
  clos : closureFor scope X.env = pure cl
  sub : Every (fun y : Str × Addr => X.env.cells.lookup y.1 = some y.2) cl
  has : HasOk cl scope.names
  fr : FrOk X scope N' ix
theorem lookup_rel {env : Env} : ∀ (names : List (Str × NameKind)) (x : Str),
    (names.map fun (n, k) => if (k == NameKind.free && env.scope.kind == .function && env.kindOf n == some .cell) then (n, NameKind.cell) else (n, k)).lookup x
      = (names.lookup x).map fun k => if (k == NameKind.free && env.scope.kind == .function && env.kindOf x == some .cell) then NameKind.cell else k
  | [], _ => rfl
  | (n, k) :: r, x => by
    have ih := lookup_rel (env := env) r x
    rw [List.map_cons]
    show List.lookup x ((if (k == NameKind.free && env.scope.kind == .function && env.kindOf n == some .cell) = true then (n, NameKind.cell) else (n, k)) :: _) = _
    by_cases hx : x = n
    · subst hx
      by_cases hc : (k == NameKind.free && env.scope.kind == .function && env.kindOf x == some .cell) = true
      · rw [if_pos hc, List.lookup_cons, List.lookup_cons, beq_self_eq_true]
        show some NameKind.cell = some (if (k == NameKind.free && env.scope.kind == .function && env.kindOf x == some .cell) = true then NameKind.cell else k)
        rw [if_pos hc]
      · rw [if_neg hc, List.lookup_cons, List.lookup_cons, beq_self_eq_true]
        show some k = some (if (k == NameKind.free && env.scope.kind == .function && env.kindOf x == some .cell) = true then NameKind.cell else k)
        rw [if_neg hc]
    · have hb : (x == n) = false := by simpa using hx
      by_cases hc : (k == NameKind.free && env.scope.kind == .function && env.kindOf n == some .cell) = true
      · rw [if_pos hc, List.lookup_cons, List.lookup_cons, hb]; exact ih
      · rw [if_neg hc, List.lookup_cons, List.lookup_cons, hb]; exact ih
section
variable {X : Cx} {N' : List Str} {ix : List (Option Nat)} {scope : Scope} {cl : List (Str × Addr)}
theorem CompSc.cells (S : CompSc X N' ix scope cl) {x : Str} {c : Addr} (h : cl.lookup x = some c) : X.env.cells.lookup x = some c := S.sub.mem (x, c) (PySem.mem_of_lookup h)
theorem CompSc.kept (S : CompSc X N' ix scope cl) (x : Str) (h : (relabel scope X.env).names.lookup x = some .cell ∨ (relabel scope X.env).names.lookup x = some .free) : ∃ c, cl.lookup x = some c := by
  have e := lookup_rel (env := X.env) scope.names x
  have e' : (relabel scope X.env).names.lookup x = _ := e
  rw [e'] at h
  cases q : scope.names.lookup x with
  | none => rw [q] at h; rcases h with h | h <;> cases h
  | some k =>
    have hm := PySem.mem_of_lookup q
    cases k with
    | free => exact S.has.get x hm
    | cell => exact absurd rfl (S.nocell _ hm)
    | _ => rw [q] at h; rcases h with h | h <;> (simp at h)
end
/-- the block's context -/
def cxComp (X : Cx) (N' : List Str) (scope : Scope) (cl : List (Str × Addr)) (C : Addr) (ex : List Addr) (pn : List (Addr × Obj)) (s : Shared) (H : Hp) : Cx where
  prog := X.prog
  w := X.w
  K := X.K
  mg := X.mg
  base := X.base
  A := X.A
  N := N'
  s₀ := s
  H₀ := H
  env := compEnvC scope cl C X.env
  outer := X.stack
  stack := X.stack
  ex := ex
  fn := fun _ => false
  calm := X.calm
  pn := pn
  xe := fun _ _ => False
def emptyL : Obj := { cls := .type "list", dict := none, data := .seq ([] : List Value).toArray }
section
variable {X : Cx} {N' : List Str} {ix : List (Option Nat)} {scope : Scope} {cl : List (Str × Addr)} {pins : List (Addr × Obj)} {σ : St} {H : Hp} {s : Shared} {fp : List Addr}
theorem comp_start (S : CompSc X N' ix scope cl) (I : Inv X pins σ H s) (hf : ∀ b ∈ fp, FpOk X pins H b) (hlt : ∀ b ∈ fp, b < s.heap.objs.size) {h1 : Heap} {tk : Nat} {m : Str → Option Value} (hns : h1.Ns (s.heap.push emptyL).objs.size m)
    (hk : ∀ b o, (s.heap.push emptyL).get? b = some o → h1.get? b = some o) :
    Inv (cxComp X N' scope cl (s.heap.push emptyL).objs.size (s.heap.objs.size :: fp) (X.pn ++ pins) { s with heap := s.heap.push emptyL } H) [] (slots ix σ) H { s with heap := h1, toks := tk } := by
  have hC : (s.heap.push emptyL).objs.size = s.heap.objs.size + 1 := Heap.size_push ..
  have I3 : Inv X pins σ H { s with heap := s.heap.push emptyL } := I.kept (t' := s.toks) fun b o e => Heap.get?_push_of_some _ e
  have clt : ∀ x c, X.env.cells.lookup x = some c → c < s.heap.objs.size := fun x c e => by obtain ⟨v, q⟩ := I.cell x c e; exact q.lt
  have hD : FpOk X pins H s.heap.objs.size := I.fpOk (Nat.le_refl _) (I.hok.fresh (Nat.le_refl _))
  have hall : ∀ b ∈ s.heap.objs.size :: fp, FpOk X pins H b ∧ b < (s.heap.push emptyL).objs.size := fun b hb => by
    rcases List.mem_cons.mp hb with rfl | hb
    · exact ⟨hD, by rw [hC]; exact Nat.lt_succ_self _⟩
    · exact ⟨hf b hb, by rw [hC]; exact Nat.lt_succ_of_lt (hlt b hb)⟩
  refine ⟨⟨I.mod, S.kind, I.ok.glob, I.ok.blt, Nat.le_refl _, fun x y c e1 e2 => I.ok.inj x y c (S.cells e1) (S.cells e2), fun x hx => S.kept x hx, fun x c e _ => ?_, I.ok.hd, I.ok.frames, .inl rfl, fun b hb => ⟨?_, fun x c e z => ?_⟩,
    fun b o e => ⟨(I3.bs b o e).1, (I3.bs b o e).2⟩, Nat.le_trans I.ok.bsz I3.sz, fun b o e hb => ?_, fun b hb hs => ?_, I3.stack, I3.stkFree⟩,
    rfl, I.bare, Un.kept hk, ⟨m, hns, fun i x v h1' h2' h3' => ?_⟩, fun x c e => ?_, ?_, fun x c e => I.freeC x c (S.cells e), fun p hp => ?_, I3.hok.kept hk, ?_⟩
  · exact absurd (show (false : Bool) = true from e) Bool.false_ne_true
  · exact Nat.ne_of_lt (hall b hb).2
  · exact (hall b hb).1.2.2.2.2.1 x c (S.cells e) z
  · have q := (hall b hb).1
    rcases q.2.2.2.1 with z | z
    · exact I.ok.noex b o e z
    · exact absurd (Nat.lt_of_lt_of_le (Heap.lt_size e) (Nat.le_trans I.ok.bsz z)) (Nat.lt_irrefl _)
  · have q := (hall b hb).1
    rcases List.mem_cons.mp (I.stkSub b hs) with z | z
    · exact q.2.1 z
    · exact q.2.2.1 z
  · -- a free name
    unfold slots at h2'
    rw [List.getElem?_map] at h2'
    cases q : ix[i]? with
    | none => rw [q] at h2'; cases h2'
    | some o =>
      cases o with
      | none => rw [q] at h2'; simp at h2'
      | some k =>
        rw [q] at h2'
        have h2'' : (σ[k]?).getD none = some v := by simpa using h2'
        have h2 : σ[k]? = some (some v) := by
          cases e : σ[k]? with
          | none => rw [e] at h2''; cases h2''
          | some z => rw [e] at h2''; simp at h2''; rw [h2'']
        obtain ⟨a1, a2, a3⟩ := S.fr.get i k x h1' q
        obtain ⟨m0, hn0, hl0⟩ := I.loc
        obtain ⟨u, ru, lk⟩ := hl0 k x v a1 h2 (.inr (.inl a2))
        rcases lk with ⟨z, _⟩ | ⟨_, c, hc, hcell⟩
        · rw [a2] at z; cases z
        · have hm := PySem.mem_of_lookup a3
          obtain ⟨c', hc'⟩ := S.has.get x hm
          have ec := S.cells hc'
          rw [hc] at ec
          cases ec
          refine ⟨u, ru, .inr ⟨.inl ?_, c, hc', ?_⟩⟩
          · show (relabel scope X.env).names.lookup x = some .cell
            have e := lookup_rel (env := X.env) scope.names x
            have e' : (relabel scope X.env).names.lookup x = _ := e
            rw [e', a3]
            have hk' : (X.env.scope.kind == ScopeKind.function) = true := by rw [I.ok.kind]; rfl
            simp [hk', a2]
          · obtain ⟨o, ho, hd⟩ := hcell
            exact ⟨o, hk _ _ (Heap.get?_push_of_some _ ho), hd⟩
  · obtain ⟨v, o, ho, hd⟩ := I.cell x c (S.cells e)
    exact ⟨v, o, hk _ _ (Heap.get?_push_of_some _ ho), hd⟩
  · exact I3.hok.fresh (Nat.le_refl _)
  · have hp' : p ∈ X.pn ++ pins := by
      have : p ∈ (X.pn ++ pins) ++ [] := hp
      rwa [List.append_nil] at this
    obtain ⟨e, n, ne, nf, d⟩ := I.pin p hp'
    refine ⟨hk _ _ (Heap.get?_push_of_some _ e), n, ?_, fun z => ?_, d⟩
    · show p.1 ≠ (s.heap.push emptyL).objs.size
      rw [hC]; exact Nat.ne_of_lt (Nat.lt_succ_of_lt (Heap.lt_size e))
    · rcases List.mem_cons.mp (I.stkSub p.1 z) with q | q
      · exact ne q
      · exact nf q
  · show (slots ix σ).length = N'.length
    unfold slots
    rw [List.length_map]; exact S.fr.len
/-- behind the block -/
theorem comp_end {C : Addr} {s' : Shared} {h2 : Heap} {Hz : Hp} {σ' : St} {pl : List (Addr × Obj)} {ys : List V} {its : List Value} {n : Nat} (I : Inv X pins σ H s) (hf : ∀ b ∈ fp, FpOk X pins H b) (hC : C = (s.heap.push emptyL).objs.size)
    (J : Inv (cxComp X N' scope cl C (s.heap.objs.size :: fp) (X.pn ++ pins) { s with heap := s.heap.push emptyL } H) pl σ' Hz s') (sb : Heap.SameBut C s'.heap h2)
    (hD : s'.heap.get? s.heap.objs.size = some { cls := .type "list", data := .seq its.toArray n }) (hz : Hz s.heap.objs.size = none) (rv : Vals ys its) (hl : ys.length ≤ sizeLine) :
    Inv X pins σ (upd Hz s.heap.objs.size (.lst ys)) { s' with heap := h2 } := by
  have eC : (s.heap.push emptyL).objs.size = s.heap.objs.size + 1 := Heap.size_push ..
  have I3 : Inv X pins σ H { s with heap := s.heap.push emptyL } := I.kept (t' := s.toks) fun b o e => Heap.get?_push_of_some _ e
  have hDf : FpOk X pins H s.heap.objs.size := I.fpOk (Nat.le_refl _) (I.hok.fresh (Nat.le_refl _))
  have u : Un (frs X.stack) (s.heap.objs.size :: fp) H Hz (s.heap.push emptyL) s'.heap := J.base
  have nC : ∀ {b : Addr} {o : Obj}, (s.heap.push emptyL).get? b = some o → b ≠ C := fun e => by rw [hC]; exact Nat.ne_of_lt (Heap.lt_size e)
  have fC : Hz C = none := J.free
  have hk2 : HOk X.prog X.w Hz h2 := fun b o e => by
    refine (J.hok b o e).stay (fun c v hc q => (sb.2 c ?_).trans q) (fun _ q => q) fun _ _ q => q
    rintro rfl
    rcases hc with rfl | hc
    · rw [fC] at e; cases e
    · rw [fC] at hc; cases hc
  have hDC : s.heap.objs.size ≠ C := by rw [hC, eC]; exact Nat.ne_of_lt (Nat.lt_succ_self _)
  have hk3 : HOk X.prog X.w (upd Hz s.heap.objs.size (.lst ys)) h2 := fun b o e => by
    by_cases hb : b = s.heap.objs.size
    · subst hb
      rw [upd_same] at e; cases e
      exact ⟨hl, its, n, rv, (sb.2 _ hDC).trans hD⟩
    · rw [upd_ne hb] at e
      exact (hk2 b o e).stay (fun _ _ _ q => q) (fun c q => by rw [upd_ne (ne_of_none q hz)]; exact q) fun c zs q => by rw [upd_ne (ne_of_none q hz)]; exact q
  refine I3.call' (ch := s.heap.objs.size :: fp) J.os ⟨fun b o e n' hb hx => (sb.2 b (nC e)).trans (u.keep b o e n' hb hx), fun b o e n' hb hx => ?_, fun b o e n' hx => ?_, fun b o e hx => ?_, fun b zs e => ?_, fun b o zs e => ?_, fun b ps e => ?_⟩ hk3 J.bare ?_
  · obtain ⟨sl, q⟩ := u.slot b o e n' hb hx
    exact ⟨sl, (sb.2 b (nC e)).trans q⟩
  · rw [upd_ne fun q => hx (by rw [q]; exact List.mem_cons_self ..)]
    exact u.free b o e n' hx
  · obtain ⟨o', q⟩ := u.there b o e hx
    exact ⟨o', (sb.2 b (nC e)).trans q⟩
  · have q := u.tups b zs e
    rw [upd_ne (ne_of_none q hz)]; exact q
  · have q := u.frzs b o zs e
    rw [upd_ne (ne_of_none q hz)]; exact q
  · obtain ⟨more, q⟩ := u.tbls b ps e
    exact ⟨more, by rw [upd_ne (ne_of_none q hz)]; exact q⟩
  · refine fp_step (X := X) (H := H) fun b hb => ?_
    rcases List.mem_cons.mp hb with rfl | hb
    · exact hDf
    · exact hf b hb
end
def PIf (X : Cx) (ifs : List Expr) (tt : TT) : Prop :=
  ∀ (pins : List (Addr × Obj)) (s : Shared) (σ : St) (H : Hp) (Q : Bool → Hp → Prop), Inv X pins σ H s → tt σ H Q →
    wpAny (model X.prog X.w) X.A (forIn ifs true fun c r => if r = true then do let ok ← isTrue c X.env (eval c X.env); pure (ForInStep.yield ok) else pure (ForInStep.yield r)) (TP X pins σ Q) X.xe s
def ttNil : TT := fun _ H Q => Q true H
theorem pif_nil {X : Cx} : PIf X [] ttNil := fun _ _ _ H _ I h => wpAny_tests_nil ⟨H, I, h⟩
theorem pif_one {X : Cx} {c : Expr} {t : TT} (h : PT X c t) : PIf X [c] t := fun pins s σ H Q I q => wpAny_tests_one (h pins s σ H Q I q)
section
variable {prog : Program} {w : World} {A : Around} {R : Result → Shared → Prop} {s : Shared}
/-- the block's loop, whatever its target -/
theorem comp_loop {elt tg iter : Expr} {ifs : List Expr} {scope : Scope} {pos : Pos} {it acc : Value} {env : Env} (W : Nat → Shared → Prop) {EE : Value → Shared → Prop}
    (hE : ∀ e s', EE e s' → notedBy (model prog w) A env (fun e s' => R (.error e) s') e s')
    (turn : ∀ n s, W n s → wpAny (model prog w) A (pyNext it) (fun r s₁ => (r = none ∧ R (.ok .next) s₁) ∨ ∃ v, r = some v ∧
      wpAny (model prog w) A (letOwnedTupleGo tg it v) (fun _ s₂ => wpAny (model prog w) A (assign tg env v) (fun _ s₃ =>
        wpAny (model prog w) A (forIn ifs true fun c r => if r = true then do let ok ← isTrue c env (eval c env); pure (ForInStep.yield ok) else pure (ForInStep.yield r)) (fun ok s₄ =>
          (ok = true ∧ wpAny (model prog w) A (eval elt env) (fun x s₅ => wpAny (model prog w) A (call (.builtin "list.append") [acc, x]) (fun _ s₆ => ∃ m, m < n ∧ W m s₆) EE s₅) EE s₄) ∨
          (ok = false ∧ ∃ m, m < n ∧ W m s₄)) EE s₃) EE s₂) EE s₁) EE s)
    (n : Nat) (h : W n s) : codeAny (model prog w) A (.compLoop (.ListComp elt [⟨tg, iter, ifs, 0⟩] scope pos) 0 it acc env) R s := by
  refine codeAny_loop rfl W (fun n s hW => ?_) n h
  show wpAny _ A (Sem.onRaise (compTurn (.ListComp elt [⟨tg, iter, ifs, 0⟩] scope pos) 0 it acc env) (fun x => do noteFrame x env; theTreesLotGoes x)) _ _ s
  refine wpAny_noted ?_
  rw [compTurn_list]
  refine wpAny_bind (wpAny_standAt (wpAny_bind (wpAny_mono (turn n s hW) (fun r s₁ q => ?_) fun e s' q => hE e s' q)))
  rcases q with ⟨rfl, q⟩ | ⟨v, rfl, q⟩
  · exact wpAny_pure q
  refine wpAny_bind (wpAny_mono q (fun _ s₂ q => wpAny_bind (wpAny_mono q (fun _ s₃ q => wpAny_bind (wpAny_mono q (fun ok s₄ q => ?_) fun e s' q => hE e s' q)) fun e s' q => hE e s' q)) fun e s' q => hE e s' q)
  rcases q with ⟨rfl, q⟩ | ⟨rfl, q⟩
  · exact wpAny_bind (wpAny_bind (wpAny_mono q (fun x s₅ q => wpAny_bind (wpAny_mono q (fun _ s₆ q => wpAny_pure (wpAny_pure ⟨rfl, q⟩)) fun e s' q => hE e s' q)) fun e s' q => hE e s' q))
  · exact wpAny_pure ⟨rfl, q⟩
end
def CompAt (J : It) (ix : List (Option Nat)) (g : TG) (tt : TT) (te : TE) (σ : St) (Q : VK) (H1 : Hp) : Prop := ∃ W : Nat → Nat → List V → Hp → Prop, (∃ m, W 0 m [] H1) ∧ ∀ i m ys H, W i m ys H →
  (J.stop i H ∧ ys.length ≤ sizeLine ∧ ∀ p, H p = none → Q (.ref p) (upd H p (.lst ys))) ∨
  (J.go i H ∧ ys.length ≤ sizeLine ∧ ∃ N : List V → Hp → Prop, (∀ zs H', N zs H' → ∃ m', m' < m ∧ W (i + 1) m' zs H') ∧
    ∀ x H', J.yld i H x H' → g x (slots ix σ) H' fun σ2 H2 => Ext (slots ix σ) σ2 ∧ tt σ2 H2 fun ok H3 => if ok = true then te σ2 H3 fun y H4 => N (ys ++ [y]) H4 else N ys H3)
def tComp (wi : TI) (ix : List (Option Nat)) (g : TG) (tt : TT) (te : TE) : TE := fun σ H Q => wi σ H fun J H1 => CompAt J ix g tt te σ Q H1
abbrev blk (X : Cx) (N' : List Str) (scope : Scope) (cl : List (Str × Addr)) (pins : List (Addr × Obj)) (fp : List Addr) (s : Shared) (H : Hp) : Cx :=
  cxComp X N' scope cl (s.heap.push emptyL).objs.size (s.heap.objs.size :: fp) (X.pn ++ pins) { s with heap := s.heap.push emptyL } H
section
variable {X : Cx} {N' : List Str} {ix : List (Option Nat)} {scope : Scope} {cl : List (Str × Addr)} {pins : List (Addr × Obj)} {σ : St} {H : Hp} {s : Shared} {fp : List Addr}
theorem blk_fp (S : CompSc X N' ix scope cl) (I : Inv X pins σ H s) (hf : ∀ b ∈ fp, FpOk X pins H b) (hlt : ∀ b ∈ fp, b < s.heap.objs.size) {o : Obj} {Hz : Hp} (hz : ∀ b ∈ fp, Hz b = none) :
    ∀ b ∈ fp, FpOk (blk X N' scope cl pins fp s H) [(s.heap.objs.size, o)] Hz b := fun b hb => by
  have eC : (s.heap.push emptyL).objs.size = s.heap.objs.size + 1 := Heap.size_push ..
  obtain ⟨_, f1, f2, f3, f4, f5⟩ := hf b hb
  have l := hlt b hb
  refine ⟨hz b hb, ?_, fun hs => ?_, .inl (List.mem_cons_of_mem _ hb), fun x c e => f4 x c (S.cells e), fun p hp => ?_⟩
  · show b ≠ (s.heap.push emptyL).objs.size
    rw [eC]; exact Nat.ne_of_lt (Nat.lt_succ_of_lt l)
  · rcases List.mem_cons.mp (I.stkSub b hs) with q | q
    · exact f1 q
    · exact f2 q
  · rcases List.mem_append.mp hp with q | q
    · exact f5 p q
    · have e : p = (s.heap.objs.size, o) := by simpa using q
      rw [e]; show s.heap.objs.size ≠ b
      exact Nat.ne_of_gt l
theorem blk_own (S : CompSc X N' ix scope cl) (I : Inv X pins σ H s) {Hz : Hp} (hz : Hz s.heap.objs.size = none) : FpOk (blk X N' scope cl pins fp s H) [] Hz s.heap.objs.size := by
  have eC : (s.heap.push emptyL).objs.size = s.heap.objs.size + 1 := Heap.size_push ..
  obtain ⟨_, f1, f2, f3, f4, f5⟩ := I.fpOk (H' := H) (Nat.le_refl s.heap.objs.size) (I.hok.fresh (Nat.le_refl _))
  refine ⟨hz, ?_, fun hs => ?_, .inl (List.mem_cons_self ..), fun x c e => f4 x c (S.cells e), fun p hp => ?_⟩
  · show s.heap.objs.size ≠ (s.heap.push emptyL).objs.size
    rw [eC]; exact Nat.ne_of_lt (Nat.lt_succ_self _)
  · rcases List.mem_cons.mp (I.stkSub _ hs) with q | q
    · exact f1 q
    · exact f2 q
  · refine f5 p ?_
    have : p ∈ (X.pn ++ pins) ++ [] := hp
    rwa [List.append_nil] at this
theorem comp_run {elt tg iter : Expr} {ifs : List Expr} {pos : Pos} {g : TG} {tt : TT} {te : TE} {J : It} {it : Addr} {tn : Nat → Heap → Prop} {s4 : Shared} {Q : VK} {R : Result → Shared → Prop}
    (hc : X.calm = true) (S : CompSc X N' ix scope cl) (I : Inv X pins σ H s) (T : Turn X.prog X.w X.K tg J fp it tn) (hf : ∀ b ∈ fp, FpOk X pins H b) (hlt : ∀ b ∈ fp, b < s.heap.objs.size)
    (hg : PG (blk X N' scope cl pins fp s H) tg g) (hif : PIf (blk X N' scope cl pins fp s H) ifs tt) (he : PE (blk X N' scope cl pins fp s H) elt te)
    (J0 : Inv (blk X N' scope cl pins fp s H) [] (slots ix σ) H s4) (st0 : tn 0 s4.heap) (hD0 : s4.heap.get? s.heap.objs.size = some { cls := .type "list", data := .seq ([] : List Value).toArray 0 })
    (W : Nat → Nat → List V → Hp → Prop) (m0 : Nat) (w0 : W 0 m0 [] H)
    (turn : ∀ i m ys H, W i m ys H → (J.stop i H ∧ ys.length ≤ sizeLine ∧ ∀ p, H p = none → Q (.ref p) (upd H p (.lst ys))) ∨
      (J.go i H ∧ ys.length ≤ sizeLine ∧ ∃ N : List V → Hp → Prop, (∀ zs H', N zs H' → ∃ m', m' < m ∧ W (i + 1) m' zs H') ∧
        ∀ x H', J.yld i H x H' → g x (slots ix σ) H' fun σ2 H2 => Ext (slots ix σ) σ2 ∧ tt σ2 H2 fun ok H3 => if ok = true then te σ2 H3 fun y H4 => N (ys ++ [y]) H4 else N ys H3))
    (fin : ∀ (ys : List V) (Hz : Hp) (its : List Value) (k : Nat) (pl : List (Addr × Obj)) (s2 : Shared), Inv (blk X N' scope cl pins fp s H) pl (slots ix σ) Hz s2 → s2.heap.get? s.heap.objs.size = some { cls := .type "list", data := .seq its.toArray k } → Hz s.heap.objs.size = none →
      Vals ys its → ys.length ≤ sizeLine → (∀ p, Hz p = none → Q (.ref p) (upd Hz p (.lst ys))) → R (.ok .next) s2) :
    codeAny (model X.prog X.w) X.A (.compLoop (.ListComp elt [⟨tg, iter, ifs, 0⟩] scope pos) 0 (.ref it) (.ref s.heap.objs.size) (compEnvC scope cl (s.heap.push emptyL).objs.size X.env)) R s4 := by
  refine comp_loop (EE := fun _ _ => False) (fun n s' => ∃ (i : Nat) (ys : List V) (Hz : Hp) (its : List Value) (k : Nat), Inv (blk X N' scope cl pins fp s H) [] (slots ix σ) Hz s' ∧ tn i s'.heap ∧ (∀ b ∈ fp, Hz b = none) ∧
    s'.heap.get? s.heap.objs.size = some { cls := .type "list", data := .seq its.toArray k } ∧ Hz s.heap.objs.size = none ∧ Vals ys its ∧ W i n ys Hz) (fun _ _ z => z.elim) ?_ m0
    ⟨0, [], H, [], 0, J0, st0, fun b hb => (hf b hb).1, hD0, I.hok.fresh (Nat.le_refl _), .nil, w0⟩
  rintro n s' ⟨i, ys, Hz, its, k, J1, st1, fz, hD, hz, rv, w1⟩
  have own := blk_own (fp := fp) (N' := N') S I hz
  have J2 : Inv (blk X N' scope cl pins fp s H) [(s.heap.objs.size, { cls := .type "list", data := .seq its.toArray k })] (slots ix σ) Hz s' := J1.pins_of fun p hp => by
    have e : p = (s.heap.objs.size, { cls := .type "list", data := .seq its.toArray k }) := by simpa using hp
    subst e
    exact ⟨hD, hz, own.2.1, own.2.2.1, fun v z => nomatch z⟩
  have atD : ∀ {pl : List (Addr × Obj)} {σ' : St} {H' : Hp} {s'' : Shared}, Inv (blk X N' scope cl pins fp s H) ([(s.heap.objs.size, { cls := .type "list", data := .seq its.toArray k })] ++ pl) σ' H' s'' →
      s''.heap.get? s.heap.objs.size = some { cls := .type "list", data := .seq its.toArray k } ∧ H' s.heap.objs.size = none := fun J' => by
    have q := J'.pin (s.heap.objs.size, { cls := .type "list", data := .seq its.toArray k }) (List.mem_append_right _ (List.mem_append_left _ (List.mem_cons_self ..)))
    exact ⟨q.1, q.2.1⟩
  have hlen := rv.length
  rcases turn i n ys Hz w1 with ⟨stop, hsz, q⟩ | ⟨go, hsz, N, hN, step⟩
  · refine thn (T.done (blk X N' scope cl pins fp s H) rfl rfl rfl hc i _ s' _ Hz (fun _ _ => False) J2 (blk_fp S I hf hlt fz) st1 stop) fun r s2 ⟨hr, J3⟩ => .inl ⟨hr, ?_⟩
    have d := atD (pl := []) J3
    exact fin ys Hz its k _ s2 J3 d.1 d.2 rv hsz q
  · refine thn (T.item (blk X N' scope cl pins fp s H) rfl rfl rfl hc i _ s' _ Hz (fun _ _ => False) J2 (blk_fp S I hf hlt fz) st1 go) fun r s1 ⟨u, hr, h4⟩ => .inr ⟨u, hr, thn h4 fun _ s5 ⟨x, H5, J5, r5, y5, st5, fr5⟩ => ?_⟩
    have J5' := J5.pinned (blk_fp S I hf hlt fr5) (T.obj _ _ st5)
    refine thn (hg _ s5 _ H5 x u _ J5' r5 (step x H5 y5)) fun _ s6 ⟨σ6, H6, J6, ext, q6⟩ => ?_
    refine thn (hif _ s6 σ6 H6 _ J6 q6) fun ok s7 ⟨H7, J7, q7⟩ => ?_
    have tnK : ∀ {σ' : St} {H' : Hp} {s'' : Shared}, Inv (blk X N' scope cl pins fp s H) ([(s.heap.objs.size, { cls := .type "list", data := .seq its.toArray k })] ++ pinsAt fp s5.heap) σ' H' s'' → tn (i + 1) s''.heap ∧ ∀ b ∈ fp, H' b = none := fun J' =>
      ⟨T.keep _ _ _ st5 fun b hb o e => (J'.pin (b, o) (List.mem_append_right _ (List.mem_append_right _ (mem_pinsAt hb e)))).1, fun b hb => by
        obtain ⟨o, e, _⟩ := T.obj _ _ st5 b hb
        exact (J'.pin (b, o) (List.mem_append_right _ (List.mem_append_right _ (mem_pinsAt hb e)))).2.1⟩
    cases ok with
    | false =>
      rw [if_neg Bool.false_ne_true] at q7
      obtain ⟨m', hm, w7⟩ := hN _ _ q7
      have d := atD J7
      have t := tnK J7
      refine .inr ⟨rfl, m', hm, i + 1, ys, H7, its, k, (J7.pins_of fun p hp => absurd hp (by simp)).weak ext.len.symm fun j v => ext.get j v, t.1, t.2, d.1, d.2, rv, w7⟩
    | true =>
      rw [if_pos rfl] at q7
      refine .inl ⟨rfl, thn (he _ s7 σ6 H7 _ J7 q7) fun xv s8 ⟨y, H8, J8, r8, q8⟩ => ?_⟩
      obtain ⟨m', hm, w8⟩ := hN _ _ q8
      have d := atD J8
      have t := tnK J8
      have own8 := blk_own (fp := fp) (N' := N') S I d.2
      have J9 : Inv (blk X N' scope cl pins fp s H) [] (slots ix σ) H8 s8 := (J8.pins_of fun p hp => absurd hp (by simp)).weak ext.len.symm fun j v => ext.get j v
      refine wpAny_list_append_plain (hsz := by rw [List.size_toArray, ← hlen]; exact hsz) ⟨k, d.1⟩ fun h' hl' sb => ?_
      obtain ⟨k', hk'⟩ := hl'
      refine ⟨m', hm, i + 1, ys ++ [y], H8, its ++ [xv], k', J9.turned (t' := s8.toks) (fun b o hb e => (sb.2 b hb).trans e) own8.1 own8.2.1 own8.2.2.2.1 own8.2.2.2.2.1 own8.2.2.2.2.2,
        T.keep _ _ _ t.1 fun b hb o e => (sb.2 b (Nat.ne_of_lt (hlt b hb))).trans e, t.2, by simpa using hk', d.2, rv.append (.cons r8 .nil), w8⟩
end
theorem pe_comp {X : Cx} {N' : List Str} {ix : List (Option Nat)} {scope : Scope} {cl : List (Str × Addr)} {elt tg iter : Expr} {ifs : List Expr} {pos : Pos} {wi : TI} {g : TG} {tt : TT} {te : TE}
    (hc : X.calm = true) (S : CompSc X N' ix scope cl) (hi : PI X tg iter wi)
    (body : ∀ (C : Addr) (ex : List Addr) (pn : List (Addr × Obj)) (s : Shared) (H : Hp), PG (cxComp X N' scope cl C ex pn s H) tg g ∧ PIf (cxComp X N' scope cl C ex pn s H) ifs tt ∧ PE (cxComp X N' scope cl C ex pn s H) elt te)
    (hs : ∀ x, foldedSetIterable iter X.env x = pure x := by intro _; rfl) : PE X (.ListComp elt [⟨tg, iter, ifs, 0⟩] scope pos) (tComp wi ix g tt te) := by
  intro pins s σ H Q I h
  rw [eval_ListComp]
  refine wpAny_comprehension_free (use := none) rfl hs S.clos S.kind S.names (thn (hi pins s σ H _ I h) fun xv s1 h1 => thn h1 fun itv s2 h2 => ?_)
  obtain ⟨it, fp, tn, J, H2, rfl, I2, T, st2, f2, W, ⟨m0, w0⟩, turn⟩ := h2
  have hlt : ∀ b ∈ fp, b < s2.heap.objs.size := fun b hb => by obtain ⟨o, e, _⟩ := T.obj _ _ st2 b hb; exact Heap.lt_size e
  refine wpAny_newObj_type (wpAny_newFunctionEnv S.nocell (by intro y hy; simp at hy) (fun h₁ hns hsb => ?_) S.kind)
  dsimp only at hns hsb ⊢
  have hk1 : ∀ b o, (s2.heap.push emptyL).get? b = some o → h₁.get? b = some o := fun b o e => hsb.extBut b o (Nat.ne_of_lt (Heap.lt_size e)) (Heap.get?_push_of_some _ e)
  have J0 := comp_start (tk := s2.toks + ([] : List (Str × Value)).length) (N' := N') S I2 f2 hlt hns hk1
  obtain ⟨hg, hif, he⟩ := body (s2.heap.push emptyL).objs.size (s2.heap.objs.size :: fp) (X.pn ++ pins) { s2 with heap := s2.heap.push emptyL } H2
  have st4 : tn 0 h₁ := T.keep _ _ _ st2 fun b hb o e => hk1 b o (Heap.get?_push_of_some _ e)
  have hD4 : h₁.get? s2.heap.objs.size = some { cls := .type "list", data := .seq ([] : List Value).toArray 0 } := hk1 _ _ (Heap.get?_push_size _ rfl)
  have loop := comp_run (iter := iter) (pos := pos) (Q := Q) (R := compPost (model X.prog X.w) X.A X.xe none (EP X pins σ Q) (.ref s2.heap.objs.size) (s2.heap.push emptyL).objs.size) hc S I2 T f2 hlt hg hif he J0 st4 hD4 W m0 w0 turn
    fun ys Hz its k pl s5 J3 dD dz rv hsz q => by
      obtain ⟨m, hn, _⟩ := J3.loc
      exact ⟨m, hn, fun h2 sb => ⟨.ref _, _, comp_end I2 f2 rfl J3 sb dD dz rv hsz, rfl, q _ dz⟩⟩
  exact codeAny_compStart_list loop (T.self _ 0 _ _ _ st4 loop)
/-- name = a comprehension, the name a plain local one (the stores are exchanged) -/
theorem ps_setComp {X : Cx} {i : Nat} {y : Str} {N' : List Str} {ix : List (Option Nat)} {scope : Scope} {cl : List (Str × Addr)} {elt tg iter : Expr} {ifs : List Expr} {pos pos' spos : Pos} {wi : TI} {g : TG} {tt : TT} {te : TE}
    (hN : X.N.Nodup) (hi' : X.N[i]? = some y) (hy : X.env.scope.names.lookup y = some .local)
    (hc : X.calm = true) (S : CompSc X N' ix scope cl) (hi : PI X tg iter wi)
    (body : ∀ (C : Addr) (ex : List Addr) (pn : List (Addr × Obj)) (s : Shared) (H : Hp), PG (cxComp X N' scope cl C ex pn s H) tg g ∧ PIf (cxComp X N' scope cl C ex pn s H) ifs tt ∧ PE (cxComp X N' scope cl C ex pn s H) elt te)
    (hsw : swapsWith (.ListComp elt [⟨tg, iter, ifs, 0⟩] scope pos) (some (.Name y pos')) spos.line X.env = pure true := by rfl)
    (hs : ∀ x, foldedSetIterable iter X.env x = pure x := by intro _; rfl) : PS X (.Assign [.Name y pos'] (.ListComp elt [⟨tg, iter, ifs, 0⟩] scope pos) spos) (tAsg (tComp wi ix g tt te) (gName i)) := by
  intro pins s σ H D I h
  rw [exec_Assign_Name_used _ _ _ _ hsw]; refine wpAny_bind (wpAny_standAt (wpAny_bind ?_)); show wpAny _ X.A (do let _ ← comprehension (.ListComp elt [⟨tg, iter, ifs, 0⟩] scope pos) scope X.env _ (newList []) false (eval iter X.env) (some (assign (.Name y pos') X.env))) _ _ s
  have h' : tComp wi ix g tt te σ H (fun x H1 => D.nx (σ.set i (some x)) H1) := h
  refine wpAny_bind (wpAny_mono (wpAny_comprehension_free (use := some (assign (.Name y pos') X.env)) (Q := fun _ s' => SP X pins D .next s') rfl hs S.clos S.kind S.names
    (thn (hi pins s σ H _ I h') fun xv s1 h1 => thn h1 fun itv s2 h2 => ?_)) (fun _ s' hq => wpAny_pure (wpAny_pure hq)) fun _ _ e => e)
  obtain ⟨it, fp, tn, J, H2, rfl, I2, T, st2, f2, W, ⟨m0, w0⟩, turn⟩ := h2
  have hlt : ∀ b ∈ fp, b < s2.heap.objs.size := fun b hb => by obtain ⟨o, e, _⟩ := T.obj _ _ st2 b hb; exact Heap.lt_size e
  refine wpAny_newObj_type (wpAny_newFunctionEnv S.nocell (by intro y hy; simp at hy) (fun h₁ hns hsb => ?_) S.kind)
  dsimp only at hns hsb ⊢
  have hk1 : ∀ b o, (s2.heap.push emptyL).get? b = some o → h₁.get? b = some o := fun b o e => hsb.extBut b o (Nat.ne_of_lt (Heap.lt_size e)) (Heap.get?_push_of_some _ e)
  have J0 := comp_start (tk := s2.toks + ([] : List (Str × Value)).length) (N' := N') S I2 f2 hlt hns hk1
  obtain ⟨hg, hif, he⟩ := body (s2.heap.push emptyL).objs.size (s2.heap.objs.size :: fp) (X.pn ++ pins) { s2 with heap := s2.heap.push emptyL } H2
  have st4 : tn 0 h₁ := T.keep _ _ _ st2 fun b hb o e => hk1 b o (Heap.get?_push_of_some _ e)
  have hD4 : h₁.get? s2.heap.objs.size = some { cls := .type "list", data := .seq ([] : List Value).toArray 0 } := hk1 _ _ (Heap.get?_push_size _ rfl)
  have eC : (s2.heap.push emptyL).objs.size = s2.heap.objs.size + 1 := Heap.size_push ..
  have I3 : Inv X pins σ H2 { s2 with heap := s2.heap.push emptyL } := I2.kept (t' := s2.toks) fun b o e => Heap.get?_push_of_some _ e
  have fC := I3.fpOk (H' := H2) (Nat.le_refl _) (I3.hok.fresh (Nat.le_refl _))
  have loop := comp_run (iter := iter) (pos := pos) (Q := fun x H1 => D.nx (σ.set i (some x)) H1) (R := compPost (model X.prog X.w) X.A X.xe (some (assign (.Name y pos') X.env)) (fun _ s' => SP X pins D .next s') (.ref s2.heap.objs.size) (s2.heap.push emptyL).objs.size) hc S I2 T f2 hlt hg hif he J0 st4 hD4 W m0 w0 turn
    fun ys Hz its k pl s5 J3 dD dz rv hsz q => by
      obtain ⟨m, hn, _⟩ := J3.loc
      have I5 : Inv X pins σ (upd Hz s2.heap.objs.size (.lst ys)) s5 := comp_end (h2 := s5.heap) I2 f2 rfl J3 (.refl ..) dD dz rv hsz
      show wpAny _ X.A (assign (.Name y pos') X.env (.ref s2.heap.objs.size)) _ _ s5
      refine wpAny_assign_Name (store_ok2 (v := .ref s2.heap.objs.size) I5 hN hi' (.inl hy) rfl (fun s6 I6 ch => ?_) (.inr hy))
      obtain ⟨a, sb, ha⟩ := ch
      have hCa : (s2.heap.push emptyL).objs.size ≠ a := by
        rcases ha with q | q
        · rw [q]; exact fC.2.1
        · exact Ne.symm (fC.2.2.2.2.1 _ _ q)
      have zC : (upd Hz s2.heap.objs.size (.lst ys)) (s2.heap.push emptyL).objs.size = none := by
        rw [upd_ne (by rw [eC]; exact Nat.ne_of_gt (Nat.lt_succ_self _))]; exact J3.free
      refine ⟨m, hn.sameBut sb hCa, fun h3 sb3 => ⟨_, _, I6.turned (t' := s6.toks) (fun b o hb e => (sb3.2 b hb).trans e) zC fC.2.1 fC.2.2.2.1 fC.2.2.2.2.1 fC.2.2.2.2.2, q _ dz⟩⟩
  exact codeAny_compStart_list loop (T.self _ 0 _ _ _ st4 loop)
theorem comp_range {lo : Int} {n : Nat} {ix : List (Option Nat)} {g : TG} {tt : TT} {te : TE} {σ : St} {H : Hp} {Q : VK} (Pv : Nat → List V → Hp → Prop) (h0 : Pv 0 [] H)
    (hs : ∀ i ys H, i < n → Pv i ys H → ys.length ≤ sizeLine ∧ g (.int (lo + i)) (slots ix σ) H fun σ2 H2 => Ext (slots ix σ) σ2 ∧ tt σ2 H2 fun ok H3 => if ok = true then te σ2 H3 fun y H4 => Pv (i + 1) (ys ++ [y]) H4 else Pv (i + 1) ys H3)
    (hd : ∀ ys H, Pv n ys H → ys.length ≤ sizeLine ∧ ∀ p, H p = none → Q (.ref p) (upd H p (.lst ys))) :
    CompAt (Itr lo n) ix g tt te σ Q H := by
  refine ⟨fun i m ys H => m = n - i ∧ i ≤ n ∧ Pv i ys H, ⟨n, by simp, Nat.zero_le _, h0⟩, ?_⟩
  rintro i m ys H ⟨rfl, hi, p⟩
  by_cases hlt : i < n
  · obtain ⟨z, q⟩ := hs i ys H hlt p
    refine .inr ⟨hlt, z, Pv (i + 1), fun zs H' p' => ⟨n - (i + 1), by (first | lia | omega), rfl, hlt, p'⟩, fun x H' y => ?_⟩
    obtain ⟨rfl, rfl⟩ := y
    exact q
  · obtain rfl : i = n := by (first | lia | omega)
    obtain ⟨z, q⟩ := hd ys H p
    exact .inl ⟨Nat.le_refl _, z, q⟩
theorem comp_list {K : PySem.W.Frag} {a : Addr} {xs : List V} {ix : List (Option Nat)} {g : TG} {tt : TT} {te : TE} {σ : St} {H : Hp} {Q : VK} (Pv : Nat → List V → Hp → Prop) (h0 : Pv 0 [] H) (hl : ∀ i ys H, Pv i ys H → SqL K H a xs)
    (hs : ∀ i x ys H, xs[i]? = some x → Pv i ys H → ys.length ≤ sizeLine ∧ g x (slots ix σ) H fun σ2 H2 => Ext (slots ix σ) σ2 ∧ tt σ2 H2 fun ok H3 => if ok = true then te σ2 H3 fun y H4 => Pv (i + 1) (ys ++ [y]) H4 else Pv (i + 1) ys H3)
    (hd : ∀ ys H, Pv xs.length ys H → ys.length ≤ sizeLine ∧ ∀ p, H p = none → Q (.ref p) (upd H p (.lst ys))) :
    CompAt (Itl K a) ix g tt te σ Q H := by
  refine ⟨fun i m ys H => m = xs.length - i ∧ i ≤ xs.length ∧ Pv i ys H, ⟨xs.length, by simp, Nat.zero_le _, h0⟩, ?_⟩
  rintro i m ys H ⟨rfl, hi, p⟩
  have q := hl i ys H p
  by_cases hlt : i < xs.length
  · have gx : xs[i]? = some xs[i] := List.getElem?_eq_getElem hlt
    obtain ⟨z, _⟩ := hs i _ ys H gx p
    refine .inr ⟨⟨xs, xs[i], q, gx⟩, z, Pv (i + 1), fun zs H' p' => ⟨xs.length - (i + 1), by (first | lia | omega), rfl, hlt, p'⟩, fun x H' y => ?_⟩
    obtain ⟨e, y⟩ := y
    subst e
    exact (hs i x ys _ (y xs q) p).2
  · obtain rfl : i = xs.length := by (first | lia | omega)
    obtain ⟨z, q'⟩ := hd ys H p
    exact .inl ⟨⟨xs, q, Nat.le_refl _⟩, z, q'⟩
theorem comp_zip {K : PySem.W.Frag} {a b : Addr} {xs ws : List V} {ix : List (Option Nat)} {g : TG} {tt : TT} {te : TE} {σ : St} {H : Hp} {Q : VK} (Pv : Nat → List V → Hp → Prop) (h0 : Pv 0 [] H) (hl : ∀ i ys H, Pv i ys H → SqL K H a xs ∧ SqL K H b ws)
    (hs : ∀ i x w t ys H, xs[i]? = some x → ws[i]? = some w → H t = none → Pv i ys H → ys.length ≤ sizeLine ∧ g (.ref t) (slots ix σ) (upd H t (.tup [x, w])) fun σ2 H2 => Ext (slots ix σ) σ2 ∧ tt σ2 H2 fun ok H3 => if ok = true then te σ2 H3 fun y H4 => Pv (i + 1) (ys ++ [y]) H4 else Pv (i + 1) ys H3)
    (hz : ∀ i ys H, Pv i ys H → ys.length ≤ sizeLine)
    (hd : ∀ ys H, Pv (min xs.length ws.length) ys H → ∀ p, H p = none → Q (.ref p) (upd H p (.lst ys))) :
    CompAt (Itz K a b (min xs.length ws.length)) ix g tt te σ Q H := by
  refine ⟨fun i m ys H => m = min xs.length ws.length - i ∧ i ≤ min xs.length ws.length ∧ Pv i ys H, ⟨_, rfl, Nat.zero_le _, h0⟩, ?_⟩
  rintro i m ys H ⟨rfl, hi, p⟩
  have q := hl i ys H p
  by_cases hlt : i < min xs.length ws.length
  · refine .inr ⟨⟨xs, ws, q.1, q.2, rfl, hlt⟩, hz i ys H p, Pv (i + 1), fun zs H' p' => ⟨min xs.length ws.length - (i + 1), by (first | lia | omega), rfl, hlt, p'⟩, fun x H' y => ?_⟩
    obtain ⟨t, u, v, rfl, hn, rfl, gu, gv⟩ := y
    exact (hs i u v t ys H (gu xs q.1) (gv ws q.2) hn p).2
  · obtain rfl : i = min xs.length ws.length := by (first | lia | omega)
    exact .inl ⟨⟨Nat.le_refl _, xs, ws, q.1, q.2, rfl⟩, hz _ ys H p, hd ys H p⟩
end L3
namespace L3
open PySem PySem.Spec L2
open PyProof.Rows hiding St
/-- the context of a def's body -/
abbrev cxF (P : Program) (w : World) (K : PySem.W.Frag) (mg : Str → Option Value) (base : Heap) (N : List Str) (x : Str) (st : Stmt) (f : Addr) (cdv : Value) (A : Around) (outer : List Env) (s : Shared) (H : Hp) (E : XK) : Cx :=
  (cxOf CX0 P w K mg base N x (defScope st) f cdv A outer s H E).nox
/-- the def stands in the module under its name -/
def Def (K : PySem.W.Frag) (mg : Str → Option Value) (x : Str) (ps : List Str) (st : Stmt) : Prop := ∃ f fd, Fun K x x st f fd ∧ Binds K fd ps [] ∧ mg x = some (.ref f)
/-- it keeps the promise sp, with k calls of room -/
def Has (P : Program) (w : World) (K : PySem.W.Frag) (mg : Str → Option Value) (base : Heap) (k : Nat) (x : Str) (ps : List Str) (sp : Sp) : Prop :=
  ∃ f fd, FnOk P w K mg base CX0 k f fd ps sp ∧ Binds K fd ps [] ∧ PySem.W.keepIn K (.ref f) = true ∧ mg x = some (.ref f)
section
variable {P : Program} {w : World} {K : PySem.W.Frag} {mg : Str → Option Value} {base : Heap}
theorem Def.ok {x : Str} {ps N : List Str} {st : Stmt} {k : Nat} {sp : Sp} (D : Def K mg x ps st) (S : FnScope N ps (defScope st)) (len : ∀ vs H Q E, sp vs H Q E → vs.length = ps.length)
    (hbody : ∀ (f : Addr) (cdv : Value) (A : Around) (outer : List Env) (s : Shared) (H : Hp) (vs : List V) (Q : VK) (E : XK), Room k (A.deeper (envOfC x (defScope st) s.heap.objs.size f cdv)) → sp vs H Q E →
      ∃ t, PSs (cxOf CX0 P w K mg base N x (defScope st) f cdv A outer s H E).nox (defBody st) t ∧ t { nx := fun _ H' => Q .non H', rt := Q } (start N vs) H) : Has P w K mg base (k + 1) x ps sp := by
  obtain ⟨f, fd, F, b, m⟩ := D
  exact ⟨f, fd, F.ok S len (hbody f), b, F.kp, m⟩
theorem def_mk {h : Heap} {x : Str} {ps : List Str} {st : Stmt} {f : Addr} {oc : Value} {od an : Option Addr} {osl : Array (Option Value)} {kV doc pm cdv ct : Value} (X : K.In h) (G : h.Ns mainGlobals mg)
    (a : PySem.W.nsIn K mainGlobals x = some (some (.ref f))) (l : K.lookup f = some ⟨oc, od, .func (PySem.W.fnOf x x (defArgs st) (defBody st) (defScope st) .none kV doc pm an cdv ct), osl⟩)
    (c : PySem.W.codeIn K cdv x = true) (k : PySem.W.keepIn K (.ref f) = true)
    (hb : ∀ (kV doc pm : Value) (an : Option Addr) (cdv ct : Value) (us : List Value), us.length = ps.length → bindArgs (PySem.W.fnOf x x (defArgs st) (defBody st) (defScope st) .none kV doc pm an cdv ct) ⟨us, []⟩ = pure (ps.zip us)) : Def K mg x ps st :=
  ⟨f, _, fun_mk l c k, (fun_mk l c k).binds hb, PySem.W.mg_of X G a⟩
end
section
variable {X : Cx} {k j : Nat} {ps : List Str} {sp : Sp} {x : Str} {p pos : Pos} {e : Expr} {es : List Expr} {t : TA}
theorem ptw {t' : TT} (h : PW X e t') : PT X e t' := h.pt
/-- a row, then what holds behind it -/
def tCut (J : St → Hp → Prop) (t u : TS) : TS := fun D σ H => t { D with nx := J } σ H ∧ ∀ σ' H', J σ' H' → u D σ' H'
theorem pss_cut (J : St → Hp → Prop) {st : Stmt} {rest : List Stmt} {t u : TS} (h1 : PS X st t) (h2 : PSs X rest u) : PSs X (st :: rest) (tCut J t u) := by
  intro pins s σ H D I h
  refine wpAny_execs_cons (thn (h1 pins s σ H { D with nx := J } I h.1) fun f s1 q => ?_)
  cases f with
  | next =>
    obtain ⟨σ', H', I', q⟩ := q
    exact h2 pins s1 σ' H' D I' (h.2 σ' H' q)
  | ret v => exact q
  | brk => exact q
  | cont => exact q
/-- written ints -/
def tInts (is : List Int) : TA := fun _ H Q => Q (is.map V.int) H
theorem pa_int0 : PA X [] (tInts []) := pa_nil
theorem pa_int1 {i : Int} {j : Nat} {pc : Pos} {is : List Int} (h : PA X es (tInts is)) : PA X (.Constant (.int i) j pc :: es) (tInts (i :: is)) := fun q pins s σ H Q I hw =>
  pa_cons (X := X) (pe_int (X := X) (i := i) (j := j) (pos := pc)) h rfl q pins s σ H Q I hw
/-- for a comprehension's block: the written part by its own letter -/
theorem pg_tupK (K : PySem.W.Frag) {es : List Expr} {kt : Nat} {pt : Pos} {t : TGs} {n : Nat} (hK : X.K = K) (hc : X.calm = true) (h : PGs X es t)
    (hn : (assignEach es X.env).length = n := by rfl) (hst : (assignEach es X.env).findIdx? (·.1) = none := by rfl) : PG X (.Tuple es kt pt) (gTup K n t) := by
  subst hK
  exact pg_tup hc h hn hst
theorem ix_listK (K : PySem.W.Frag) (hK : X.K = K) : IxR X (rIxL K) := by
  subst hK
  exact ix_list
/-- f(e, ..) -/
theorem pcall (h : Has X.prog X.w X.K X.mg X.base j x ps sp) (hr : Room k X.A) (hg : Gl X x) (ha : PA X (e :: es) t) (hj : j ≤ k := by decide) (hdb : (x == ("__debug__" : Str)) = false := by decide)
    (he : starEach (e :: es) X.env = (false, eval e X.env) :: starEach es X.env := by rfl) (hpl : (backTo pos (starEach es X.env)).any (·.1) = false := by rfl) : PE X (.Call (.Name x p) (e :: es) [] pos) (tCall sp [] E0 t) := by
  obtain ⟨f, fd, F, b, kp, m⟩ := h
  exact pe_call F (hr.mono hj) hg m kp b .nil pass0 ha hdb he hpl
end
end L3
namespace L3
open PySem PySem.Spec L2
open PyProof.Rows hiding St
/-- hi, hi - 1, .. (n of them) -/
def Itd (hi : Int) (n : Nat) : It := ⟨fun i _ => i < n, fun i H x H' => H' = H ∧ x = .int (hi - i), fun i _ => n ≤ i⟩
theorem turn_down {P : Program} {w : World} {K : PySem.W.Frag} {tg : Expr} (it : Addr) (lo : Int) (n : Nat) : Turn P w K tg (Itd lo n) [it] it (fun i h => IsRangeIter h it (lo + (i : Nat) * (-1)) ((n : Int) - (i : Nat)) (-1)) where
  mem := by simp
  obj := fun i h st b hb => by
    obtain rfl : b = it := by simpa using hb
    exact ⟨_, st, fun v q => nomatch (show Data.fields _ = Data.cell v from q)⟩
  keep := fun i h h' st k => k it (by simp) _ st
  item := by
    intro X hP hw hK hc i pins s σ H E I hf st hg
    subst hP hw hK
    obtain ⟨f0, f1, f2, f3, f4, f5⟩ := hf it (by simp)
    refine (Walks.range (prog := X.prog) (w := X.w) (I.ok.hd hc) it lo (-1) n).item i s _ _ hg st fun v h' tk hv st' kk => ?_
    obtain ⟨t, rfl⟩ := hv
    have I1 : Inv X pins σ H { s with heap := h', toks := tk } := I.turned (fun b o hb e => kk b o (by simpa using hb) e) f0 f1 f3 f4 f5
    refine ⟨_, rfl, go_of (s := { s with heap := h', toks := tk }) (n := "range_iterator") st' rfl rfl (by decide) ⟨.int (lo - i), H, I1, ⟨t, ?_⟩, ⟨rfl, rfl⟩, st', fun b hb => (hf b hb).1⟩⟩
    rw [show lo + (i : Int) * (-1) = lo - (i : Int) by (first | lia | omega)]
  done := by
    intro X hP hw hK hc i pins s σ H E I hf st hg
    subst hP hw hK
    obtain ⟨f0, f1, f2, f3, f4, f5⟩ := hf it (by simp)
    have hni : n ≤ i := hg
    exact wpAny_pyNext_range_end (I.ok.hd hc) st (by (first | lia | omega)) fun h' eb => ⟨rfl, I.turned (t' := s.toks) (fun b o hb e => eb b o hb e) f0 f1 f3 f4 f5⟩
  self := fun _ _ _ _ _ st h => wpAny_pyIter_rangeiter st h
theorem vals3 {x y z : V} {us : List Value} (r : Vals [x, y, z] us) : ∃ u v w', us = [u, v, w'] ∧ RelV x u ∧ RelV y v ∧ RelV z w' := by
  cases r with
  | cons a r =>
    obtain ⟨v, w', rfl, h1, h2⟩ := vals2 r
    exact ⟨_, v, w', rfl, a, h1, h2⟩
section
variable {X : Cx} {tg : Expr}
def iDown (ta : TA) : TI := fun σ H R => ta σ H fun vs H1 => ∃ a b : Int, vs = [.int a, .int b, .int (-1)] ∧ (-(2 ^ 62) ≤ a ∧ a < 2 ^ 62 ∧ -(2 ^ 62) ≤ b ∧ b < 2 ^ 62) ∧ R (Itd a (a - b).toNat) H1
theorem pi_down {a b c : Expr} {ta : TA} {p pos : Pos} (hg : Gl X "range") (hm : X.mg "range" = none) (ha : PA X [a, b, c] ta)
    (hs : starEach [a, b, c] X.env = (false, eval a X.env) :: starEach [b, c] X.env := by rfl) (hs2 : (backTo pos (starEach [b, c] X.env)).any (·.1) = false := by rfl) :
    PI X tg (.Call (.Name "range" p) [a, b, c] [] pos) (iDown ta) := by
  intro pins s σ H R I h
  refine Call_ (ld_blt I hg hm boot_range (PyProof.Rows.callWith_type1 (thn (ha pos pins s σ H _ I h) fun us s1 ⟨vs, H1, I1, r1, q1⟩ => ?_) hs hs2))
  obtain ⟨lo, hi, rfl, ⟨b1, b2, b3, b4⟩, q⟩ := q1
  obtain ⟨u, v, w', rfl, ⟨t1, rfl⟩, ⟨t2, rfl⟩, ⟨t3, rfl⟩⟩ := vals3 r1
  refine call_range_3 (by decide) ?_ (.inl (PyProof.noPylong_small (by decide)))
  have I2 : Inv X pins σ H1 { s1 with heap := s1.heap.push { cls := .type "range", data := .fields #[.int lo t1, .int hi t2, .int (-1) t3] } } := I1.kept (t' := s1.toks) fun b o e => Heap.get?_push_of_some _ e
  refine wpAny_pyIter_range (IsRange.new ..) (PySem.W.small_down b1 b2 b3 b4) ?_
  refine ⟨_, [(s1.heap.push { cls := .type "range", data := .fields #[.int lo t1, .int hi t2, .int (-1) t3] }).objs.size], _, _, H1, rfl, I2.kept (t' := s1.toks) fun b o e => Heap.get?_push_of_some _ e, turn_down _ lo (lo - hi).toNat, ?_, fun b hb => ?_, q⟩
  · show IsRangeIter _ _ (lo + ((0 : Nat) : Int) * (-1)) ((((lo - hi).toNat : Nat) : Int) - ((0 : Nat) : Int)) (-1)
    rw [show lo + ((0 : Nat) : Int) * (-1) = lo by simp, show (((lo - hi).toNat : Nat) : Int) - ((0 : Nat) : Int) = Builtin.Range.rangeSize lo hi (-1) by rw [PySem.W.rangeSize_downNat]; simp]
    exact Heap.get?_push_size _ rfl
  · obtain rfl : b = (s1.heap.push { cls := .type "range", data := .fields #[.int lo t1, .int hi t2, .int (-1) t3] }).objs.size := by simpa using hb
    exact I2.fpOk (Nat.le_refl _) (I2.hok.fresh (Nat.le_refl _))
end
theorem for_down {hi : Int} {n : Nat} {g : TG} {tb : TS} {D : Ends} {σ : St} {H : Hp} (Pv : Nat → St → Hp → Prop) (h0 : Pv 0 σ H)
    (hs : ∀ i σ H, i < n → Pv i σ H → g (.int (hi - i)) σ H fun σ2 H2 => tb { D with nx := Pv (i + 1), ct := Pv (i + 1), bk := D.nx } σ2 H2) (hd : ∀ σ H, Pv n σ H → D.nx σ H) :
    ∃ W : Nat → Nat → St → Hp → Prop, (∃ m, W 0 m σ H) ∧ ∀ i m σ H, W i m σ H →
      ((Itd hi n).stop i H ∧ D.nx σ H) ∨ ((Itd hi n).go i H ∧ ∃ N : St → Hp → Prop, (∀ σ' H', N σ' H' → ∃ m', m' < m ∧ W (i + 1) m' σ' H') ∧ ∀ x H', (Itd hi n).yld i H x H' → g x σ H' fun σ2 H2 => tb { D with nx := N, ct := N, bk := D.nx } σ2 H2) := by
  refine ⟨fun i m σ H => m = n - i ∧ i ≤ n ∧ Pv i σ H, ⟨n, by simp, Nat.zero_le _, h0⟩, ?_⟩
  rintro i m σ H ⟨rfl, hi', p⟩
  by_cases hlt : i < n
  · refine .inr ⟨hlt, Pv (i + 1), fun σ' H' p' => ⟨n - (i + 1), by (first | lia | omega), rfl, hlt, p'⟩, fun x H' y => ?_⟩
    obtain ⟨rfl, rfl⟩ := y
    exact hs i σ _ hlt p
  · obtain rfl : i = n := by (first | lia | omega)
    exact .inl ⟨Nat.le_refl _, hd σ H p⟩
end L3
namespace L3
open PySem PySem.Spec L2
open PyProof.Rows hiding St
section
variable {X : Cx} {es : List Expr} {kt : Nat} {pt : Pos}
end
section
variable {X : Cx} {tg : Expr}
end
end L3
namespace L3
open PySem PySem.Spec L2
open PyProof.Rows hiding St
section
variable {prog : Program} {w : World} {A : Around} {E : Value → Shared → Prop} {s : Shared}
end
section
variable {X : Cx}
end
end L3
namespace L3
open PySem PySem.Spec L2
open PyProof.Rows hiding St
/-- B holds all that stood there ahead (but frames) and all that is tracked -/
def Cov (fs : List Addr) (h h' : Heap) (H' : Hp) (B : Heap) : Prop := ∀ b o, h'.get? b = some o → b ∉ fs → ((∃ o', h.get? b = some o') ∨ H' b ≠ none) → B.get? b = some o
/-- how an exception lies behind a call -/
def CXE (P : Program) (w : World) : CXT := fun outer H s E e s' => ∃ (ea : Addr) (cls a0 : Value) (H' : Hp) (B : Heap), e = .ref ea ∧ s'.os = s.os ∧ AllBare s'.gens ∧ Un (frs outer) [] H H' s.heap s'.heap ∧ HOk P w H' s'.heap ∧
  Heap.FlyingW B outer ea cls a0 s'.heap ∧ Cov (frs outer) s.heap s'.heap H' B ∧ E cls none H'
section
variable {X : Cx} {pins : List (Addr × Obj)} {σ : St} {H H' : Hp} {s : Shared} {hm h2 B : Heap}
end
section
variable {P : Program} {w : World} {K : PySem.W.Frag} {mg : Str → Option Value} {base : Heap} {N : List Str} {qual : Str} {scope : Scope} {f : Addr} {cd : Value} {A : Around} {outer : List Env} {s : Shared} {H : Hp} {E : XK}
abbrev cxE (P : Program) (w : World) (K : PySem.W.Frag) (mg : Str → Option Value) (base : Heap) (N : List Str) (qual : Str) (scope : Scope) (f : Addr) (cd : Value) (A : Around) (outer : List Env) (s : Shared) (H : Hp) (E : XK) : Cx :=
  cxOf (CXE P w) P w K mg base N qual scope f cd A outer s H E
end
end L3
namespace L3
open PySem PySem.Spec L2
open PyProof.Rows hiding St
section
variable {P : Program} {w : World} {K : PySem.W.Frag} {mg : Str → Option Value} {base : Heap} {N : List Str} {qual : Str} {scope : Scope} {f : Addr} {cd : Value} {A : Around} {outer : List Env} {s : Shared} {H : Hp} {E : XK}
end
section
variable {X : Cx}
end
section
variable {P : Program} {w : World} {K : PySem.W.Frag} {mg : Str → Option Value} {base : Heap}
end
end L3
namespace L3
open PySem PySem.Spec L2
open PyProof.Rows hiding St
/-- within an except suite -/
abbrev Cx.within (X : Cx) (ea : Addr) : Cx := { X with A := X.A.mark (some (.ref ea)), calm := false }
section
variable {X : Cx} {pins : List (Addr × Obj)} {σ : St} {H H' : Hp} {s : Shared} {ea : Addr}
end
abbrev XE := Value → St → Hp → Prop
def XP (X : Cx) (pins : List (Addr × Obj)) (E : XE) (e : Value) (s' : Shared) : Prop := ∃ (ea : Addr) (cls a0 : Value) (σ : St) (H0 H' : Hp) (s0 : Shared) (B : Heap), e = .ref ea ∧ Inv X pins σ H0 s0 ∧ s'.os = s0.os ∧ AllBare s'.gens ∧
  Un (frs X.stack) [] H0 H' s0.heap s'.heap ∧ HOk X.prog X.w H' s'.heap ∧ Heap.FlyingW B X.stack ea cls a0 s'.heap ∧ Cov (frs X.stack) s0.heap s'.heap H' B ∧ E cls σ H'
abbrev TEr := St → Hp → VK → XE → Prop
abbrev TSr := Ends → XE → St → Hp → Prop
section
variable {X : Cx} {st : Stmt} {rest a b : List Stmt} {e c : Expr} {te : TEr} {t u : TSr} {tc : TT} {pos : Pos}
end
end L3
namespace L3
open PySem PySem.Spec L2
open PyProof.Rows hiding St
section
variable {M : Model} {A : Around} {E : Value → Shared → Prop} {s : Shared} {B : Heap} {l outer : List Env} {env : Env} {ea L : Addr} {cls a0 fl : Value} {Q : Unit → Shared → Prop}
end
section
variable {P : Program} {w : World} {K : PySem.W.Frag} {mg : Str → Option Value} {base : Heap} {N : List Str} {qual : Str} {sc0 : Scope} {f : Addr} {cd : Value} {A : Around} {outer : List Env} {sx : Shared} {Hx : Hp} {E : XK}
variable {N' : List Str} {ix : List (Option Nat)} {scope : Scope} {cl : List (Str × Addr)} {pins pl : List (Addr × Obj)} {σ : St} {H : Hp} {s : Shared} {fp : List Addr}
end
section
variable {X : Cx} {N' : List Str} {ix : List (Option Nat)} {scope : Scope} {cl : List (Str × Addr)} {pins : List (Addr × Obj)} {σ : St} {H : Hp} {s : Shared} {fp : List Addr}
end
section
variable {P : Program} {w : World} {K : PySem.W.Frag} {mg : Str → Option Value} {base : Heap} {N : List Str} {qual : Str} {sc0 : Scope} {f : Addr} {cd : Value} {A : Around} {outer : List Env} {sx : Shared} {Hx : Hp} {E : XK}
end
end L3
namespace L3
open PySem PySem.Spec L2
open PyProof.Rows hiding St
section
variable {P : Program} {w : World} {K : PySem.W.Frag} {mg : Str → Option Value} {base : Heap} {N : List Str} {qual : Str} {sc0 : Scope} {f : Addr} {cd : Value} {A : Around} {outer : List Env} {sx : Shared} {Hx : Hp} {E : XK}
end
end L3
namespace L3
open PySem PySem.Spec L2
open PyProof.Rows hiding St
section
variable {X : Cx} {tg : Expr}
end
end L3
namespace Tx
open PySem
abbrev blank : Str := Str.ofString " "
abbrev gapS : Str := Str.ofString "?"
/-- the word of a sign or gap -/
def word : Option Int → Str
  | none => gapS
  | some n => Str.ofString (toString n)
end Tx
namespace L3
open PySem PySem.Spec L2
open PyProof.Rows hiding St
end L3
namespace L3
open PySem PySem.Spec L2
open PyProof.Rows hiding St
section
variable {X : Cx}
end
section
variable {K : PySem.W.Frag} {prog : Program} {w : World} {A : Around} {E : Value → Shared → Prop} {s : Shared} {x C : Addr} {o : Obj}
open PySem.W PySem.Builtin PySem.Builtin.ObjectAttr PySem.Builtin.Getset_descriptor in
open PySem.W PySem.Builtin PySem.Builtin.ObjectAttr PySem.Builtin.Getset_descriptor in
open PySem.W PySem.Builtin PySem.Builtin.ObjectAttr PySem.Builtin.Getset_descriptor in
open PySem.W PySem.Builtin PySem.Builtin.ObjectAttr in
open PySem.W PySem.Builtin PySem.Builtin.ObjectAttr in
open PySem.W PySem.Builtin PySem.Builtin.ObjectAttr in
end
/-- within an except suite that has the exception by name -/
abbrev Cx.held (X : Cx) (ea : Addr) (oe : Obj) : Cx := { X with A := X.A.mark (some (.ref ea)), calm := false, pn := (ea, oe) :: X.pn }
section
variable {X : Cx} {pins : List (Addr × Obj)} {σ : St} {H : Hp} {s : Shared}
end
section
variable {X : Cx} {t : TSr} {pos : Pos}
end
end L3
namespace SM
def dI (row : List Int) : List Int := (List.range (row.length - 1)).map fun (k : Nat) => row.getD (k + 1) 0 - row.getD k 0
def dIN (row : List Int) : Nat → List Int
  | 0 => row
  | n + 1 => dI (dIN row n)
theorem dIN_len (row : List Int) : ∀ n, (dIN row n).length = row.length - n
  | 0 => rfl
  | n + 1 => by show ((List.range ((dIN row n).length - 1)).map _).length = _; rw [List.length_map, List.length_range, dIN_len row n]; (first | lia | omega)
theorem dIN_get (row : List Int) : ∀ (n i : Nat), i + n < row.length → (dIN row n).getD i 0 = DN n (fun j => row.getD j 0) i
  | 0, i, _ => rfl
  | n + 1, i, h => by
    show (dI (dIN row n)).getD i 0 = DN n (fun j => row.getD j 0) (i + 1) - DN n (fun j => row.getD j 0) i
    rw [← dIN_get row n (i + 1) (by (first | lia | omega)), ← dIN_get row n i (by (first | lia | omega))]
    have hl := dIN_len row n
    rw [List.getD_eq_getElem?_getD]
    unfold dI
    rw [List.getElem?_map, List.getElem?_range (by (first | lia | omega))]
    rfl
/-- the last differences of the first j turns -/
def lasts (row : List Int) (j : Nat) : List Int := (List.range j).map fun (t : Nat) => DN t (fun j => row.getD j 0) (row.length - 1 - t)
theorem lasts_len (row : List Int) (j : Nat) : (lasts row j).length = j := by simp [lasts]
theorem lasts_snoc (row : List Int) (j : Nat) : lasts row (j + 1) = lasts row j ++ [DN j (fun j => row.getD j 0) (row.length - 1 - j)] := by simp [lasts, List.range_succ]
theorem lasts_get {row : List Int} {j t : Nat} (h : t < j) : (lasts row j).getD t 0 = DN t (fun j => row.getD j 0) (row.length - 1 - t) := by
  rw [List.getD_eq_getElem?_getD]
  unfold lasts
  rw [List.getElem?_map, List.getElem?_range h]; rfl
/-- what the last differences are like when m signs stand, i of them turned -/
def LI (p : Int) (G : Nat → Int) (n m i : Nat) (ls : List Int) : Prop := ls.length = n ∧ ∀ t, t < n → Cg p (ls.getD t 0) (if n ≤ t + 1 + i then DN t G (m - t) else DN t G (m - 1 - t))
theorem LI_start {p : Int} {G : Nat → Int} {n m : Nat} {ls : List Int} (hG : ∀ i, DN n G i = 0) (hn : 1 ≤ n) (hm : n ≤ m) (hl : ls.length = n) (h : ∀ t, t < n → Cg p (ls.getD t 0) (DN t G (m - 1 - t))) : LI p G n m 0 ls := by
  refine ⟨hl, fun t ht => ?_⟩
  by_cases e : n ≤ t + 1 + 0
  · rw [if_pos e]
    refine (h t ht).trans (Cg.of_eq ?_)
    have z := hG (m - n)
    obtain ⟨k, rfl⟩ : ∃ k, n = k + 1 := ⟨n - 1, by (first | lia | omega)⟩
    have z' : DN k G (m - (k + 1) + 1) - DN k G (m - (k + 1)) = 0 := z
    have et : t = k := by (first | lia | omega)
    subst et
    rw [show m - 1 - t = m - (t + 1) by (first | lia | omega), show m - t = m - (t + 1) + 1 by (first | lia | omega)]
    (first | lia | omega)
  · rw [if_neg e]; exact h t ht
theorem LI_turn {p : Int} {G : Nat → Int} {n m i k : Nat} {ls : List Int} (h : LI p G n m i ls) (hm : n ≤ m) (hi : i + 1 < n) (hk : k + 2 + i = n) : LI p G n m (i + 1) (ls.set k (ls.getD k 0 + ls.getD (k + 1) 0)) := by
  obtain ⟨hl, h⟩ := h
  refine ⟨by simp [hl], fun t ht => ?_⟩
  by_cases e : t = k
  · subst e
    rw [if_pos (by (first | lia | omega)), List.getD_eq_getElem?_getD, List.getElem?_set_self (by (first | lia | omega)), Option.getD_some]
    have a := h t ht
    have b := h (t + 1) (by (first | lia | omega))
    rw [if_neg (by (first | lia | omega))] at a
    rw [if_pos (by (first | lia | omega))] at b
    refine (a.add b).trans (Cg.of_eq ?_)
    show DN t G (m - 1 - t) + (DN t G (m - (t + 1) + 1) - DN t G (m - (t + 1))) = DN t G (m - t)
    rw [show m - (t + 1) = m - 1 - t by (first | lia | omega), show m - 1 - t + 1 = m - t by (first | lia | omega)]
    (first | lia | omega)
  · rw [List.getD_eq_getElem?_getD, List.getElem?_set_ne (fun q => e q.symm), ← List.getD_eq_getElem?_getD]
    have a := h t ht
    by_cases c : n ≤ t + 1 + i
    · rw [if_pos c] at a
      rw [if_pos (by (first | lia | omega))]; exact a
    · rw [if_neg c] at a
      rw [if_neg (by (first | lia | omega))]; exact a
theorem LI_end {p : Int} {G : Nat → Int} {n m i : Nat} {ls : List Int} (h : LI p G n m i ls) (hi : n ≤ i + 1) : ls.length = n ∧ ∀ t, t < n → Cg p (ls.getD t 0) (DN t G (m + 1 - 1 - t)) := by
  obtain ⟨hl, h⟩ := h
  refine ⟨hl, fun t ht => ?_⟩
  have a := h t ht
  rwa [if_pos (by (first | lia | omega))] at a
end SM
namespace Sy
open PySem PySem.Spec L2 L3
open PyProof.Rows hiding St
seal L2.PSs L2.PS L2.PE L2.PT L2.PW L2.PA L2.PG L2.PGs L2.PI L3.PIf
theorem small {n : Nat} (h : n ≤ 1000) : n ≤ sizeLine := Nat.le_of_lt (small1000 h)
/-- a new list of ints, all else as it was -/
def NewL (H : Hp) (ns : List Int) (Q : VK) : Prop := ∀ (r : Addr) (H' : Hp), Same H H' → H r = none → H' r = some (.lst (ns.map V.int)) → Q (.ref r) H'
theorem same_new {H : Hp} {p : Addr} (h : H p = none) (o : HO) : Same H (upd H p o) := fun b u q => by rw [upd_ne (ne_of_none q h)]; exact q
abbrev IL (K : PySem.W.Frag) (H : Hp) (a : Addr) (ns : List Int) : Prop := SqL K H a (ns.map V.int)
def Ok (p : Int) : Prop := SM.Fld p ∧ p ≤ 1000
theorem Ok.pos {p : Int} (h : Ok p) : 0 < p := h.1.pos
theorem md {a p : Int} (h : 0 < p) : 0 ≤ a % p ∧ a % p < p := ⟨Int.emod_nonneg _ (by (first | lia | omega)), Int.emod_lt_of_pos _ h⟩
theorem cml {i j p : Int} (h0 : 0 ≤ i) (h1 : i < p) (hp : p ≤ 1000) : CMul i j := .inl ⟨by (first | lia | omega), by (first | lia | omega)⟩
theorem cmr {i j p : Int} (h0 : 0 ≤ j) (h1 : j < p) (hp : p ≤ 1000) : CMul i j := .inr ⟨by (first | lia | omega), by (first | lia | omega)⟩
def top (i : Nat) : Stmt := PySem.Challenge.pw_straysign_k02_whole_far_apart.main.body.getD i (.Pass ⟨0, 0, 0, 0⟩)
inductive spAdded : List V → Hp → VK → XK → Prop
  | mk {vs : List V} {H : Hp} {Q : VK} {E_ : XK} (p a b : Int) (z_0 : vs = [.int p, .int a, .int b]) (z_1 : 0 < p) (z_2 : Q (.int ((a + b) % p)) H) : spAdded  vs H Q E_
inductive spLess : List V → Hp → VK → XK → Prop
  | mk {vs : List V} {H : Hp} {Q : VK} {E_ : XK} (p a b : Int) (z_0 : vs = [.int p, .int a, .int b]) (z_1 : 0 < p) (z_2 : Q (.int ((a - b) % p)) H) : spLess  vs H Q E_
inductive spMul : List V → Hp → VK → XK → Prop
  | mk {vs : List V} {H : Hp} {Q : VK} {E_ : XK} (p a b : Int) (z_0 : vs = [.int p, .int a, .int b]) (z_1 : 0 < p) (z_2 : CMul a b) (z_3 : Q (.int ((a * b) % p)) H) : spMul  vs H Q E_
inductive spPower : List V → Hp → VK → XK → Prop
  | mk {vs : List V} {H : Hp} {Q : VK} {E_ : XK} (p a n : Int) (z_0 : vs = [.int p, .int a, .int n]) (z_1 : 0 < p) (z_2 : p ≤ 1000) (z_3 : 0 ≤ a) (z_4 : a < p) (z_5 : 0 ≤ n) (z_6 : Q (.int (SM.pow p a n.toNat)) H) : spPower  vs H Q E_
inductive spInv : List V → Hp → VK → XK → Prop
  | mk {vs : List V} {H : Hp} {Q : VK} {E_ : XK} (p a : Int) (z_0 : vs = [.int p, .int a]) (z_1 : 2 ≤ p) (z_2 : p ≤ 1000) (z_3 : 0 ≤ a) (z_4 : a < p) (z_5 : Q (.int (SM.inv p a)) H) : spInv  vs H Q E_
inductive spSignAt (K : PySem.W.Frag) : List V → Hp → VK → XK → Prop
  | mk {vs : List V} {H : Hp} {Q : VK} {E_ : XK} (p : Int) (c : Addr) (x : Int) (cs : List Int) (z_0 : vs = [.int p, .ref c, .int x]) (z_1 : 0 < p) (z_2 : p ≤ 1000) (z_3 : IL K H c cs) (z_4 : Q (.int (SM.signAt p cs x)) H) : spSignAt K vs H Q E_
inductive spAlong (K : PySem.W.Frag) : List V → Hp → VK → XK → Prop
  | mk {vs : List V} {H : Hp} {Q : VK} {E_ : XK} (p : Int) (c : Addr) (n : Nat) (cs : List Int) (z_0 : vs = [.int p, .ref c, .int (n : Int)]) (z_1 : 0 < p) (z_2 : p ≤ 1000) (z_3 : n ≤ 1000) (z_4 : IL K H c cs) (z_5 : NewL H (SM.along p cs n) Q) : spAlong K vs H Q E_
inductive spSum (K : PySem.W.Frag) : List V → Hp → VK → XK → Prop
  | mk {vs : List V} {H : Hp} {Q : VK} {E_ : XK} (p : Int) (a b : Addr) (xs ys : List Int) (z_0 : vs = [.int p, .ref a, .ref b]) (z_1 : 0 < p) (z_2 : IL K H a xs) (z_3 : IL K H b ys) (z_4 : xs.length ≤ 1000) (z_5 : NewL H (SM.sumC p xs ys) Q) : spSum K vs H Q E_
inductive spScaled (K : PySem.W.Frag) : List V → Hp → VK → XK → Prop
  | mk {vs : List V} {H : Hp} {Q : VK} {E_ : XK} (p : Int) (c : Addr) (f : Int) (cs : List Int) (z_0 : vs = [.int p, .ref c, .int f]) (z_1 : 0 < p) (z_2 : (-(2 ^ 64) < f ∧ f < 2 ^ 64)) (z_3 : IL K H c cs) (z_4 : cs.length ≤ 1000) (z_5 : NewL H (SM.scal p cs f) Q) : spScaled K vs H Q E_
inductive spWo : List V → Hp → VK → XK → Prop
  | mk {vs : List V} {H : Hp} {Q : VK} {E_ : XK} (p : Int) (c : Addr) (x : Int) (cs : List Int) (z_0 : vs = [.int p, .ref c, .int x]) (z_1 : 0 < p) (z_2 : (-(2 ^ 64) < x ∧ x < 2 ^ 64)) (z_3 : H c = some (.lst (cs.map V.int))) (z_4 : cs.length ≤ 900) (z_5 : NewL H (SM.woN p cs x) Q) : spWo  vs H Q E_
inductive spCt (K : PySem.W.Frag) : List V → Hp → VK → XK → Prop
  | mk {vs : List V} {H : Hp} {Q : VK} {E_ : XK} (p : Int) (a b : Addr) (xs ss : List Int) (z_0 : vs = [.int p, .ref a, .ref b]) (z_1 : 2 ≤ p) (z_2 : p ≤ 1000) (z_3 : IL K H a xs) (z_4 : IL K H b ss) (z_5 : xs.length ≤ 800) (z_6 : (∀ x ∈ xs, -(2 ^ 64) < x ∧ x < 2 ^ 64)) (z_7 : NewL H (SM.ct p xs ss) Q) : spCt K vs H Q E_
/-- nothing is refused -/
inductive spPrime : List V → Hp → VK → XK → Prop
  | mk {vs : List V} {H : Hp} {Q : VK} {E_ : XK} (p : Int) (z_0 : vs = [.int p]) (z_1 : Ok p) (z_2 : Q (.bl true) H) : spPrime  vs H Q E_
inductive spCheckPrime : List V → Hp → VK → XK → Prop
  | mk {vs : List V} {H : Hp} {Q : VK} {E_ : XK} (p : Int) (z_0 : vs = [.int p]) (z_1 : Ok p) (z_2 : Q .non H) : spCheckPrime  vs H Q E_
inductive spIsSign : List V → Hp → VK → XK → Prop
  | mk {vs : List V} {H : Hp} {Q : VK} {E_ : XK} (p a : Int) (z_0 : vs = [.int p, .int a]) (z_1 : Q (.bl (decide (0 ≤ a ∧ a < p))) H) : spIsSign  vs H Q E_
inductive spCheckSigns (K : PySem.W.Frag) : List V → Hp → VK → XK → Prop
  | mk {vs : List V} {H : Hp} {Q : VK} {E_ : XK} (p : Int) (a : Addr) (ns : List Int) (z_0 : vs = [.int p, .ref a]) (z_1 : IL K H a ns) (z_2 : (∀ s ∈ ns, 0 ≤ s ∧ s < p)) (z_3 : Q .non H) : spCheckSigns K vs H Q E_
inductive spCheckLen : List V → Hp → VK → XK → Prop
  | mk {vs : List V} {H : Hp} {Q : VK} {E_ : XK} (p m n : Int) (z_0 : vs = [.int p, .int m, .int n]) (z_1 : 1 ≤ m) (z_2 : m ≤ n) (z_3 : n ≤ p) (z_4 : Q .non H) : spCheckLen  vs H Q E_
inductive spLonger (K : PySem.W.Frag) : List V → Hp → VK → XK → Prop
  | mk {vs : List V} {H : Hp} {Q : VK} {E_ : XK} (p : Int) (a : Addr) (ws : List Int) (n : Nat) (z_0 : vs = [.int p, .ref a, .int (n : Int)]) (z_1 : 2 ≤ p) (z_2 : p ≤ 1000) (z_3 : n ≤ 1000) (z_4 : IL K H a ws) (z_5 : ws.length ≤ 800) (z_6 : NewL H (SM.lengthened p ws n) Q) : spLonger K vs H Q E_
inductive spMade (K : PySem.W.Frag) : List V → Hp → VK → XK → Prop
  | mk {vs : List V} {H : Hp} {Q : VK} {E_ : XK} (p : Int) (a : Addr) (ws : List Int) (n : Nat) (z_0 : vs = [.int p, .ref a, .int (n : Int)]) (z_1 : Ok p) (z_2 : IL K H a ws) (z_3 : (∀ s ∈ ws, 0 ≤ s ∧ s < p)) (z_4 : 1 ≤ ws.length) (z_5 : ws.length ≤ n) (z_6 : ws.length ≤ 800) (z_7 : (n : Int) ≤ p) (z_8 : NewL H (SM.lengthened p ws n) Q) : spMade K vs H Q E_
/-- measures of loops: the int at a name, the length of the list at a name -/
def mI (σ : St) (k : Nat) : Int := match σ[k]? with
  | some (some (.int i)) => i
  | _ => 0
theorem drop_step {cs : List Int} {i : Nat} (h : i < cs.length) : ∃ a : Int, (cs.map V.int)[(cs.map V.int).length - 1 - i]? = some (.int a) ∧ cs.drop (cs.length - (i + 1)) = a :: cs.drop (cs.length - i) := by
  have hk : cs.length - 1 - i < cs.length := by (first | lia | omega)
  refine ⟨cs[cs.length - 1 - i], ?_, ?_⟩
  · rw [List.length_map, List.getElem?_map, List.getElem?_eq_getElem hk]; rfl
  · have e := List.drop_eq_getElem_cons hk
    rw [show cs.length - (i + 1) = cs.length - 1 - i by (first | lia | omega), e, show cs.length - 1 - i + 1 = cs.length - i by (first | lia | omega)]
theorem signAt_mem {p : Int} (hp : 0 < p) (c : List Int) (x : Int) : 0 ≤ SM.signAt p c x ∧ SM.signAt p c x < p := by rw [SM.signAt_ev]; exact md hp
theorem get_int {xs : List Int} {i : Nat} {v : V} (h : (xs.map V.int)[i]? = some v) : ∃ a, v = .int a ∧ xs[i]? = some a := by
  rw [List.getElem?_map] at h
  cases e : xs[i]? with
  | none => rw [e] at h; cases h
  | some a => rw [e] at h; cases h; exact ⟨a, rfl, rfl⟩
theorem take_snoc {α : Type} {xs : List α} {i : Nat} {a : α} (h : xs[i]? = some a) : xs.take (i + 1) = xs.take i ++ [a] := by rw [List.take_add_one, h]; rfl
theorem zip_take {f : Int → Int → Int} {xs ys : List Int} {i : Nat} {a b : Int} (ha : xs[i]? = some a) (hb : ys[i]? = some b) : List.zipWith f (xs.take (i + 1)) (ys.take (i + 1)) = List.zipWith f (xs.take i) (ys.take i) ++ [f a b] := by
  have h1 := (List.getElem?_eq_some_iff.mp ha).1
  have h2 := (List.getElem?_eq_some_iff.mp hb).1
  rw [take_snoc ha, take_snoc hb, List.zipWith_append (by simp; (first | lia | omega))]; rfl
theorem zip_all {f : Int → Int → Int} {xs ys : List Int} : List.zipWith f (xs.take (min xs.length ys.length)) (ys.take (min xs.length ys.length)) = List.zipWith f xs ys := by
  rw [← List.take_zipWith, List.take_of_length_le (by simp)]
theorem zip_len_le {f : Int → Int → Int} {xs ys : List Int} {n : Nat} (h : xs.length ≤ n) (i : Nat) : (List.zipWith f (xs.take i) (ys.take i)).length ≤ n := by simp; (first | lia | omega)
theorem foldl_snoc {α β : Type} {f : β → α → β} {l : List α} {i : Nat} {a : α} {b : β} (h : l[i]? = some a) : (l.take (i + 1)).foldl f b = f ((l.take i).foldl f b) a := by rw [take_snoc h, List.foldl_append]; rfl
theorem ct_len {p : Int} : ∀ (l : List (Int × Int)) (st : List Int × List Int), st.2.length = st.1.length + 1 → (l.foldl (SM.ctTurn p) st).1.length = st.1.length + l.length ∧ (l.foldl (SM.ctTurn p) st).2.length = st.1.length + l.length + 1
  | [], st, h => ⟨rfl, h⟩
  | a :: l, st, h => by
    have h1 : (SM.ctTurn p st a).1.length = st.1.length + 1 := by
      show (SM.sumC p (st.1 ++ [0]) (SM.scal p st.2 _)).length = _
      rw [SM.sumC_len p _ _ (by rw [SM.scal_len]; simp [h])]; simp
    have h2 : (SM.ctTurn p st a).2.length = st.1.length + 2 := by
      show (SM.woN p st.2 a.1).length = _
      rw [SM.woN_len, h]
    have ih := ct_len (p := p) l (SM.ctTurn p st a) (by rw [h1, h2])
    rw [h1] at ih
    rw [List.foldl_cons]
    exact ⟨by rw [ih.1]; simp; (first | lia | omega), by rw [ih.2]; simp; (first | lia | omega)⟩
def stI (p : Int) (xs ss : List Int) (i : Nat) : List Int × List Int := ((xs.zip ss).take i).foldl (SM.ctTurn p) ([], [1])
theorem stI_len {p : Int} {xs ss : List Int} {i : Nat} (h : i ≤ (xs.zip ss).length) : (stI p xs ss i).1.length = i ∧ (stI p xs ss i).2.length = i + 1 := by
  have q := ct_len (p := p) ((xs.zip ss).take i) ([], [1]) rfl
  have e : ((xs.zip ss).take i).length = i := by rw [List.length_take]; (first | lia | omega)
  rw [e] at q
  unfold stI
  exact ⟨by rw [q.1]; simp, by rw [q.2]; simp⟩
theorem ite_no {c A B : Prop} [Decidable c] (h : ¬ c) (b : B) : if decide c = true then A else B := by
  rw [decide_eq_false h]; exact iteF b
theorem fld_no {p d : Int} (F : SM.Fld p) (h2 : 2 ≤ d) (h : d * d ≤ p) : ¬ p % d = 0 := fun e => by
  have h3 : 2 * d ≤ d * d := Int.mul_le_mul_of_nonneg_right h2 (by (first | lia | omega))
  obtain ⟨k, hk⟩ := F.inv d (by (first | lia | omega)) (by (first | lia | omega))
  obtain ⟨c, hc⟩ := Int.dvd_of_emod_eq_zero e
  have : d * (SM.inv p d - c * k) = 1 := by
    have : SM.inv p d * d = 1 + d * c * k := by rw [← hc]; exact hk
    grind
  have h1 : d ∣ 1 := ⟨_, this.symm⟩
  have := Int.le_of_dvd (by decide) h1
  (first | lia | omega)
theorem bt_list : bootBuiltins "list" = some (.type "list") := by decide +kernel
theorem bt_range : bootBuiltins "range" = some (.type "range") := by decide +kernel
theorem rngV_eq (n : Nat) : rngV 0 n = (SM.rng n).map V.int := by
  unfold rngV SM.rng
  rw [List.map_map]
  exact List.map_congr_left fun k _ => by simp
theorem cut_take {xs : List V} {n : Nat} (h : n ≤ xs.length) : cutV xs none (some (n : Int)) = xs.take n := by
  unfold cutV
  rw [HT.sIx_none, HT.sIx_nat, Nat.min_eq_left h, List.drop_zero, Nat.sub_zero]
end Sy
namespace L3
open PySem PySem.Spec L2
open PyProof.Rows hiding St
end L3
namespace L3
open PySem PySem.Spec L2
open PyProof.Rows hiding St
theorem sl_listK {X : Cx} (K : PySem.W.Frag) (hK : X.K = K) : SlR X (rSlL K) := by
  subst hK
  exact sl_list
end L3
namespace L3
open PySem PySem.Spec L2
open PyProof.Rows hiding St
end L3
namespace L3
open PySem PySem.Spec L2
open PyProof.Rows hiding St
inductive rLen (K : PySem.W.Frag) : List V → Hp → VK → Prop
  | mk {xs : List V} {H : Hp} {Q : VK} (p : Addr) (ys : List V) (z_0 : xs = [.ref p]) (z_1 : SqL K H p ys ∨ SqT K H p ys) (z_2 : Q (.int ys.length) H) : rLen K xs H Q
inductive rIsin (K : PySem.W.Frag) : List V → Hp → VK → Prop
  | mk {xs : List V} {H : Hp} {Q : VK} (x : V) (n : String) (t : Value) (b : Bool) (z_0 : xs = [x, .ty n]) (z_1 : TyOf K H x t) (z_2 : PySem.W.kitOne K t (.type n) = some b) (z_3 : Q (.bl b) H) : rIsin K xs H Q
inductive rListOf (K : PySem.W.Frag) : List V → Hp → VK → Prop
  | mk {xs : List V} {H : Hp} {Q : VK} (p : Addr) (ys : List V) (z_0 : xs = [.ref p]) (z_1 : SqL K H p ys ∨ SqT K H p ys) (z_2 : ∀ l, H l = none → Q (.ref l) (upd H l (.lst ys))) : rListOf K xs H Q
section
variable {X : Cx}
theorem call_len_seqK (K : PySem.W.Frag) (hK : X.K = K) : CallR X (.builtin "len") (rLen K) := by
  subst hK
  intro pins s σ H xs us Q I r h
  obtain ⟨p, ys, e, hs, q⟩ := h
  exact call_len_seq pins s σ H xs us Q I r ⟨p, ys, e, hs, q⟩
theorem call_isinK (K : PySem.W.Frag) (hK : X.K = K) : CallR X (.builtin "isinstance") (rIsin K) := by
  subst hK
  intro pins s σ H xs us Q I r h
  obtain ⟨x, n, t, b, e, h1, h2, q⟩ := h
  exact call_isin pins s σ H xs us Q I r ⟨x, n, t, b, e, h1, h2, q⟩
theorem call_list_ofK (K : PySem.W.Frag) (hK : X.K = K) : CallR X (.type "list") (rListOf K) := by
  subst hK
  intro pins s σ H xs us Q I r h
  obtain ⟨p, ys, e, hs, q⟩ := h
  exact call_list_of pins s σ H xs us Q I r ⟨p, ys, e, hs, q⟩
theorem pi_listK {tg l : Expr} {tl : TE} (K : PySem.W.Frag) (hK : X.K = K) (hl : PE X l tl) : PI X tg l (iList K tl) := by
  subst hK
  exact pi_list hl
theorem pi_zipK {es : List Expr} {kt : Nat} {pt : Pos} {a b : Expr} {ta : TA} {p pos : Pos} (K : PySem.W.Frag) (hK : X.K = K) (hg : Gl X "zip") (hm : X.mg "zip" = none) (ha : PA X [a, b] ta) (hs : starEach [a, b] X.env = [(false, eval a X.env), (false, eval b X.env)] := by rfl) (hs2 : starEach [b] X.env = [(false, eval b X.env)] := by rfl) :
    PI X (.Tuple es kt pt) (.Call (.Name "zip" p) [a, b] [] pos) (iZip K ta) := by
  subst hK
  exact pi_zip hg hm ha hs hs2
end
end L3
namespace Sy
open PySem PySem.Spec L2 L3
open PyProof.Rows hiding St
seal L2.PSs L2.PS L2.PE L2.PT L2.PW L2.PA L2.PG L2.PGs L2.PI L3.PIf
def vo : Option Int → V
  | none => .non
  | some i => .int i
abbrev OL (K : PySem.W.Frag) (H : Hp) (a : Addr) (os : List (Option Int)) : Prop := SqL K H a (os.map vo)
end Sy
namespace Sy
open PySem PySem.Spec L2 L3
open PyProof.Rows hiding St
seal L2.PSs L2.PS L2.PE L2.PT L2.PW L2.PA L2.PG L2.PGs L2.PI L3.PIf
section
variable {P : Program} {w : World} {K : PySem.W.Frag} {mg : Str → Option Value} {base : Heap}
theorem sc_added : FnScope ["prime", "one", "two"] ["prime", "one", "two"] (defScope (top 11)) := ⟨rfl, rfl, rfl, by decide +kernel, rfl, by decide +kernel, by decide +kernel⟩
theorem ok_added (D : Def K mg "added" ["prime", "one", "two"] (top 11)) : Has P w K mg base 1 "added" ["prime", "one", "two"] spAdded := by
  refine D.ok sc_added (fun vs H Q E h => by obtain ⟨p, a, b, rfl, _⟩ := h; rfl) fun f cdv A outer s H vs Q E hr h => ?_
  obtain ⟨p, a, b, rfl, hp, q⟩ := h
  refine ⟨_, pss_one (ps_ret (pe_op op_mod (pe_op op_add (pv 1) (pv 2)) (pv 0))), ?_⟩
  exact ⟨_, rfl, _, rfl, _, _, rfl, rfl, _, rfl, _, _, rfl, rfl, hp, q⟩
theorem sc_lessened : FnScope ["prime", "one", "two"] ["prime", "one", "two"] (defScope (top 12)) := ⟨rfl, rfl, rfl, by decide +kernel, rfl, by decide +kernel, by decide +kernel⟩
theorem ok_lessened (D : Def K mg "lessened" ["prime", "one", "two"] (top 12)) : Has P w K mg base 1 "lessened" ["prime", "one", "two"] spLess := by
  refine D.ok sc_lessened (fun vs H Q E h => by obtain ⟨p, a, b, rfl, _⟩ := h; rfl) fun f cdv A outer s H vs Q E hr h => ?_
  obtain ⟨p, a, b, rfl, hp, q⟩ := h
  refine ⟨_, pss_one (ps_ret (pe_op op_mod (pe_op op_sub (pv 1) (pv 2)) (pv 0))), ?_⟩
  exact ⟨_, rfl, _, rfl, _, _, rfl, rfl, _, rfl, _, _, rfl, rfl, hp, q⟩
theorem sc_multiplied : FnScope ["prime", "one", "two"] ["prime", "one", "two"] (defScope (top 13)) := ⟨rfl, rfl, rfl, by decide +kernel, rfl, by decide +kernel, by decide +kernel⟩
theorem ok_multiplied (D : Def K mg "multiplied" ["prime", "one", "two"] (top 13)) : Has P w K mg base 1 "multiplied" ["prime", "one", "two"] spMul := by
  refine D.ok sc_multiplied (fun vs H Q E h => by obtain ⟨p, a, b, rfl, _⟩ := h; rfl) fun f cdv A outer s H vs Q E hr h => ?_
  obtain ⟨p, a, b, rfl, hp, hm, q⟩ := h
  refine ⟨_, pss_one (ps_ret (pe_op op_mod (pe_op op_mul (pv 1) (pv 2)) (pv 0))), ?_⟩
  exact ⟨_, rfl, _, rfl, _, _, rfl, rfl, hm, _, rfl, _, _, rfl, rfl, hp, q⟩
theorem sc_power : FnScope ["prime", "sign", "times", "result", "square", "left"] ["prime", "sign", "times"] (defScope (top 14)) := ⟨rfl, rfl, rfl, by decide +kernel, rfl, by decide +kernel, by decide +kernel⟩
theorem ok_power (D : Def K mg "power" ["prime", "sign", "times"] (top 14)) (M : Has P w K mg base 1 "multiplied" ["prime", "one", "two"] spMul) : Has P w K mg base 2 "power" ["prime", "sign", "times"] spPower := by
  refine D.ok sc_power (fun vs H Q E h => by obtain ⟨p, a, b, rfl, _⟩ := h; rfl) fun f cdv A outer s H vs Q E hr h => ?_
  obtain ⟨p, a, n, rfl, hp, hp2, ha, ha2, hn, q⟩ := h
  refine ⟨_, pss_cons (ps_set (i := 3) sc_power.nd rfl (Or.inl rfl) pe_int) (pss_cons (ps_set (i := 4) sc_power.nd rfl (Or.inl rfl) (pv 1)) (pss_cons (ps_set (i := 5) sc_power.nd rfl (Or.inl rfl) (pv 2))
    (pss_cons (ps_while PassesOwn.never (pt_cmpR op_gt (pv 5) pe_int (nomark _))
      (pss_cons (ps_if (pt_cmpR op_eq (pe_op op_mod (pv 5) pe_int) pe_int (nomark _)) (pss_one (ps_set (i := 3) sc_power.nd rfl (Or.inl rfl) (pcall M hr rfl (pa_cons (pv 0) (pa_cons (pv 3) (pa_cons (pv 4) pa_nil)))))) pss_nil)
      (pss_cons (ps_set (i := 4) sc_power.nd rfl (Or.inl rfl) (pcall M hr rfl (pa_cons (pv 0) (pa_cons (pv 4) (pa_cons (pv 4) pa_nil)))))
      (pss_one (ps_set (i := 5) sc_power.nd rfl (Or.inl rfl) (pe_op op_fdiv (pv 5) pe_int))))))
    (pss_one (ps_ret (pv 3)))))), ?_⟩
  refine ⟨_, rfl, _, rfl, ?_⟩
  refine while_by (fun σ H' => H' = H ∧ ∃ (r sq : Int) (l : Nat), σ = [some (.int p), some (.int a), some (.int n), some (.int r), some (.int sq), some (.int (l : Int))] ∧ 0 ≤ r ∧ r ≤ 1000 ∧ 0 ≤ sq ∧ sq < p ∧ SM.powGo p (l + 1) r sq l = SM.pow p a n.toNat)
    (fun σ _ => (mI σ 5).toNat) ⟨rfl, 1, a, n.toNat, ?_, by (first | lia | omega), by (first | lia | omega), ha, ha2, rfl⟩ ?_ ?_
  · rw [show ((n.toNat : Nat) : Int) = n by (first | lia | omega)]; rfl
  · rintro σ H' ⟨rfl, r, sq, l, rfl, r0, r1, s0, s1, e⟩
    refine ⟨_, rfl, _, _, rfl, rfl, _, rfl, ?_⟩
    refine ite2 (fun c => ?_) (fun c => ?_)
    · have hl : 0 < l := by have := of_decide_eq_true c; (first | lia | omega)
      have e1 : SM.powGo p l (if l % 2 = 1 then (r * sq) % p else r) ((sq * sq) % p) (l / 2) = SM.pow p a n.toNat := by
        rw [← e]
        show _ = (if l = 0 then r else _)
        rw [if_neg (show ¬ l = 0 by (first | lia | omega))]
      have e2 : SM.powGo p (l / 2 + 1) (if l % 2 = 1 then (r * sq) % p else r) ((sq * sq) % p) (l / 2) = SM.pow p a n.toNat := by
        rw [← e1]
        have t1 : l / 2 < 2 ^ (l / 2 + 1) := Nat.lt_trans (Nat.lt_succ_self _) Nat.lt_two_pow_self
        have t2 : l / 2 < 2 ^ l := Nat.lt_of_le_of_lt (Nat.div_le_self ..) Nat.lt_two_pow_self
        exact SM.powGo_fuel _ _ _ _ _ t1 t2
      have hd : ((l : Int) / 2) = ((l / 2 : Nat) : Int) := by (first | lia | omega)
      have sq1 := md (a := sq * sq) hp
      refine ⟨_, rfl, _, _, rfl, rfl, (show (0 : Int) < 2 by decide), rfl, _, rfl, ?_⟩
      refine ite2 (fun c2 => ?_) (fun c2 => ?_)
      · have h2 : l % 2 = 1 := by
          have := of_decide_eq_true c2
          injection this with this
          (first | lia | omega)
        rw [if_pos h2] at e2
        have r2 := md (a := r * sq) hp
        refine ⟨_, rfl, _, rfl, _, rfl, p, r, sq, rfl, hp, cmr s0 s1 hp2, ?_⟩
        refine ⟨_, rfl, _, rfl, _, rfl, p, sq, sq, rfl, hp, cmr s0 s1 hp2, ?_⟩
        refine ⟨_, rfl, _, _, rfl, rfl, ⟨by decide, by decide⟩, ⟨rfl, _, _, l / 2, congrArg (fun z => [some (V.int p), some (.int a), some (.int n), some (.int ((r * sq) % p)), some (.int ((sq * sq) % p)), some (.int z)]) hd, r2.1, by (first | lia | omega), sq1.1, sq1.2, e2⟩, ?_⟩
        show ((l : Int) / 2).toNat < ((l : Int)).toNat
        (first | lia | omega)
      · have h2 : ¬ l % 2 = 1 := fun z => c2 (decide_eq_true (congrArg V.int (show ((l : Int) % 2) = 1 by (first | lia | omega))))
        rw [if_neg h2] at e2
        refine ⟨_, rfl, _, rfl, _, rfl, p, sq, sq, rfl, hp, cmr s0 s1 hp2, ?_⟩
        refine ⟨_, rfl, _, _, rfl, rfl, ⟨by decide, by decide⟩, ⟨rfl, _, _, l / 2, congrArg (fun z => [some (V.int p), some (.int a), some (.int n), some (.int r), some (.int ((sq * sq) % p)), some (.int z)]) hd, r0, r1, sq1.1, sq1.2, e2⟩, ?_⟩
        show ((l : Int) / 2).toNat < ((l : Int)).toNat
        (first | lia | omega)
    · have hl : l = 0 := by
        have : ¬ (0 : Int) < (l : Int) := fun z => c (decide_eq_true z)
        (first | lia | omega)
      subst hl
      refine ⟨_, rfl, ?_⟩
      have er : r = SM.pow p a n.toNat := by rw [← e]; rfl
      rw [er]; exact q
  · rintro σ H' Q1 Q2 hQ ⟨v, e, i, j, e1, e2, k, e3, h⟩
    exact ⟨v, e, i, j, e1, e2, k, e3, hQ _ _ h⟩
theorem sc_inverse : FnScope ["prime", "sign"] ["prime", "sign"] (defScope (top 15)) := ⟨rfl, rfl, rfl, by decide +kernel, rfl, by decide +kernel, by decide +kernel⟩
theorem ok_inverse (D : Def K mg "inverse" ["prime", "sign"] (top 15)) (M : Has P w K mg base 2 "power" ["prime", "sign", "times"] spPower) : Has P w K mg base 3 "inverse" ["prime", "sign"] spInv := by
  refine D.ok sc_inverse (fun vs H Q E h => by obtain ⟨p, a, rfl, _⟩ := h; rfl) fun f cdv A outer s H vs Q E hr h => ?_
  obtain ⟨p, a, rfl, hp, hp2, ha, ha2, q⟩ := h
  refine ⟨_, pss_one (ps_ret (pcall M hr rfl (pa_cons (pv 0) (pa_cons (pv 1) (pa_cons (pe_op op_sub (pv 0) pe_int) pa_nil))))), ?_⟩
  exact ⟨_, rfl, _, rfl, _, rfl, _, _, rfl, rfl, p, a, p - 2, rfl, by (first | lia | omega), hp2, ha, ha2, by (first | lia | omega), q⟩
theorem sc_sign_at : FnScope ["prime", "curve", "place", "total", "number"] ["prime", "curve", "place"] (defScope (top 17)) := ⟨rfl, rfl, rfl, by decide +kernel, rfl, by decide +kernel, by decide +kernel⟩
theorem ok_sign_at (D : Def K mg "sign_at" ["prime", "curve", "place"] (top 17)) (hrev : mg "reversed" = none) (A1 : Has P w K mg base 1 "added" ["prime", "one", "two"] spAdded) (M : Has P w K mg base 1 "multiplied" ["prime", "one", "two"] spMul) :
    Has P w K mg base 2 "sign_at" ["prime", "curve", "place"] (spSignAt K) := by
  refine D.ok sc_sign_at (fun vs H Q E h => by obtain ⟨p, c, x, cs, rfl, _⟩ := h; rfl) fun f cdv A outer s H vs Q E hr h => ?_
  obtain ⟨p, c, x, cs, rfl, hp, hp2, hc, q⟩ := h
  refine ⟨_, pss_cons (ps_set (i := 3) sc_sign_at.nd rfl (Or.inl rfl) pe_int) (pss_cons (ps_for PassesOwn.never rfl (pi_rev rfl hrev (pa_cons (pv 1) pa_nil)) (pg_name (i := 4) sc_sign_at.nd rfl (Or.inl rfl))
    (pss_one (ps_set (i := 3) sc_sign_at.nd rfl (Or.inl rfl) (pcall A1 hr rfl (pa_cons (pv 0) (pa_cons (pcall M hr rfl (pa_cons (pv 0) (pa_cons (pv 3) (pa_cons (pv 2) pa_nil)))) (pa_cons (pv 4) pa_nil)))))))
    (pss_one (ps_ret (pv 3)))), ?_⟩
  refine ⟨_, rfl, c, _, rfl, hc, ?_⟩
  refine for_rev (fun i σ H' => H' = H ∧ ∃ o : Option V, σ = [some (.int p), some (.ref c), some (.int x), some (.int (SM.signAt p (cs.drop (cs.length - i)) x)), o]) ⟨rfl, none, ?_⟩ (fun i σ H' _ h => by rw [h.1]; exact hc) ?_ ?_
  · rw [Nat.sub_zero, List.drop_length]; rfl
  · rintro i v σ H' hi hv ⟨rfl, o, rfl⟩
    rw [List.length_map] at hi
    obtain ⟨a, ha, hd⟩ := drop_step hi
    rw [ha] at hv
    cases hv
    have b := signAt_mem hp (cs.drop (cs.length - i)) x
    refine ⟨_, rfl, _, rfl, _, rfl, _, rfl, p, _, x, rfl, hp, cml b.1 b.2 hp2, _, rfl, p, _, a, rfl, hp, rfl, some (.int a), ?_⟩
    rw [hd]; rfl
  · rintro σ H' ⟨rfl, o, rfl⟩
    refine ⟨_, rfl, ?_⟩
    have e : cs.length - (cs.map V.int).length = 0 := by simp
    rw [e, List.drop_zero]; exact q
theorem sc_signs_along : FnScope ["prime", "curve", "length"] ["prime", "curve", "length"] (defScope (top 18)) := ⟨rfl, rfl, rfl, by decide +kernel, rfl, by decide +kernel, by decide +kernel⟩
theorem ok_signs_along (D : Def K mg "signs_along" ["prime", "curve", "length"] (top 18)) (hrng : mg "range" = none) (S1 : Has P w K mg base 2 "sign_at" ["prime", "curve", "place"] (spSignAt K)) :
    Has P w K mg base 3 "signs_along" ["prime", "curve", "length"] (spAlong K) := by
  refine D.ok sc_signs_along (fun vs H Q E h => by obtain ⟨p, c, n, cs, rfl, _⟩ := h; rfl) fun f cdv A outer s H vs Q E hr h => ?_
  obtain ⟨p, c, n, cs, rfl, hp, hp2, hn, hc, q⟩ := h
  refine ⟨_, pss_one (ps_ret (pe_comp (N' := ["place", "prime", "curve"]) (ix := [none, some 0, some 1]) rfl
    ⟨rfl, by decide +kernel, by decide +kernel, by with_unfolding_all rfl, by exact ⟨rfl, rfl, trivial⟩, by exact ⟨⟨_, rfl⟩, ⟨_, rfl⟩, trivial⟩, by exact ⟨⟨rfl, rfl, rfl⟩, ⟨rfl, rfl, rfl⟩, trivial⟩⟩
    (pi_range1 rfl hrng (pa_cons (pv 2) pa_nil))
    fun C ex pn s H => ⟨pg_name (i := 0) (show (["place", "prime", "curve"] : List Str).Nodup by decide +kernel) rfl (Or.inl rfl), pif_nil, pcall S1 hr rfl (pa_cons (pv 1) (pa_cons (pv 2) (pa_cons (pv 0) pa_nil)))⟩)), ?_⟩
  refine ⟨_, rfl, (n : Int), rfl, by (first | lia | omega), by (first | lia | omega), ?_⟩
  rw [Int.toNat_natCast]
  refine comp_range (fun i ys H' => H' = H ∧ ys = (SM.along p cs i).map V.int) ⟨rfl, rfl⟩ ?_ ?_
  · rintro i ys H' hi ⟨rfl, rfl⟩
    refine ⟨small (by simp [SM.along]; (first | lia | omega)), ⟨rfl, rfl, trivial⟩, ⟨_, rfl, _, rfl, _, rfl, p, c, _, cs, rfl, hp, hp2, hc, rfl, ?_⟩⟩
    simp [SM.along, List.range_succ]
  · rintro ys H' ⟨rfl, rfl⟩
    exact ⟨small (by simp [SM.along]; (first | lia | omega)), fun r hr' => q r _ (same_new hr' _) hr' upd_same⟩
theorem sc_scaled : FnScope ["prime", "curve", "factor"] ["prime", "curve", "factor"] (defScope (top 20)) := ⟨rfl, rfl, rfl, by decide +kernel, rfl, by decide +kernel, by decide +kernel⟩
theorem ok_scaled (D : Def K mg "scaled" ["prime", "curve", "factor"] (top 20)) (M : Has P w K mg base 1 "multiplied" ["prime", "one", "two"] spMul) :
    Has P w K mg base 2 "scaled" ["prime", "curve", "factor"] (spScaled K) := by
  refine D.ok sc_scaled (fun vs H Q E h => by obtain ⟨p, c, x, cs, rfl, _⟩ := h; rfl) fun f cdv A outer s H vs Q E hr h => ?_
  obtain ⟨p, c, x, cs, rfl, hp, hx, hc, hn, q⟩ := h
  refine ⟨_, pss_one (ps_ret (pe_comp (N' := ["number", "prime", "factor"]) (ix := [none, some 0, some 2]) rfl
    ⟨rfl, by decide +kernel, by decide +kernel, by with_unfolding_all rfl, by exact ⟨rfl, rfl, trivial⟩, by exact ⟨⟨_, rfl⟩, ⟨_, rfl⟩, trivial⟩, by exact ⟨⟨rfl, rfl, rfl⟩, ⟨rfl, rfl, rfl⟩, trivial⟩⟩
    (pi_listK K rfl (pv 1))
    fun C ex pn s H => ⟨pg_name (i := 0) (show (["number", "prime", "factor"] : List Str).Nodup by decide +kernel) rfl (Or.inl rfl), pif_nil, pcall M hr rfl (pa_cons (pv 1) (pa_cons (pv 0) (pa_cons (pv 2) pa_nil)))⟩)), ?_⟩
  refine ⟨_, rfl, c, rfl, ⟨_, hc⟩, ?_⟩
  refine comp_list (xs := cs.map V.int) (fun i ys H' => H' = H ∧ ys = (SM.scal p (cs.take i) x).map V.int) ⟨rfl, rfl⟩ (fun i ys H' h => by rw [h.1]; exact hc) ?_ ?_
  · rintro i v ys H' hv ⟨rfl, rfl⟩
    obtain ⟨a, rfl, ha⟩ := get_int hv
    refine ⟨small (by simp [SM.scal]; (first | lia | omega)), ⟨rfl, rfl, trivial⟩, ⟨_, rfl, _, rfl, _, rfl, p, a, x, rfl, hp, .inr hx, rfl, ?_⟩⟩
    rw [take_snoc ha]; simp [SM.scal]
  · rintro ys H' ⟨rfl, rfl⟩
    refine ⟨small (by simp [SM.scal]; (first | lia | omega)), fun r hr' => q r _ (same_new hr' _) hr' ?_⟩
    rw [upd_same, List.length_map, List.take_length]
theorem sc_sum : FnScope ["prime", "one", "two"] ["prime", "one", "two"] (defScope (top 19)) := ⟨rfl, rfl, rfl, by decide +kernel, rfl, by decide +kernel, by decide +kernel⟩
theorem ok_sum (D : Def K mg "sum_of_curves" ["prime", "one", "two"] (top 19)) (hz : mg "zip" = none) (M : Has P w K mg base 1 "added" ["prime", "one", "two"] spAdded) :
    Has P w K mg base 2 "sum_of_curves" ["prime", "one", "two"] (spSum K) := by
  refine D.ok sc_sum (fun vs H Q E h => by obtain ⟨p, a, b, xs, ys, rfl, _⟩ := h; rfl) fun f cdv A outer s H vs Q E hr h => ?_
  obtain ⟨p, a, b, xs, ys, rfl, hp, ha, hb, hn, q⟩ := h
  refine ⟨_, pss_one (ps_ret (pe_comp (N' := ["left", "right", "prime"]) (ix := [none, none, some 0]) rfl
    ⟨rfl, by decide +kernel, by decide +kernel, by with_unfolding_all rfl, by exact ⟨rfl, trivial⟩, by exact ⟨⟨_, rfl⟩, trivial⟩, by exact ⟨⟨rfl, rfl, rfl⟩, trivial⟩⟩
    (pi_zipK K rfl rfl hz (pa_cons (pv 1) (pa_cons (pv 2) pa_nil)))
    fun C ex pn s H => ⟨pg_tupK (n := 2) K rfl rfl (pgs_cons (pg_name (i := 0) (show (["left", "right", "prime"] : List Str).Nodup by decide +kernel) rfl (Or.inl rfl)) (pgs_cons (pg_name (i := 1) (show (["left", "right", "prime"] : List Str).Nodup by decide +kernel) rfl (Or.inl rfl)) pgs_nil)), pif_nil, pcall M hr rfl (pa_cons (pv 2) (pa_cons (pv 0) (pa_cons (pv 1) pa_nil)))⟩)), ?_⟩
  refine ⟨_, rfl, _, rfl, a, b, _, _, rfl, ha, hb, ?_⟩
  refine comp_zip (fun i zs H' => Same H H' ∧ zs = (List.zipWith (fun l r => (l + r) % p) (xs.take i) (ys.take i)).map V.int) ⟨Same.refl H, rfl⟩ (fun i zs H' h => ⟨h.1.seq ha, h.1.seq hb⟩) ?_ (fun i zs H' h => ?_) ?_
  · rintro i v u t zs H' hv hu ht ⟨g, rfl⟩
    obtain ⟨v, rfl, hv'⟩ := get_int hv
    replace hv := hv'
    obtain ⟨u, rfl, hu'⟩ := get_int hu
    replace hu := hu'
    refine ⟨small (by rw [List.length_map]; exact zip_len_le hn i), t, _, rfl, SqT.of upd_same, rfl, _, _, rfl, _, _, rfl, rfl, ⟨rfl, trivial⟩, ⟨_, rfl, _, rfl, _, rfl, p, v, u, rfl, hp, g.trans (same_new ht _), ?_⟩⟩
    rw [zip_take hv hu]; simp
  · obtain ⟨_, rfl⟩ := h
    exact small (by rw [List.length_map]; exact zip_len_le hn i)
  · rintro zs H' ⟨g, rfl⟩ r hr'
    refine q r _ (g.trans (same_new hr' _)) (g.free hr') ?_
    rw [upd_same, List.length_map, List.length_map, zip_all]; rfl
theorem sc_wo : FnScope ["prime", "curve", "place", "raised", "kept"] ["prime", "curve", "place"] (defScope (top 21)) := ⟨rfl, rfl, rfl, by decide +kernel, rfl, by decide +kernel, by decide +kernel⟩
theorem ok_wo (D : Def K mg "with_nought_at" ["prime", "curve", "place"] (top 21)) (hz : mg "zip" = none) (M : Has P w K mg base 2 "scaled" ["prime", "curve", "factor"] (spScaled K)) (L : Has P w K mg base 1 "lessened" ["prime", "one", "two"] spLess) :
    Has P w K mg base 3 "with_nought_at" ["prime", "curve", "place"] spWo := by
  refine D.ok sc_wo (fun vs H Q E h => by obtain ⟨p, c, x, cs, rfl, _⟩ := h; rfl) fun f cdv A outer s H vs Q E hr h => ?_
  obtain ⟨p, c, x, cs, rfl, hp, hx, hc, hn, q⟩ := h
  refine ⟨_, pss_cons (ps_set (i := 3) sc_wo.nd rfl (Or.inl rfl) (pe_op op_cat (pe_lst (pa_cons pe_int pa_nil)) (pv 1)))
    (pss_cons (ps_set (i := 4) sc_wo.nd rfl (Or.inl rfl) (pcall M hr rfl (pa_cons (pv 0) (pa_cons (pe_op op_cat (pv 1) (pe_lst (pa_cons pe_int pa_nil))) (pa_cons (pv 2) pa_nil)))))
    (pss_one (ps_ret (pe_comp (N' := ["up", "down", "prime"]) (ix := [none, none, some 0]) rfl
    ⟨rfl, by decide +kernel, by decide +kernel, by with_unfolding_all rfl, by exact ⟨rfl, trivial⟩, by exact ⟨⟨_, rfl⟩, trivial⟩, by exact ⟨⟨rfl, rfl, rfl⟩, trivial⟩⟩
    (pi_zipK K rfl rfl hz (pa_cons (pv 3) (pa_cons (pv 4) pa_nil)))
    fun C ex pn s H => ⟨pg_tupK (n := 2) K rfl rfl (pgs_cons (pg_name (i := 0) (show (["up", "down", "prime"] : List Str).Nodup by decide +kernel) rfl (Or.inl rfl)) (pgs_cons (pg_name (i := 1) (show (["up", "down", "prime"] : List Str).Nodup by decide +kernel) rfl (Or.inl rfl)) pgs_nil)), pif_nil, pcall L hr rfl (pa_cons (pv 2) (pa_cons (pv 0) (pa_cons (pv 1) pa_nil)))⟩)))), ?_⟩
  refine ⟨by show 1 ≤ sizeLine; decide, fun p1 h1 => ⟨_, rfl, p1, c, _, _, rfl, rfl, upd_same, (same_new h1 _) _ _ hc, small (by simp; (first | lia | omega)), fun p2 h2 => ?_⟩⟩
  have g1 : Same H (upd H p1 (.lst [.int 0])) := same_new h1 _
  have g2 := g1.trans (same_new h2 (.lst ([V.int 0] ++ cs.map V.int)))
  refine ⟨_, rfl, _, rfl, by show 1 ≤ sizeLine; decide, fun p3 h3 => ⟨c, p3, _, _, rfl, rfl, (g2.trans (same_new h3 _)) _ _ hc, upd_same, small (by simp; (first | lia | omega)), fun p4 h4 => ?_⟩⟩
  have g3 := g2.trans (same_new h3 (.lst [.int 0]))
  have g4 := g3.trans (same_new h4 (.lst (cs.map V.int ++ [.int 0])))
  refine ⟨_, rfl, p, p4, x, cs ++ [0], rfl, hp, hx, SqL.of (by rw [upd_same]; simp), by simp; (first | lia | omega), fun p5 H5 g5 n5 e5 => ?_⟩
  have hr3 : H5 p2 = some (.lst ((0 :: cs).map V.int)) := g5 _ _ ((same_new h4 _) _ _ ((same_new h3 _) _ _ (by rw [upd_same]; rfl)))
  have g6 := g4.trans g5
  refine ⟨_, rfl, _, rfl, p2, p5, _, _, rfl, SqL.of hr3, SqL.of e5, ?_⟩
  refine comp_zip (fun i zs H' => Same H5 H' ∧ zs = (List.zipWith (fun u d => (u - d) % p) ((0 :: cs).take i) ((SM.scal p (cs ++ [0]) x).take i)).map V.int) ⟨Same.refl H5, rfl⟩ (fun i zs H' h => ⟨h.1.seq (SqL.of hr3), h.1.seq (SqL.of e5)⟩) ?_ (fun i zs H' h => ?_) ?_
  · rintro i v u t zs H' hv hu ht ⟨g, rfl⟩
    obtain ⟨v, rfl, hv'⟩ := get_int hv
    replace hv := hv'
    obtain ⟨u, rfl, hu'⟩ := get_int hu
    replace hu := hu'
    refine ⟨small (by rw [List.length_map]; exact zip_len_le (by simp; (first | lia | omega)) i), t, _, rfl, SqT.of upd_same, rfl, _, _, rfl, _, _, rfl, rfl, ⟨rfl, trivial⟩, ⟨_, rfl, _, rfl, _, rfl, p, v, u, rfl, hp, g.trans (same_new ht _), ?_⟩⟩
    rw [zip_take hv hu]; simp
  · obtain ⟨_, rfl⟩ := h
    exact small (by rw [List.length_map]; exact zip_len_le (by simp; (first | lia | omega)) i)
  · rintro zs H' ⟨g, rfl⟩ r hr'
    refine q r _ ((g6.trans g).trans (same_new hr' _)) ((g6.trans g).free hr') ?_
    rw [upd_same, List.length_map, List.length_map, zip_all]; rfl
theorem sc_ct : FnScope ["prime", "places", "signs", "curve", "noughts", "place", "sign", "missing", "height", "share"] ["prime", "places", "signs"] (defScope (top 22)) := ⟨rfl, rfl, rfl, by decide +kernel, rfl, by decide +kernel, by decide +kernel⟩
theorem ok_ct (D : Def K mg "curve_through" ["prime", "places", "signs"] (top 22)) (hz : mg "zip" = none) (S1 : Has P w K mg base 2 "sign_at" ["prime", "curve", "place"] (spSignAt K)) (L : Has P w K mg base 1 "lessened" ["prime", "one", "two"] spLess)
    (M : Has P w K mg base 1 "multiplied" ["prime", "one", "two"] spMul) (IV : Has P w K mg base 3 "inverse" ["prime", "sign"] spInv) (SU : Has P w K mg base 2 "sum_of_curves" ["prime", "one", "two"] (spSum K))
    (SC : Has P w K mg base 2 "scaled" ["prime", "curve", "factor"] (spScaled K)) (WO : Has P w K mg base 3 "with_nought_at" ["prime", "curve", "place"] spWo) : Has P w K mg base 4 "curve_through" ["prime", "places", "signs"] (spCt K) := by
  refine D.ok sc_ct (fun vs H Q E h => by obtain ⟨p, a, b, xs, ss, rfl, _⟩ := h; rfl) fun f cdv A outer s H vs Q E hr h => ?_
  obtain ⟨p, a, b, xs, ss, rfl, hp2, hpm, ha, hb, hn, hx, q⟩ := h
  have hp : 0 < p := by (first | lia | omega)
  refine ⟨_, pss_cons (ps_set (i := 3) sc_ct.nd rfl (Or.inl rfl) (pe_lst pa_nil)) (pss_cons (ps_set (i := 4) sc_ct.nd rfl (Or.inl rfl) (pe_lst (pa_cons pe_int pa_nil)))
    (pss_cons (ps_for PassesOwn.never rfl (pi_zipK K rfl rfl hz (pa_cons (pv 1) (pa_cons (pv 2) pa_nil))) (pg_tupK K rfl rfl (pgs_cons (pg_name (i := 5) sc_ct.nd rfl (Or.inl rfl)) (pgs_cons (pg_name (i := 6) sc_ct.nd rfl (Or.inl rfl)) pgs_nil)))
      (pss_cons (ps_set (i := 7) sc_ct.nd rfl (Or.inl rfl) (pcall L hr rfl (pa_cons (pv 0) (pa_cons (pv 6) (pa_cons (pcall S1 hr rfl (pa_cons (pv 0) (pa_cons (pv 3) (pa_cons (pv 5) pa_nil)))) pa_nil)))))
      (pss_cons (ps_set (i := 8) sc_ct.nd rfl (Or.inl rfl) (pcall S1 hr rfl (pa_cons (pv 0) (pa_cons (pv 4) (pa_cons (pv 5) pa_nil)))))
      (pss_cons (ps_set (i := 9) sc_ct.nd rfl (Or.inl rfl) (pcall M hr rfl (pa_cons (pv 0) (pa_cons (pv 7) (pa_cons (pcall IV hr rfl (pa_cons (pv 0) (pa_cons (pv 8) pa_nil))) pa_nil)))))
      (pss_cons (ps_set (i := 3) sc_ct.nd rfl (Or.inl rfl) (pcall SU hr rfl (pa_cons (pv 0) (pa_cons (pe_op op_cat (pv 3) (pe_lst (pa_cons pe_int pa_nil))) (pa_cons (pcall SC hr rfl (pa_cons (pv 0) (pa_cons (pv 4) (pa_cons (pv 9) pa_nil)))) pa_nil)))))
      (pss_one (ps_set (i := 4) sc_ct.nd rfl (Or.inl rfl) (pcall WO hr rfl (pa_cons (pv 0) (pa_cons (pv 4) (pa_cons (pv 5) pa_nil)))))))))))
    (pss_one (ps_ret (pv 3))))), ?_⟩
  refine ⟨by show 0 ≤ sizeLine; decide, fun c0 h0 => ⟨by show 1 ≤ sizeLine; decide, fun c1 h1 => ?_⟩⟩
  have g0 : Same H (upd (upd H c0 (.lst [])) c1 (.lst [.int 1])) := (same_new h0 _).trans (same_new h1 _)
  have e0 : (upd (upd H c0 (.lst [])) c1 (.lst [.int 1])) c0 = some (.lst []) := (same_new h1 _) _ _ upd_same
  have e1 : (upd (upd H c0 (.lst [])) c1 (.lst [.int 1])) c1 = some (.lst [.int 1]) := upd_same
  have f0 : H c0 = none := h0
  generalize (upd (upd H c0 (.lst [])) c1 (.lst [.int 1])) = H1 at g0 e0 e1 ⊢
  refine ⟨_, rfl, _, rfl, a, b, _, _, rfl, g0.seq ha, g0.seq hb, ?_⟩
  have hmin : min (xs.map V.int).length (ss.map V.int).length = (xs.zip ss).length := by simp
  refine for_zip (xs := xs.map V.int) (ys := ss.map V.int) (fun i σ H' => i ≤ (xs.zip ss).length ∧ Same H H' ∧ ∃ (rc rn : Addr) (o5 o6 o7 o8 o9 : Option V), σ = [some (.int p), some (.ref a), some (.ref b), some (.ref rc), some (.ref rn), o5, o6, o7, o8, o9] ∧
    H' rc = some (.lst ((stI p xs ss i).1.map V.int)) ∧ H' rn = some (.lst ((stI p xs ss i).2.map V.int)) ∧ H rc = none) ⟨Nat.zero_le _, g0, c0, c1, none, none, none, none, none, rfl, e0, e1, f0⟩ (fun i σ H' _ h => ⟨h.2.1.seq ha, h.2.1.seq hb⟩) ?_ ?_
  · rintro i v u t σ H2 hv hu ht ⟨hi, g, rc, rn, o5, o6, o7, o8, o9, rfl, ec, en, fc⟩
    obtain ⟨v, rfl, hv'⟩ := get_int hv
    replace hv := hv'
    obtain ⟨u, rfl, hu'⟩ := get_int hu
    replace hu := hu'
    have hzip : (xs.zip ss)[i]? = some (v, u) := by rw [List.getElem?_zip_eq_some]; exact ⟨hv, hu⟩
    have hlt : i < (xs.zip ss).length := (List.getElem?_eq_some_iff.mp hzip).1
    have hls : i < 800 := by have : (xs.zip ss).length ≤ xs.length := by simp; (first | lia | omega)
                             (first | lia | omega)
    have hst : stI p xs ss (i + 1) = SM.ctTurn p (stI p xs ss i) (v, u) := foldl_snoc hzip
    have hlen := stI_len (p := p) hi
    have hxv := hx v (List.mem_of_getElem? hv)
    generalize stI p xs ss i = st at ec en hst hlen
    have gt : Same H2 (upd H2 t (.tup [.int v, .int u])) := same_new ht _
    have g3 := g.trans gt
    have ec3 := gt _ _ ec
    have en3 := gt _ _ en
    refine ⟨t, _, rfl, SqT.of upd_same, rfl, _, _, rfl, _, _, rfl, rfl, ?_⟩
    generalize (upd H2 t (.tup [.int v, .int u])) = H3 at gt g3 ec3 en3 ⊢
    have bh := signAt_mem hp st.2 v
    refine ⟨_, rfl, _, rfl, _, rfl, _, rfl, _, rfl, p, rc, v, st.1, rfl, hp, hpm, SqL.of ec3, p, u, _, rfl, hp, ?_⟩
    have bm := md (a := u - SM.signAt p st.1 v) hp
    refine ⟨_, rfl, _, rfl, _, rfl, p, rn, v, st.2, rfl, hp, hpm, SqL.of en3, ?_⟩
    refine ⟨_, rfl, _, rfl, _, rfl, _, rfl, p, _, rfl, hp2, hpm, bh.1, bh.2, p, _, _, rfl, hp, cml bm.1 bm.2 hpm, ?_⟩
    have bs := md (a := (u - SM.signAt p st.1 v) % p * SM.inv p (SM.signAt p st.2 v)) hp
    refine ⟨_, rfl, _, rfl, by show 1 ≤ sizeLine; decide, fun p1 h1 => ⟨rc, p1, _, _, rfl, rfl, (same_new h1 _) _ _ ec3, upd_same, small (by simp; (first | lia | omega)), fun p2 h2 => ?_⟩⟩
    have g4 : Same H3 (upd (upd H3 p1 (.lst [.int 0])) p2 (.lst (st.1.map V.int ++ [.int 0]))) := (same_new h1 _).trans (same_new h2 _)
    have e2 : (upd (upd H3 p1 (.lst [.int 0])) p2 (.lst (st.1.map V.int ++ [.int 0]))) p2 = some (.lst ((st.1 ++ [0]).map V.int)) := by rw [upd_same]; simp
    generalize (upd (upd H3 p1 (.lst [.int 0])) p2 (.lst (st.1.map V.int ++ [.int 0]))) = H4 at g4 e2 ⊢
    refine ⟨_, rfl, _, rfl, _, rfl, p, rn, _, st.2, rfl, hp, ⟨by (first | lia | omega), by (first | lia | omega)⟩, SqL.of (g4 _ _ en3), by (first | lia | omega), fun p3 H5 g5 n5 e5 => ?_⟩
    refine ⟨p, p2, p3, _, _, rfl, hp, SqL.of (g5 _ _ e2), SqL.of e5, by simp; (first | lia | omega), fun p4 H6 g6 n6 e6 => ?_⟩
    have g7 := g4.trans (g5.trans g6)
    refine ⟨_, rfl, _, rfl, _, rfl, p, rn, v, st.2, rfl, hp, hxv, g7 _ _ en3, by (first | lia | omega), fun p5 H7 g8 n8 e8 => ?_⟩
    refine ⟨by (first | lia | omega), g3.trans (g7.trans g8), p4, p5, _, _, _, _, _, rfl, ?_, ?_, (g3.trans (g4.trans g5)).free n6⟩
    · rw [hst]; exact g8 _ _ e6
    · rw [hst]; exact e8
  · rw [hmin]
    rintro σ H2 ⟨hi, g, rc, rn, o5, o6, o7, o8, o9, rfl, ec, en, fc⟩
    refine ⟨_, rfl, q rc H2 g fc ?_⟩
    rw [ec]
    unfold stI SM.ct
    rw [List.take_length]
theorem sc_is_prime : FnScope ["number", "divisor"] ["number"] (defScope (top 7)) := ⟨rfl, rfl, rfl, by decide +kernel, rfl, by decide +kernel, by decide +kernel⟩
theorem ok_is_prime (D : Def K mg "is_prime" ["number"] (top 7)) (hG : ∃ t, mg "GREATEST" = some (.int 1000 t)) : Has P w K mg base 1 "is_prime" ["number"] spPrime := by
  refine D.ok sc_is_prime (fun vs H Q E h => by obtain ⟨p, rfl, _⟩ := h; rfl) fun f cdv A outer s H vs Q E hr h => ?_
  obtain ⟨p, rfl, ⟨F, hp⟩, q⟩ := h
  obtain ⟨tg, hG⟩ := hG
  have h2 := F.two
  refine ⟨_, pss_cons (ps_if (ptw (pw_or (pt_cmpR op_lt (pv 0) pe_int (nomark _)) (pw_or1 (pt_cmpR op_gt (pv 0) (pe_glob (v := .int 1000) (by exact rfl) (by exact hG) (by exact ⟨tg, rfl⟩)) (nomark _))))) (pss_one (ps_ret pe_bl)) pss_nil)
    (pss_cons (ps_set (i := 1) sc_is_prime.nd rfl (Or.inl rfl) pe_int)
    (pss_cons (ps_while PassesOwn.never (pt_cmpR op_le (pe_op op_mul (pv 1) (pv 1)) (pv 0) (nomark _))
      (pss_cons (ps_if (pt_cmpR op_eq (pe_op op_mod (pv 0) (pv 1)) pe_int (nomark _)) (pss_one (ps_ret pe_bl)) pss_nil)
      (pss_one (ps_set (i := 1) sc_is_prime.nd rfl (Or.inl rfl) (pe_op op_add (pv 1) pe_int)))))
    (pss_one (ps_ret pe_bl)))), ?_⟩
  refine ⟨_, rfl, _, _, rfl, rfl, _, rfl, ite_no (by (first | lia | omega)) ⟨_, rfl, _, _, rfl, rfl, _, rfl, ite_no (by (first | lia | omega)) ?_⟩⟩
  refine while_by (fun σ H' => H' = H ∧ ∃ d : Int, σ = [some (.int p), some (.int d)] ∧ 2 ≤ d ∧ d ≤ 1001) (fun σ _ => (1001 - mI σ 1).toNat) ⟨rfl, 2, rfl, by (first | lia | omega), by (first | lia | omega)⟩ ?_ ?_
  · rintro σ H' ⟨rfl, d, rfl, d1, d2⟩
    refine ⟨_, rfl, _, rfl, _, _, rfl, rfl, .inl ⟨by (first | lia | omega), by (first | lia | omega)⟩, _, rfl, _, _, rfl, rfl, _, rfl, ?_⟩
    refine ite2 (fun c => ?_) (fun c => q)
    have hd : d * d ≤ p := of_decide_eq_true c
    have h3 : 2 * d ≤ d * d := Int.mul_le_mul_of_nonneg_right d1 (by (first | lia | omega))
    have hno := fld_no F d1 hd
    refine ⟨_, rfl, _, rfl, _, _, rfl, rfl, (show (0 : Int) < d by (first | lia | omega)), rfl, _, rfl, ite_no (fun z => hno (by injection z)) ?_⟩
    refine ⟨_, rfl, _, _, rfl, rfl, ⟨rfl, d + 1, rfl, by (first | lia | omega), by (first | lia | omega)⟩, ?_⟩
    show (1001 - (d + 1)).toNat < (1001 - d).toNat
    (first | lia | omega)
  · rintro σ H' Q1 Q2 hQ ⟨v, e, v2, e', i, j, e1, e2, c, v3, e3, i', j', e4, e5, k, e6, h⟩
    exact ⟨v, e, v2, e', i, j, e1, e2, c, v3, e3, i', j', e4, e5, k, e6, hQ _ _ h⟩
theorem sc_check_prime : FnScope ["prime"] ["prime"] (defScope (top 8)) := ⟨rfl, rfl, rfl, by decide +kernel, rfl, by decide +kernel, by decide +kernel⟩
theorem ok_check_prime (D : Def K mg "check_prime" ["prime"] (top 8)) (I1 : Has P w K mg base 1 "is_prime" ["number"] spPrime) : Has P w K mg base 2 "check_prime" ["prime"] spCheckPrime := by
  refine D.ok sc_check_prime (fun vs H Q E h => by obtain ⟨p, rfl, _⟩ := h; rfl) fun f cdv A outer s H vs Q E hr h => ?_
  obtain ⟨p, rfl, ok, q⟩ := h
  refine ⟨_, pss_one (ps_if (pt_not (pt_val (pcall I1 hr rfl (pa_cons (pv 0) pa_nil)))) pss_never pss_nil), ?_⟩
  exact ⟨_, rfl, p, rfl, ok, _, rfl, iteF q⟩
theorem sc_is_sign : FnScope ["prime", "number"] ["prime", "number"] (defScope (top 9)) := ⟨rfl, rfl, rfl, by decide +kernel, rfl, by decide +kernel, by decide +kernel⟩
theorem ok_is_sign (D : Def K mg "is_sign" ["prime", "number"] (top 9)) : Has P w K mg base 1 "is_sign" ["prime", "number"] spIsSign := by
  refine D.ok sc_is_sign (fun vs H Q E h => by obtain ⟨p, a, rfl, _⟩ := h; rfl) fun f cdv A outer s H vs Q E hr h => ?_
  obtain ⟨p, a, rfl, q⟩ := h
  refine ⟨_, pss_one (ps_ret (pe_and (pe_cmpR op_ge (pv 1) pe_int (nomark _)) (pe_one (pe_cmpR op_lt (pv 1) (pv 0) (nomark _))))), ?_⟩
  refine ⟨_, rfl, _, _, rfl, rfl, _, rfl, ite2 (fun c => ⟨_, rfl, _, rfl, _, _, rfl, rfl, ?_⟩) (fun c => ?_)⟩
  · have h0 : (0 : Int) ≤ a := of_decide_eq_true c
    show Q (.bl (decide (a < p))) H
    rw [show decide (a < p) = decide (0 ≤ a ∧ a < p) from decide_eq_decide.mpr ⟨fun h => ⟨h0, h⟩, fun h => h.2⟩]
    exact q
  · have h0 : ¬ (0 : Int) ≤ a := fun z => c (decide_eq_true z)
    show Q (.bl false) H
    rw [show false = decide (0 ≤ a ∧ a < p) from (decide_eq_false fun h => h0 h.1).symm]
    exact q
theorem sc_check_signs : FnScope ["prime", "signs", "sign"] ["prime", "signs"] (defScope (top 10)) := ⟨rfl, rfl, rfl, by decide +kernel, rfl, by decide +kernel, by decide +kernel⟩
theorem ok_check_signs (D : Def K mg "check_signs" ["prime", "signs"] (top 10)) (I1 : Has P w K mg base 1 "is_sign" ["prime", "number"] spIsSign) : Has P w K mg base 2 "check_signs" ["prime", "signs"] (spCheckSigns K) := by
  refine D.ok sc_check_signs (fun vs H Q E h => by obtain ⟨p, a, ns, rfl, _⟩ := h; rfl) fun f cdv A outer s H vs Q E hr h => ?_
  obtain ⟨p, a, ns, rfl, ha, hs, q⟩ := h
  refine ⟨_, pss_one (ps_for PassesOwn.never rfl (pi_listK K rfl (pv 1)) (pg_name (i := 2) sc_check_signs.nd rfl (Or.inl rfl))
    (pss_cons (ps_if (pt_cmp (pc_isN (pv 2))) pss_never pss_nil) (pss_one (ps_if (pt_not (pt_val (pcall I1 hr rfl (pa_cons (pv 0) (pa_cons (pv 2) pa_nil))))) pss_never pss_nil)))), ?_⟩
  refine ⟨_, rfl, a, rfl, ⟨_, ha⟩, ?_⟩
  refine for_list (xs := ns.map V.int) (fun i σ H' => H' = H ∧ ∃ o : Option V, σ = [some (.int p), some (.ref a), o]) ⟨rfl, none, rfl⟩ (fun i σ H' _ h => by rw [h.1]; exact ha) ?_ ?_
  · rintro i v σ H' hv ⟨rfl, o, rfl⟩
    obtain ⟨v, rfl, hv'⟩ := get_int hv
    replace hv := hv'
    have b := hs v (List.mem_of_getElem? hv)
    refine ⟨_, rfl, _, rfl, iteF ?_⟩
    refine ⟨_, rfl, _, rfl, p, v, rfl, _, rfl, ?_⟩
    rw [decide_eq_true b]
    exact iteF ⟨rfl, _, rfl⟩
  · rintro σ H' ⟨rfl, _⟩
    exact q
theorem sc_check_length : FnScope ["prime", "size", "length"] ["prime", "size", "length"] (defScope (top 24)) := ⟨rfl, rfl, rfl, by decide +kernel, rfl, by decide +kernel, by decide +kernel⟩
theorem ok_check_length (D : Def K mg "check_length" ["prime", "size", "length"] (top 24)) : Has P w K mg base 1 "check_length" ["prime", "size", "length"] spCheckLen := by
  refine D.ok sc_check_length (fun vs H Q E h => by obtain ⟨p, m, n, rfl, _⟩ := h; rfl) fun f cdv A outer s H vs Q E hr h => ?_
  obtain ⟨p, m, n, rfl, h1, h2, h3, q⟩ := h
  refine ⟨_, pss_cons (ps_if (pt_cmpR op_lt (pv 1) pe_int (nomark _)) pss_never pss_nil) (pss_cons (ps_if (pt_cmpR op_lt (pv 2) (pv 1) (nomark _)) pss_never pss_nil) (pss_one (ps_if (pt_cmpR op_gt (pv 2) (pv 0) (nomark _)) pss_never pss_nil))), ?_⟩
  exact ⟨_, rfl, _, _, rfl, rfl, _, rfl, ite_no (by (first | lia | omega)) ⟨_, rfl, _, rfl, _, _, rfl, rfl, _, rfl, ite_no (by (first | lia | omega)) ⟨_, rfl, _, rfl, _, _, rfl, rfl, _, rfl, ite_no (by (first | lia | omega)) q⟩⟩⟩
end
end Sy
namespace Sy
open PySem PySem.Spec L2 L3
open PyProof.Rows hiding St
seal L2.PSs L2.PS L2.PE L2.PT L2.PW L2.PA L2.PG L2.PGs L2.PI L3.PIf
section
variable {P : Program} {w : World} {K : PySem.W.Frag} {mg : Str → Option Value} {base : Heap}
theorem sc_lengthened : FnScope ["prime", "word", "length"] ["prime", "word", "length"] (defScope (top 25)) := ⟨rfl, rfl, rfl, by decide +kernel, rfl, by decide +kernel, by decide +kernel⟩
theorem ok_lengthened (D : Def K mg "lengthened" ["prime", "word", "length"] (top 25)) (hl : mg "list" = none) (hrng : mg "range" = none) (hlen : mg "len" = none) (AL : Has P w K mg base 3 "signs_along" ["prime", "curve", "length"] (spAlong K))
    (CT : Has P w K mg base 4 "curve_through" ["prime", "places", "signs"] (spCt K)) : Has P w K mg base 5 "lengthened" ["prime", "word", "length"] (spLonger K) := by
  refine D.ok sc_lengthened (fun vs H Q E h => by obtain ⟨p, a, ws, n, rfl, _⟩ := h; rfl) fun f cdv A outer s H vs Q E hr h => ?_
  obtain ⟨p, a, ws, n, rfl, hp2, hpm, hn, ha, hw, q⟩ := h
  refine ⟨_, pss_one (ps_ret (pcall AL hr rfl (pa_cons (pv 0) (pa_cons (pcall CT hr rfl (pa_cons (pv 0) (pa_cons (pe_callTy (call_list_rng rfl) rfl hl bt_list (pa_cons (pe_callTy call_rangeV rfl hrng bt_range
    (pa_cons (pe_callB (call_len_seqK K rfl) rfl hlen PySem.boot_len (pa_cons (pv 1) pa_nil)) pa_nil)) pa_nil)) (pa_cons (pv 1) pa_nil)))) (pa_cons (pv 2) pa_nil))))), ?_⟩
  have hz : (ws.map V.int).length = ws.length := List.length_map ..
  refine ⟨_, rfl, _, rfl, _, rfl, a, _, rfl, .inl ha, _, rfl, fun r1 h1 => ⟨r1, 0, _, rfl, upd_same, by rw [hz]; (first | lia | omega), by rw [hz]; exact small (by (first | lia | omega)), by rw [hz]; (first | lia | omega), fun r2 h2 => ?_⟩⟩
  have g1 : Same H (upd H r1 (.rng 0 ((ws.map V.int).length : Int))) := same_new h1 _
  have e0 : ((((ws.map V.int).length : Nat) : Int) - 0).toNat = ws.length := by rw [hz]; (first | lia | omega)
  rw [e0, rngV_eq]
  have g2 := g1.trans (same_new h2 (.lst ((SM.rng ws.length).map V.int)))
  refine ⟨_, rfl, p, r2, a, SM.rng ws.length, ws, rfl, hp2, hpm, SqL.of upd_same, g2.seq ha, by simpa [SM.rng] using hw, fun x hx => ?_, fun r3 H3 g3 n3 e3 => ?_⟩
  · obtain ⟨k, hk, rfl⟩ := List.mem_map.mp hx
    have := List.mem_range.mp hk
    (first | lia | omega)
  refine ⟨_, rfl, p, r3, n, _, rfl, by (first | lia | omega), hpm, hn, SqL.of e3, fun r4 H4 g4 n4 e4 => q r4 H4 (g2.trans (g3.trans g4)) ((g2.trans g3).free n4) e4⟩
theorem sc_made : FnScope ["prime", "word", "length"] ["prime", "word", "length"] (defScope (top 26)) := ⟨rfl, rfl, rfl, by decide +kernel, rfl, by decide +kernel, by decide +kernel⟩
theorem ok_made (D : Def K mg "made" ["prime", "word", "length"] (top 26)) (hlen : mg "len" = none) (CP : Has P w K mg base 2 "check_prime" ["prime"] spCheckPrime) (CS : Has P w K mg base 2 "check_signs" ["prime", "signs"] (spCheckSigns K))
    (CL : Has P w K mg base 1 "check_length" ["prime", "size", "length"] spCheckLen) (LO : Has P w K mg base 5 "lengthened" ["prime", "word", "length"] (spLonger K)) : Has P w K mg base 6 "made" ["prime", "word", "length"] (spMade K) := by
  refine D.ok sc_made (fun vs H Q E h => by obtain ⟨p, a, ws, n, rfl, _⟩ := h; rfl) fun f cdv A outer s H vs Q E hr h => ?_
  obtain ⟨p, a, ws, n, rfl, ok, ha, hs, h1, h2, h3, h4, q⟩ := h
  have hp2 := ok.1.two
  have hpm := ok.2
  have hz : (ws.map V.int).length = ws.length := List.length_map ..
  refine ⟨_, pss_cons (ps_expr (pcall CP hr rfl (pa_cons (pv 0) pa_nil))) (pss_cons (ps_expr (pcall CS hr rfl (pa_cons (pv 0) (pa_cons (pv 1) pa_nil))))
    (pss_cons (ps_expr (pcall CL hr rfl (pa_cons (pv 0) (pa_cons (pe_callB (call_len_seqK K rfl) rfl hlen PySem.boot_len (pa_cons (pv 1) pa_nil)) (pa_cons (pv 2) pa_nil)))))
    (pss_one (ps_ret (pcall LO hr rfl (pa_cons (pv 0) (pa_cons (pv 1) (pa_cons (pv 2) pa_nil)))))))), ?_⟩
  refine ⟨_, rfl, p, rfl, ok, ⟨_, rfl, _, rfl, p, a, ws, rfl, ha, hs, ⟨_, rfl, _, rfl, a, _, rfl, .inl ha, _, rfl, p, _, _, rfl, by rw [hz]; (first | lia | omega), by rw [hz]; (first | lia | omega), h4, ?_⟩⟩⟩
  exact ⟨_, rfl, _, rfl, _, rfl, p, a, ws, n, rfl, hp2, hpm, by (first | lia | omega), ha, h3, q⟩
end
end Sy
namespace Sy
open PySem PySem.Spec L2 L3
open PyProof.Rows hiding St
seal L2.PSs L2.PS L2.PE L2.PT L2.PW L2.PA L2.PG L2.PGs L2.PI L3.PIf
theorem bt_int : bootBuiltins "int" = some (.type "int") := by decide +kernel
theorem bt_bool : bootBuiltins "bool" = some (.type "bool") := by decide +kernel
theorem bt_min : bootBuiltins "min" = some (.builtin "min") := by decide +kernel
theorem bt_isin : bootBuiltins "isinstance" = some (.builtin "isinstance") := by decide +kernel
inductive spAt (K : PySem.W.Frag) : List V → Hp → VK → XK → Prop
  | mk {vs : List V} {H : Hp} {Q : VK} {E_ : XK} (a : Addr) (k : Int) (ns : List Int) (z_0 : vs = [.ref a, .int k]) (z_1 : IL K H a ns) (z_2 : 0 ≤ k) (z_3 : ∀ v : Int, Q (.int v) H) : spAt K vs H Q E_
/-- what the sizes are like -/
structure Sizes (p : Int) (n L : Nat) : Prop where
  ok : Ok p
  n1 : 1 ≤ n
  n6 : n ≤ 6
  nL : n ≤ L
  Lp : (L : Int) ≤ p
  L17 : L ≤ n + 11
inductive spSizes (K : PySem.W.Frag) : List V → Hp → VK → XK → Prop
  | mk {vs : List V} {H : Hp} {Q : VK} {E_ : XK} (a : Addr) (ns : List Int) (z_0 : vs = [.ref a]) (z_1 : IL K H a ns) (z_2 : ns.length ≤ 63) (z_3 : ∀ (p : Int) (n L : Nat) (t : Addr) (H' : Hp), Same H H' → Sizes p n L → H' t = some (.tup [.int p, .int (n : Int), .int (L : Int)]) → Q (.ref t) H') : spSizes K vs H Q E_
/-- any curve of that size, new -/
inductive spCurveBy (K : PySem.W.Frag) : List V → Hp → VK → XK → Prop
  | mk {vs : List V} {H : Hp} {Q : VK} {E_ : XK} (p : Int) (n : Nat) (a : Addr) (ns : List Int) (z_0 : vs = [.int p, .int (n : Int), .ref a]) (z_1 : 2 ≤ p) (z_2 : n ≤ 100) (z_3 : IL K H a ns) (z_4 : ∀ cs : List Int, cs.length = n → (∀ c ∈ cs, 0 ≤ c ∧ c < p) → NewL H cs Q) : spCurveBy K vs H Q E_
inductive spPoints (K : PySem.W.Frag) : List V → Hp → VK → XK → Prop
  | mk {vs : List V} {H : Hp} {Q : VK} {E_ : XK} (p : Int) (a : Addr) (cs : List Int) (L : Nat) (z_0 : vs = [.int p, .ref a, .int (L : Int)]) (z_1 : 0 < p) (z_2 : p ≤ 1000) (z_3 : L ≤ 1000) (z_4 : IL K H a cs) (z_5 : (∀ c ∈ cs, 0 ≤ c ∧ c < p)) (z_6 : NewL H (SM.pts p cs L) Q) : spPoints K vs H Q E_
inductive spWhole : List V → Hp → VK → XK → Prop
  | mk {vs : List V} {H : Hp} {Q : VK} {E_ : XK} (i : Int) (z_0 : vs = [.int i]) (z_1 : Q (.bl true) H) : spWhole  vs H Q E_
inductive spAreSigns (K : PySem.W.Frag) : List V → Hp → VK → XK → Prop
  | mk {vs : List V} {H : Hp} {Q : VK} {E_ : XK} (a b : Addr) (ns : List Int) (z_0 : vs = [.ref a, .ref b]) (z_1 : H a = some (.lst (ns.map V.int))) (z_2 : IL K H b ns) (z_3 : ns.length ≤ 1000) (z_4 : Q (.bl true) H) : spAreSigns K vs H Q E_
section
variable {P : Program} {w : World} {K : PySem.W.Frag} {mg : Str → Option Value} {base : Heap}
theorem sc_at : FnScope ["_law_script", "_law_k"] ["_law_script", "_law_k"] (defScope (top 30)) := ⟨rfl, rfl, rfl, by decide +kernel, rfl, by decide +kernel, by decide +kernel⟩
theorem atI_map {ns : List Int} {k : Int} (h0 : 0 ≤ k) (h : k < (ns.length : Int)) : ∃ v : Int, atI (ns.map V.int) k = some (.int v) := by
  have hk : k.toNat < ns.length := by (first | lia | omega)
  refine ⟨ns[k.toNat], ?_⟩
  have q : atI (ns.map V.int) ((k.toNat : Nat) : Int) = some (.int ns[k.toNat]) := atI_nat (by rw [List.getElem?_map, List.getElem?_eq_getElem hk]; rfl)
  rwa [show ((k.toNat : Nat) : Int) = k by (first | lia | omega)] at q
theorem ok_at (D : Def K mg "_law_at" ["_law_script", "_law_k"] (top 30)) (hlen : mg "len" = none) : Has P w K mg base 1 "_law_at" ["_law_script", "_law_k"] (spAt K) := by
  refine D.ok sc_at (fun vs H Q E h => by obtain ⟨a, k, ns, rfl, _⟩ := h; rfl) fun f cdv A outer s H vs Q E hr h => ?_
  obtain ⟨a, k, ns, rfl, ha, h0, q⟩ := h
  have hz : (ns.map V.int).length = ns.length := List.length_map ..
  refine ⟨_, pss_cons (ps_if (pt_cmpR op_lt (pv 1) (pe_callB (call_len_seqK K rfl) rfl hlen PySem.boot_len (pa_cons (pv 0) pa_nil)) (nomark _)) (pss_one (ps_ret (pe_ix (ix_listK K rfl) (pv 0) (pv 1) (fun _ _ => rfl)))) pss_nil) (pss_one (ps_ret pe_int)), ?_⟩
  refine ⟨_, rfl, _, rfl, a, _, rfl, .inl ha, _, _, rfl, rfl, _, rfl, ite2 (fun c => ?_) (fun _ => q 0)⟩
  have hk : k < (((ns.map V.int).length : Nat) : Int) := of_decide_eq_true c
  rw [hz] at hk
  obtain ⟨v, hv⟩ := atI_map h0 hk
  exact ⟨_, rfl, _, rfl, a, _, _, _, rfl, rfl, ha, hv, q v⟩
theorem menu10 (r : Int) (h0 : 0 ≤ r) (h1 : r < 10) : ∃ p : Int, Ok p ∧ atI ([.int 13, .int 11, .int 17, .int 101, .int 31, .int 997, .int 7, .int 5, .int 3, .int 2] : List V) r = some (.int p) := by
  have fl : ∀ q : Nat, q < 408 → SM.noDiv (q + 2) = true → Ok ((q + 2 : Nat) : Int) := fun q hq hd => by
    have := SM.allB_get SM.all_fld q hq
    rw [hd] at this
    exact ⟨SM.fld_of (by (first | lia | omega)) (by (first | lia | omega)) (by simpa using this), by (first | lia | omega)⟩
  have c : r = 0 ∨ r = 1 ∨ r = 2 ∨ r = 3 ∨ r = 4 ∨ r = 5 ∨ r = 6 ∨ r = 7 ∨ r = 8 ∨ r = 9 := by (first | lia | omega)
  rcases c with rfl | rfl | rfl | rfl | rfl | rfl | rfl | rfl | rfl | rfl
  · exact ⟨13, fl 11 (by decide) (by decide +kernel), rfl⟩
  · exact ⟨11, fl 9 (by decide) (by decide +kernel), rfl⟩
  · exact ⟨17, fl 15 (by decide) (by decide +kernel), rfl⟩
  · exact ⟨101, fl 99 (by decide) (by decide +kernel), rfl⟩
  · exact ⟨31, fl 29 (by decide) (by decide +kernel), rfl⟩
  · exact ⟨997, ⟨SM.fld_of (p := 997) (by decide) (by decide) SM.fld_997, by decide⟩, rfl⟩
  · exact ⟨7, fl 5 (by decide) (by decide +kernel), rfl⟩
  · exact ⟨5, fl 3 (by decide) (by decide +kernel), rfl⟩
  · exact ⟨3, fl 1 (by decide) (by decide +kernel), rfl⟩
  · exact ⟨2, fl 0 (by decide) (by decide +kernel), rfl⟩
def divs (q : Int) (i : Nat) : List Int := ((List.range i).map fun (k : Nat) => (2 : Int) + (k : Int)).filter fun d => decide (d < q) && decide (q % d = 0)
theorem divs_nil {q : Nat} (h : divs (q : Int) 19 = []) : SM.noDiv q = true := by
  unfold divs at h
  rw [List.filter_eq_nil_iff] at h
  unfold SM.noDiv
  have all : ∀ (n : Nat) (f : Nat → Bool), (∀ k, k < n → f k = true) → SM.allB f n = true := by
    intro n f
    induction n with
    | zero => intro _; rfl
    | succ n ih => intro hf; show (f n && SM.allB f n) = true; rw [hf n (by (first | lia | omega)), ih fun k hk => hf k (by (first | lia | omega))]; rfl
  refine all 19 _ fun k hk => ?_
  have := h ((2 : Int) + (k : Int)) (List.mem_map.mpr ⟨k, List.mem_range.mpr hk, rfl⟩)
  by_cases h1 : k + 2 < q
  · by_cases h2 : q % (k + 2) = 0
    · exfalso
      apply this
      have h3 : ((q : Int)) % ((2 : Int) + (k : Int)) = 0 := by
        have : ((q % (k + 2) : Nat) : Int) = 0 := by rw [h2]; rfl
        rw [Int.natCast_emod] at this
        rw [show (2 : Int) + (k : Int) = ((k + 2 : Nat) : Int) by (first | lia | omega)]; exact this
      rw [decide_eq_true (show (2 : Int) + (k : Int) < (q : Int) by (first | lia | omega)), decide_eq_true h3]; rfl
    · have : (q % (k + 2)).beq 0 = false := by
        cases e : (q % (k + 2)).beq 0 with
        | false => rfl
        | true => exact absurd (Nat.eq_of_beq_eq_true e) h2
      rw [this]; simp
  · have : (k + 2).blt q = false := by
      cases e : (k + 2).blt q with
      | false => rfl
      | true => exact absurd (Nat.lt_of_lt_of_le (Nat.lt_succ_self _) (Nat.le_of_ble_eq_true e)) h1
    rw [this]; rfl
theorem divs_409 : divs 409 19 = [] := by decide +kernel
theorem filter_one {α : Type} (f : α → Bool) (a : α) : [a].filter f = if f a = true then [a] else [] := by
  cases h : f a <;> simp [h]
theorem divs_snoc (q : Int) (i : Nat) : divs q (i + 1) = divs q i ++ (if (decide ((2 : Int) + (i : Int) < q) && decide (q % ((2 : Int) + (i : Int)) = 0)) = true then [(2 : Int) + (i : Int)] else []) := by
  unfold divs
  rw [List.range_succ, List.map_append, List.filter_append, List.map_singleton, filter_one]
theorem sc_sizes : FnScope ["_law_script", "_law_prime", "_law_size", "_law_wide", "_law_length"] ["_law_script"] (defScope (top 31)) := ⟨rfl, rfl, rfl, by decide +kernel, rfl, by decide +kernel, by decide +kernel⟩
theorem ite_not {c A B : Prop} [Decidable c] (h1 : ¬ c → A) (h2 : c → B) : if (!decide c) = true then A else B := by
  by_cases h : c
  · rw [decide_eq_true h]; exact iteF (h2 h)
  · rw [decide_eq_false h]; exact iteT (h1 h)
theorem divs_len (q : Int) (i : Nat) : (divs q i).length ≤ i := by
  unfold divs
  exact Nat.le_trans (List.length_filter_le _ _) (by simp)
theorem not_409 {q : Nat} (h2 : q ≤ 409) (h : ¬ divs (q : Int) 19 = []) : q + 1 ≤ 409 := by
  by_cases e : q = 409
  · subst e; exact absurd divs_409 h
  · (first | lia | omega)
theorem ok_of_divs {q : Nat} (h2 : 2 ≤ q) (h9 : q ≤ 409) (h : divs (q : Int) 19 = []) : Ok (q : Int) := by
  have hd := divs_nil h
  obtain ⟨k, rfl⟩ : ∃ k, q = k + 2 := ⟨q - 2, by (first | lia | omega)⟩
  have := SM.allB_get SM.all_fld k (by (first | lia | omega))
  rw [hd] at this
  exact ⟨SM.fld_of (by (first | lia | omega)) (by (first | lia | omega)) (by simpa using this), by (first | lia | omega)⟩
/-- the sizes' last rows: any size and length out of what is drawn -/
theorem mod_min (v : Int) {a b : Int} (ha : 0 < a) (hb : 0 < b) : ∃ m : Nat, (1 : Int) + v % (if b < a then b else a) = (m : Int) ∧ 1 ≤ m ∧ (m : Int) ≤ a ∧ (m : Int) ≤ b := by
  have h : 0 < (if b < a then b else a) := by split <;> (first | lia | omega)
  have h' : (if b < a then b else a) ≤ a ∧ (if b < a then b else a) ≤ b := by split <;> (first | lia | omega)
  generalize (if b < a then b else a) = c at h h'
  have m1 := md (a := v) h
  exact ⟨(1 + v % c).toNat, by (first | lia | omega), by (first | lia | omega), by (first | lia | omega), by (first | lia | omega)⟩
theorem min_len (v : Int) {p c : Int} {n : Nat} (hn : (n : Int) ≤ p) (hc : 0 < c) : ∃ L : Nat, (if (n : Int) + v % c < p then (n : Int) + v % c else p) = (L : Int) ∧ n ≤ L ∧ (L : Int) ≤ p ∧ (L : Int) < n + c := by
  have m1 := md (a := v) hc
  split
  · exact ⟨((n : Int) + v % c).toNat, by (first | lia | omega), by (first | lia | omega), by (first | lia | omega), by (first | lia | omega)⟩
  · exact ⟨p.toNat, by (first | lia | omega), by (first | lia | omega), by (first | lia | omega), by (first | lia | omega)⟩
end
end Sy
namespace Sy
open PySem PySem.Spec L2 L3
open PyProof.Rows hiding St
seal L2.PSs L2.PS L2.PE L2.PT L2.PW L2.PA L2.PG L2.PGs L2.PI L3.PIf
section
variable {P : Program} {w : World} {K : PySem.W.Frag} {mg : Str → Option Value} {base : Heap}
set_option maxHeartbeats 4000000 in
theorem ok_sizes (D : Def K mg "_law_sizes" ["_law_script"] (top 31)) (hlen : mg "len" = none) (hrng : mg "range" = none) (hmin : mg "min" = none) (hint : mg "int" = none) (AT : Has P w K mg base 1 "_law_at" ["_law_script", "_law_k"] (spAt K)) :
    Has P w K mg base 2 "_law_sizes" ["_law_script"] (spSizes K) := by
  refine D.ok sc_sizes (fun vs H Q E h => by obtain ⟨a, ns, rfl, _⟩ := h; rfl) fun f cdv A outer s H vs Q E hr h => ?_
  obtain ⟨a, ns, rfl, ha, hn63, q⟩ := h
  have hz : (ns.map V.int).length = ns.length := List.length_map ..
  have wide : decide ((63 : Int) < (((ns.map V.int).length : Nat) : Int)) = false := decide_eq_false (by rw [hz]; (first | lia | omega))
  refine ⟨_, pss_cons (ps_set (i := 1) sc_sizes.nd rfl (Or.inr rfl) (pe_ix (ix_listK K rfl) (pe_lst (pa_int1 (pa_int1 (pa_int1 (pa_int1 (pa_int1 (pa_int1 (pa_int1 (pa_int1 (pa_int1 (pa_int1 pa_int0)))))))))))
      (pe_op op_mod (pcall AT hr rfl (pa_cons (pv 0) (pa_cons pe_int pa_nil))) pe_int) (fun _ _ => rfl)))
    (pss_cut (fun σ' H' => ∃ p : Int, Ok p ∧ Same H H' ∧ σ' = [some (.ref a), some (.int p), none, none, none])
      (ps_if (pt_cmpR op_eq (pe_op op_mod (pe_op op_fdiv (pcall AT hr rfl (pa_cons (pv 0) (pa_cons pe_int pa_nil))) pe_int) pe_int) pe_int (nomark _))
      (pss_cons (ps_set (i := 1) sc_sizes.nd rfl (Or.inr rfl) (pe_op op_add pe_int (pe_op op_mod (pe_op op_fdiv (pcall AT hr rfl (pa_cons (pv 0) (pa_cons pe_int pa_nil))) pe_int) pe_int)))
      (pss_one (ps_while PassesOwn.never (pt_cmpR (op_neL hr.units) (pe_comp (N' := ["_law_part", "_law_prime"]) (ix := [none, some 1]) rfl
          ⟨rfl, by decide +kernel, by decide +kernel, by with_unfolding_all rfl, by exact ⟨rfl, trivial⟩, by exact ⟨⟨_, rfl⟩, trivial⟩, by exact ⟨⟨rfl, rfl, rfl⟩, trivial⟩⟩
          (pi_range2 rfl hrng (pa_cons pe_int (pa_cons pe_int pa_nil)))
          fun C ex pn s H => ⟨pg_name (i := 0) (show (["_law_part", "_law_prime"] : List Str).Nodup by decide +kernel) rfl (Or.inl rfl), pif_one (ptw (pw_and (pt_cmpR op_lt (pv 0) (pv 1) (nomark _)) (pw_and1 (pt_cmpR op_eq (pe_op op_mod (pv 1) (pv 0)) pe_int (nomark _))))), pv 0⟩)
          (pe_lst pa_nil) (nomark _))
        (pss_one (ps_set (i := 1) sc_sizes.nd rfl (Or.inr rfl) (pe_op op_add (pv 1) pe_int)))))) pss_nil)
    (pss_cut (fun σ' H' => ∃ (p : Int) (n : Nat), Ok p ∧ 1 ≤ n ∧ n ≤ 4 ∧ (n : Int) ≤ p ∧ Same H H' ∧ σ' = [some (.ref a), some (.int p), some (.int (n : Int)), none, none])
      (ps_set (i := 2) sc_sizes.nd rfl (Or.inl rfl) (pe_op op_add pe_int (pe_op op_mod (pcall AT hr rfl (pa_cons (pv 0) (pa_cons pe_int pa_nil))) (pe_callB (call_min2 rfl) rfl hmin bt_min (pa_cons pe_int (pa_cons (pv 1) pa_nil))))))
    (pss_cons (ps_set (i := 3) sc_sizes.nd rfl (Or.inl rfl) (pe_ix (ix_listK K rfl) (pe_lst (pa_cons pe_int (pa_cons pe_int pa_nil))) (pe_callTy call_int1 rfl hint bt_int (pa_cons (pe_cmpR op_gt (pe_callB (call_len_seqK K rfl) rfl hlen PySem.boot_len (pa_cons (pv 0) pa_nil)) pe_int (nomark _)) pa_nil)) (fun _ _ => rfl)))
    (pss_cut (fun σ' H' => ∃ (p : Int) (n : Nat), Ok p ∧ 1 ≤ n ∧ n ≤ 6 ∧ (n : Int) ≤ p ∧ Same H H' ∧ σ' = [some (.ref a), some (.int p), some (.int (n : Int)), some (.int 6), none])
      (ps_if (pt_cmpR op_eq (pe_op op_mod (pe_op op_fdiv (pcall AT hr rfl (pa_cons (pv 0) (pa_cons pe_int pa_nil))) pe_int) pe_int) pe_int (nomark _))
        (pss_one (ps_set (i := 2) sc_sizes.nd rfl (Or.inl rfl) (pe_op op_add pe_int (pe_op op_mod (pe_op op_fdiv (pcall AT hr rfl (pa_cons (pv 0) (pa_cons pe_int pa_nil))) pe_int) (pe_callB (call_min2 rfl) rfl hmin bt_min (pa_cons (pv 3) (pa_cons (pv 1) pa_nil))))))) pss_nil)
    (pss_cut (fun σ' H' => ∃ (p : Int) (n L : Nat), Sizes p n L ∧ Same H H' ∧ σ' = [some (.ref a), some (.int p), some (.int (n : Int)), some (.int 6), some (.int (L : Int))])
      (ps_set (i := 4) sc_sizes.nd rfl (Or.inl rfl) (pe_callB (call_min2 rfl) rfl hmin bt_min (pa_cons (pv 1) (pa_cons (pe_op op_add (pv 2) (pe_op op_mod (pcall AT hr rfl (pa_cons (pv 0) (pa_cons pe_int pa_nil))) pe_int)) pa_nil))))
    (pss_cut (fun σ' H' => ∃ (p : Int) (n L : Nat), Sizes p n L ∧ Same H H' ∧ σ' = [some (.ref a), some (.int p), some (.int (n : Int)), some (.int 6), some (.int (L : Int))])
      (ps_if (pt_cmpR op_eq (pe_op op_mod (pe_op op_fdiv (pcall AT hr rfl (pa_cons (pv 0) (pa_cons pe_int pa_nil))) pe_int) pe_int) pe_int (nomark _))
        (pss_one (ps_set (i := 4) sc_sizes.nd rfl (Or.inl rfl) (pe_callB (call_min2 rfl) rfl hmin bt_min (pa_cons (pv 1) (pa_cons (pe_op op_add (pv 2) (pe_op op_mod (pe_op op_fdiv (pcall AT hr rfl (pa_cons (pv 0) (pa_cons pe_int pa_nil))) pe_int) (pe_op op_mul pe_int (pv 3)))) pa_nil))))) pss_nil)
    (pss_one (ps_ret (pe_tup (pa_cons (pv 1) (pa_cons (pv 2) (pa_cons (pv 4) pa_nil)))))))))))), ?_⟩
  refine ⟨by show 10 ≤ sizeLine; decide, fun r0 h0 => ⟨_, rfl, a, 0, ns, rfl, (same_new h0 _).seq ha, by decide, fun v0 => ⟨_, _, rfl, rfl, (show (0 : Int) < 10 by decide), ?_⟩⟩⟩
  have m0 := md (a := v0) (p := 10) (by decide)
  obtain ⟨p, ok, hat⟩ := menu10 (v0 % 10) m0.1 m0.2
  refine ⟨r0, _, _, _, rfl, rfl, SqL.of upd_same, hat, ?_⟩
  have g1 : Same H (upd H r0 (.lst (List.map V.int [13, 11, 17, 101, 31, 997, 7, 5, 3, 2]))) := same_new h0 _
  generalize upd H r0 (.lst (List.map V.int [13, 11, 17, 101, 31, 997, 7, 5, 3, 2])) = H1 at g1 ⊢
  refine ⟨?_, ?_⟩
  · refine ⟨_, rfl, a, 0, ns, rfl, g1.seq ha, by decide, fun v1 => ⟨_, _, rfl, rfl, ⟨by decide, by decide⟩, _, _, rfl, rfl, (show (0 : Int) < 3 by decide), rfl, _, rfl, ite2 (fun _ => ?_) (fun _ => ⟨p, ok, g1, rfl⟩)⟩⟩
    refine ⟨_, rfl, a, 0, ns, rfl, g1.seq ha, by decide, fun v2 => ⟨_, _, rfl, rfl, ⟨by decide, by decide⟩, _, _, rfl, rfl, (show (0 : Int) < 400 by decide), _, _, rfl, rfl, ?_⟩⟩
    have m2 := md (a := v2 / 30) (p := 400) (by decide)
    have e2 : (((2 + v2 / 30 % 400).toNat : Nat) : Int) = 2 + v2 / 30 % 400 := by (first | lia | omega)
    refine ⟨fun m σ H' => ∃ k : Nat, m = 410 - k ∧ 2 ≤ k ∧ k ≤ 409 ∧ Same H H' ∧ σ = [some (.ref a), some (.int (k : Int)), none, none, none], ⟨_, (2 + v2 / 30 % 400).toNat, rfl, by (first | lia | omega), by (first | lia | omega), g1, congrArg (fun z => [some (V.ref a), some (.int z), none, none, none]) e2.symm⟩, ?_⟩
    rintro m σ H2 ⟨k, rfl, k2, k9, g2, rfl⟩
    refine ⟨2, 21, rfl, ⟨by (first | lia | omega), by (first | lia | omega), by (first | lia | omega), by (first | lia | omega)⟩, ?_⟩
    refine comp_range (n := 19) (fun i ys H3 => H3 = H2 ∧ ys = (divs (k : Int) i).map V.int) ⟨rfl, rfl⟩ ?_ ?_
    · rintro i ys H3 hi ⟨rfl, rfl⟩
      refine ⟨small (by rw [List.length_map]; exact Nat.le_trans (divs_len _ i) (by (first | lia | omega))), ⟨rfl, trivial⟩, ⟨_, rfl, _, rfl, _, _, rfl, rfl, _, rfl, ite2 (fun c1 => ?_) (fun c1 => ?_)⟩⟩
      · refine ⟨_, rfl, _, rfl, _, _, rfl, rfl, (show (0 : Int) < 2 + (i : Int) by (first | lia | omega)), rfl, _, rfl, ite2 (fun c2 => ?_) (fun c2 => ?_)⟩
        · have c1' : decide ((2 : Int) + (i : Int) < (k : Int)) = true := c1
          have c2' : (k : Int) % (2 + (i : Int)) = 0 := by
            have := of_decide_eq_true c2
            injection this
          refine ⟨_, rfl, rfl, ?_⟩
          rw [divs_snoc, c1', decide_eq_true c2']; simp
        · have c2' : ¬ (k : Int) % (2 + (i : Int)) = 0 := fun z => c2 (decide_eq_true (congrArg V.int z))
          refine ⟨rfl, ?_⟩
          rw [divs_snoc, decide_eq_false c2', Bool.and_false, if_neg Bool.false_ne_true, List.append_nil]
      · refine ⟨rfl, ?_⟩
        have c1' : decide ((2 : Int) + (i : Int) < (k : Int)) = false := Bool.eq_false_iff.mpr c1
        rw [divs_snoc, c1', Bool.false_and, if_neg Bool.false_ne_true, List.append_nil]
    · rintro ys H3 ⟨rfl, rfl⟩
      refine ⟨small (by rw [List.length_map]; exact Nat.le_trans (divs_len _ 19) (by (first | lia | omega))), fun r1 h1 => ⟨by show 0 ≤ sizeLine; decide, fun r2 h2' => ⟨r1, r2, divs (k : Int) 19, [], rfl, rfl, SqL.of ((same_new h2' _) _ _ upd_same), SqL.of upd_same, _, rfl, ite_not (fun c => ?_) (fun c => ?_)⟩⟩⟩
      · have hk := not_409 k9 c
        have e3 : (k : Int) + 1 = ((k + 1 : Nat) : Int) := by (first | lia | omega)
        refine ⟨fun σ' H' => Same H H' ∧ σ' = [some (.ref a), some (.int ((k + 1 : Nat) : Int)), none, none, none], fun σ' H' z => ⟨410 - (k + 1), by (first | lia | omega), k + 1, rfl, by (first | lia | omega), hk, z.1, z.2⟩, ?_⟩
        exact ⟨_, rfl, _, _, rfl, rfl, g2.trans ((same_new h1 _).trans (same_new h2' _)), congrArg (fun z => [some (V.ref a), some (.int z), none, none, none]) e3⟩
      · exact ⟨k, ok_of_divs k2 k9 c, g2.trans ((same_new h1 _).trans (same_new h2' _)), rfl⟩
  rintro σ2 H2 ⟨p, ok, g, rfl⟩
  have hp := ok.pos
  refine ⟨?_, ?_⟩
  · refine ⟨_, rfl, a, 1, ns, rfl, g.seq ha, by decide, fun v1 => ⟨_, rfl, 4, p, rfl, _, _, rfl, rfl, (show (0 : Int) < (if p < 4 then p else 4) by split <;> (first | lia | omega)), _, _, rfl, rfl, ?_⟩⟩
    obtain ⟨n, en, n1, n4, np⟩ := mod_min v1 (a := 4) (b := p) (by decide) hp
    exact ⟨p, n, ok, n1, by (first | lia | omega), np, g, congrArg (fun z => [some (V.ref a), some (.int p), some (.int z), none, none]) en⟩
  clear ok g hp p
  rintro σ3 H3 ⟨p, n, ok, n1, n4, np, g, rfl⟩
  have hp := ok.pos
  refine ⟨by show 2 ≤ sizeLine; decide, fun r1 h1 => ⟨_, rfl, a, _, rfl, .inl ((g.trans (same_new h1 _)).seq ha), _, _, rfl, rfl, .inr ⟨false, congrArg (fun z => [V.bl z]) wide, r1, _, _, .int 6, rfl, rfl, SqL.of upd_same, rfl, ?_⟩⟩⟩
  have g1 := g.trans (same_new h1 (.lst [.int 6, .int 12]))
  generalize upd H3 r1 (.lst [.int 6, .int 12]) = H4 at g1 ⊢
  refine ⟨?_, ?_⟩
  · refine ⟨_, rfl, a, 1, ns, rfl, g1.seq ha, by decide, fun v2 => ⟨_, _, rfl, rfl, ⟨by decide, by decide⟩, _, _, rfl, rfl, (show (0 : Int) < 8 by decide), rfl, _, rfl, ite2 (fun _ => ?_) (fun _ => ⟨p, n, ok, n1, by (first | lia | omega), np, g1, rfl⟩)⟩⟩
    refine ⟨_, rfl, a, 1, ns, rfl, g1.seq ha, by decide, fun v3 => ⟨_, _, rfl, rfl, ⟨by decide, by decide⟩, _, rfl, _, rfl, 6, p, rfl, _, _, rfl, rfl, (show (0 : Int) < (if p < 6 then p else 6) by split <;> (first | lia | omega)), _, _, rfl, rfl, ?_⟩⟩
    obtain ⟨n', en', n1', n6', np'⟩ := mod_min (v3 / 32) (a := 6) (b := p) (by decide) hp
    exact ⟨p, n', ok, n1', by (first | lia | omega), np', g1, congrArg (fun z => [some (V.ref a), some (.int p), some (.int z), some (.int 6), none]) en'⟩
  clear ok g1 hp n1 n4 np n p
  rintro σ5 H5 ⟨p, n, ok, n1, n6, np, g, rfl⟩
  refine ⟨?_, ?_⟩
  · refine ⟨_, rfl, _, rfl, _, rfl, a, 2, ns, rfl, g.seq ha, by decide, fun v1 => ⟨_, _, rfl, rfl, (show (0 : Int) < 8 by decide), _, _, rfl, rfl, p, _, rfl, ?_⟩⟩
    obtain ⟨L, eL, l1, l2, l3⟩ := min_len v1 (c := 8) np (by decide)
    exact ⟨p, n, L, ⟨ok, n1, n6, l1, l2, by (first | lia | omega)⟩, g, congrArg (fun z => [some (V.ref a), some (.int p), some (.int (n : Int)), some (.int 6), some (.int z)]) eL⟩
  clear ok g n1 n6 np n p
  rintro σ6 H6 ⟨p, n, L, z, g, rfl⟩
  refine ⟨?_, ?_⟩
  · refine ⟨_, rfl, a, 2, ns, rfl, g.seq ha, by decide, fun v2 => ⟨_, _, rfl, rfl, ⟨by decide, by decide⟩, _, _, rfl, rfl, (show (0 : Int) < 8 by decide), rfl, _, rfl, ite2 (fun _ => ?_) (fun _ => ⟨p, n, L, z, g, rfl⟩)⟩⟩
    refine ⟨_, rfl, _, rfl, _, rfl, a, 2, ns, rfl, g.seq ha, by decide, fun v3 => ⟨_, _, rfl, rfl, ⟨by decide, by decide⟩, _, rfl, _, _, rfl, rfl, .inl ⟨by decide, by decide⟩, _, _, rfl, rfl, (show (0 : Int) < 2 * 6 by decide), _, _, rfl, rfl, p, _, rfl, ?_⟩⟩
    obtain ⟨L', eL', l1', l2', l3'⟩ := min_len (v3 / 64) (c := 2 * 6) (n := n) (Int.le_trans (show (n : Int) ≤ (L : Int) by have := z.nL; (first | lia | omega)) z.Lp) (by decide)
    exact ⟨p, n, L', ⟨z.ok, z.n1, z.n6, l1', l2', by (first | lia | omega)⟩, g, congrArg (fun z => [some (V.ref a), some (.int p), some (.int (n : Int)), some (.int 6), some (.int z)]) eL'⟩
  clear z g L n p
  rintro σ7 H7 ⟨p, n, L, z, g, rfl⟩
  exact ⟨_, rfl, _, rfl, _, rfl, by show 3 ≤ sizeLine; decide, fun r h => q p n L r _ (g.trans (same_new h _)) z upd_same⟩
end
end Sy
namespace Sy
open PySem PySem.Spec L2 L3
open PyProof.Rows hiding St
seal L2.PSs L2.PS L2.PE L2.PT L2.PW L2.PA L2.PG L2.PGs L2.PI L3.PIf
section
variable {P : Program} {w : World} {K : PySem.W.Frag} {mg : Str → Option Value} {base : Heap}
theorem atI_getD' {row : List Int} {k : Nat} (h : k < row.length) : atI (row.map V.int) (k : Int) = some (.int (row.getD k 0)) := by
  refine atI_nat ?_
  rw [List.getElem?_map, List.getElem?_eq_getElem h, List.getD_eq_getElem?_getD, List.getElem?_eq_getElem h]; rfl
theorem menu4 {p x r : Int} (hx : 0 ≤ x ∧ x < p) (hp : 2 ≤ p) (h0 : 0 ≤ r) (h1 : r < 4) : ∃ c : Int, (0 ≤ c ∧ c < p) ∧ atI ([.int x, .int (p - 1), .int 0, .int 1] : List V) r = some (.int c) := by
  have c : r = 0 ∨ r = 1 ∨ r = 2 ∨ r = 3 := by (first | lia | omega)
  rcases c with rfl | rfl | rfl | rfl
  · exact ⟨x, hx, rfl⟩
  · exact ⟨p - 1, by (first | lia | omega), rfl⟩
  · exact ⟨0, by (first | lia | omega), rfl⟩
  · exact ⟨1, by (first | lia | omega), rfl⟩
theorem same_upd {H H' : Hp} {r : Addr} {o : HO} (g : Same H H') (h : H r = none) : Same H (upd H' r o) := fun b u e => by rw [upd_ne (ne_of_none e h)]; exact g b u e
theorem sc_curve_by : FnScope ["_law_prime", "_law_size", "_law_cells", "_law_row", "_law_k", "_law_menu"] ["_law_prime", "_law_size", "_law_cells"] (defScope (top 32)) := ⟨rfl, rfl, rfl, by decide +kernel, rfl, by decide +kernel, by decide +kernel⟩
theorem ok_curve_by (D : Def K mg "_law_curve_by" ["_law_prime", "_law_size", "_law_cells"] (top 32)) (hrng : mg "range" = none) (AT : Has P w K mg base 1 "_law_at" ["_law_script", "_law_k"] (spAt K)) :
    Has P w K mg base 2 "_law_curve_by" ["_law_prime", "_law_size", "_law_cells"] (spCurveBy K) := by
  refine D.ok sc_curve_by (fun vs H Q E h => by obtain ⟨p, n, a, ns, rfl, _⟩ := h; rfl) fun f cdv A outer s H vs Q E hr h => ?_
  obtain ⟨p, n, a, ns, rfl, hp, hn, ha, q⟩ := h
  refine ⟨_, pss_cons (ps_set (i := 3) sc_curve_by.nd rfl (Or.inl rfl) (pe_lst pa_nil)) (pss_cons (ps_for PassesOwn.never rfl (pi_range1 rfl hrng (pa_cons (pv 1) pa_nil)) (pg_name (i := 4) sc_curve_by.nd rfl (Or.inl rfl))
    (pss_cons (ps_set (i := 5) sc_curve_by.nd rfl (Or.inl rfl) (pe_lst (pa_cons (pe_op op_mod (pcall AT hr rfl (pa_cons (pv 2) (pa_cons (pv 4) pa_nil))) (pv 0)) (pa_cons (pe_op op_sub (pv 0) pe_int) (pa_cons pe_int (pa_cons pe_int pa_nil))))))
    (pss_one (ps_expr (pe_bm PySem.F.plainAttrs_list PySem.F.slot_list_append PySem.F.type_list_append mt_append (pv 3) (pa_cons (pe_ix (ix_listK K rfl) (pv 5) (pe_op op_mod (pcall AT hr rfl (pa_cons (pv 2) (pa_cons (pe_op op_add (pv 4) pe_int) pa_nil))) pe_int) (fun _ _ => rfl)) pa_nil))))))
    (pss_one (ps_ret (pv 3)))), ?_⟩
  refine ⟨by show 0 ≤ sizeLine; decide, fun r0 h0 => ⟨_, rfl, (n : Int), rfl, by (first | lia | omega), by (first | lia | omega), ?_⟩⟩
  rw [Int.toNat_natCast]
  have g0 : Same H (upd H r0 (.lst [])) := same_new h0 _
  have e0 : (upd H r0 (.lst [])) r0 = some (.lst (([] : List Int).map V.int)) := upd_same
  generalize upd H r0 (.lst []) = H0 at g0 e0 ⊢
  refine for_range (fun i σ H' => Same H H' ∧ ∃ (cs : List Int) (o4 o5 : Option V), cs.length = i ∧ (∀ c ∈ cs, 0 ≤ c ∧ c < p) ∧ H' r0 = some (.lst (cs.map V.int)) ∧ σ = [some (.int p), some (.int (n : Int)), some (.ref a), some (.ref r0), o4, o5]) ⟨g0, [], none, none, rfl, by simp, e0, rfl⟩ ?_ ?_
  · rintro i σ H1 hi ⟨g, cs, o4, o5, hl, hc, hr0, rfl⟩
    refine ⟨_, rfl, _, rfl, a, _, ns, rfl, g.seq ha, by (first | lia | omega), fun v1 => ⟨_, rfl, _, _, rfl, rfl, (show (0 : Int) < p by (first | lia | omega)), _, rfl, _, _, rfl, rfl, by show 4 ≤ sizeLine; decide, fun r1 h1 => ?_⟩⟩
    have m1 := md (a := v1) (p := p) (by (first | lia | omega))
    have g1 : Same H1 (upd H1 r1 (.lst [.int (v1 % p), .int (p - 1), .int 0, .int 1])) := same_new h1 _
    have e1 : (upd H1 r1 (.lst [.int (v1 % p), .int (p - 1), .int 0, .int 1])) r1 = _ := upd_same
    generalize upd H1 r1 (.lst [.int (v1 % p), .int (p - 1), .int 0, .int 1]) = H2 at g1 e1 ⊢
    refine ⟨_, rfl, .inl ⟨rfl, _, SqL.of (g1 _ _ hr0)⟩, _, rfl, _, rfl, _, rfl, _, _, rfl, rfl, a, _, ns, rfl, (g.trans g1).seq ha, by (first | lia | omega), fun v2 => ⟨_, _, rfl, rfl, (show (0 : Int) < 4 by decide), ?_⟩⟩
    have m2 := md (a := v2) (p := 4) (by decide)
    obtain ⟨c, hcp, hat⟩ := menu4 m1 hp m2.1 m2.2
    refine ⟨r1, _, _, _, rfl, rfl, SqL.of e1, hat, r0, _, _, rfl, rfl, g1 _ _ hr0, Nat.lt_of_le_of_lt (by rw [List.length_map]; (first | lia | omega)) (small1000 (n := 1000) (Nat.le_refl _)), ?_⟩
    refine ⟨same_upd (g.trans g1) h0, cs ++ [c], _, _, by simp [hl], fun x hx => ?_, by rw [upd_same]; simp, rfl⟩
    rcases List.mem_append.mp hx with hx | hx
    · exact hc x hx
    · have : x = c := by simpa using hx
      rw [this]; exact hcp
  · rintro σ H1 ⟨g, cs, o4, o5, hl, hc, hr0, rfl⟩
    exact ⟨_, rfl, q cs hl hc r0 H1 g h0 hr0⟩
theorem sc_points : FnScope ["_law_prime", "_law_curve", "_law_length", "_law_signs", "_law_place", "_law_total", "_law_power", "_law_number"] ["_law_prime", "_law_curve", "_law_length"] (defScope (top 33)) := ⟨rfl, rfl, rfl, by decide +kernel, rfl, by decide +kernel, by decide +kernel⟩
theorem drop_get {cs : List Int} {i : Nat} {a : Int} (h : cs[i]? = some a) : cs.drop i = a :: cs.drop (i + 1) := by
  obtain ⟨hi, e⟩ := List.getElem?_eq_some_iff.mp h
  rw [List.drop_eq_getElem_cons hi, e]
theorem ok_points (D : Def K mg "_law_points" ["_law_prime", "_law_curve", "_law_length"] (top 33)) (hrng : mg "range" = none) :
    Has P w K mg base 1 "_law_points" ["_law_prime", "_law_curve", "_law_length"] (spPoints K) := by
  refine D.ok sc_points (fun vs H Q E h => by obtain ⟨p, a, cs, L, rfl, _⟩ := h; rfl) fun f cdv A outer s H vs Q E hr h => ?_
  obtain ⟨p, a, cs, L, rfl, hp, hpm, hL, ha, hc, q⟩ := h
  refine ⟨_, pss_cons (ps_set (i := 3) sc_points.nd rfl (Or.inl rfl) (pe_lst pa_nil)) (pss_cons (ps_for PassesOwn.never rfl (pi_range1 rfl hrng (pa_cons (pv 2) pa_nil)) (pg_name (i := 4) sc_points.nd rfl (Or.inl rfl))
    (pss_cons (ps_set (i := 5) sc_points.nd rfl (Or.inl rfl) pe_int) (pss_cons (ps_set (i := 6) sc_points.nd rfl (Or.inl rfl) pe_int)
    (pss_cons (ps_for PassesOwn.never rfl (pi_listK K rfl (pv 1)) (pg_name (i := 7) sc_points.nd rfl (Or.inl rfl))
      (pss_cons (ps_set (i := 5) sc_points.nd rfl (Or.inl rfl) (pe_op op_add (pv 5) (pe_op op_mul (pv 7) (pv 6)))) (pss_one (ps_set (i := 6) sc_points.nd rfl (Or.inl rfl) (pe_op op_mul (pv 6) (pv 4))))))
    (pss_one (ps_expr (pe_bm PySem.F.plainAttrs_list PySem.F.slot_list_append PySem.F.type_list_append mt_append (pv 3) (pa_cons (pe_op op_mod (pv 5) (pv 0)) pa_nil))))))))
    (pss_one (ps_ret (pv 3)))), ?_⟩
  refine ⟨by show 0 ≤ sizeLine; decide, fun r0 h0 => ⟨_, rfl, (L : Int), rfl, by (first | lia | omega), by (first | lia | omega), ?_⟩⟩
  rw [Int.toNat_natCast]
  have g0 : Same H (upd H r0 (.lst [])) := same_new h0 _
  have e0 : (upd H r0 (.lst [])) r0 = some (.lst ((SM.pts p cs 0).map V.int)) := upd_same
  generalize upd H r0 (.lst []) = H0 at g0 e0 ⊢
  refine for_range (fun i σ H' => Same H H' ∧ ∃ o4 o5 o6 o7 : Option V, i ≤ L ∧ H' r0 = some (.lst ((SM.pts p cs i).map V.int)) ∧ σ = [some (.int p), some (.ref a), some (.int (L : Int)), some (.ref r0), o4, o5, o6, o7]) ⟨g0, none, none, none, none, Nat.zero_le _, e0, rfl⟩ ?_ ?_
  · rintro i σ H1 hi ⟨g, o4, o5, o6, o7, hle, hr0, rfl⟩
    refine ⟨_, rfl, a, rfl, ⟨_, g.seq ha⟩, ?_⟩
    refine for_list (xs := cs.map V.int) (fun j σ H' => H' = H1 ∧ ∃ (t w : Int) (o7 : Option V), SM.ptGo (i : Int) (cs.drop j) (t, w) = SM.ptGo (i : Int) cs (0, 1) ∧ σ = [some (.int p), some (.ref a), some (.int (L : Int)), some (.ref r0), some (.int (0 + (i : Int))), some (.int t), some (.int w), o7])
      ⟨rfl, 0, 1, o7, rfl, rfl⟩ (fun j σ H' _ h => by rw [h.1]; exact g.seq ha) ?_ ?_
    · rintro j v σ H' hv ⟨rfl, t, w', o7, e, rfl⟩
      obtain ⟨v, rfl, hv'⟩ := get_int hv
      replace hv := hv'
      have hb := hc v (List.mem_of_getElem? hv)
      rw [drop_get hv] at e
      refine ⟨_, rfl, _, rfl, _, rfl, _, _, rfl, rfl, cml hb.1 hb.2 hpm, _, _, rfl, rfl, ⟨_, rfl, _, rfl, _, _, rfl, rfl, .inr ⟨by (first | lia | omega), by (first | lia | omega)⟩, rfl, _, _, _, ?_, rfl⟩⟩
      rw [show (0 : Int) + (i : Int) = (i : Int) by (first | lia | omega)]
      exact e
    · rintro σ H' ⟨rfl, t, w', o7, e, rfl⟩
      rw [List.length_map, List.drop_length] at e
      have e' : (t, w') = SM.ptGo (i : Int) cs (0, 1) := e
      have et : t = SM.ev cs (i : Int) := by
        have := SM.ptGo_ev (i : Int) cs (0, 1)
        rw [← e'] at this
        have h2 : t = 0 + 1 * SM.ev cs (i : Int) := this
        (first | lia | omega)
      subst et
      refine ⟨_, rfl, .inl ⟨rfl, _, SqL.of hr0⟩, _, rfl, _, rfl, _, _, rfl, rfl, hp, r0, _, _, rfl, rfl, hr0, Nat.lt_of_le_of_lt (by rw [List.length_map, SM.pts_len]; (first | lia | omega)) (small1000 (n := 1000) (Nat.le_refl _)), ?_⟩
      refine ⟨same_upd g h0, _, _, _, _, by (first | lia | omega), ?_, rfl⟩
      rw [upd_same]; simp [SM.pts, List.range_succ]
  · rintro σ H1 ⟨g, o4, o5, o6, o7, hle, hr0, rfl⟩
    exact ⟨_, rfl, q r0 H1 g h0 hr0⟩
theorem sc_whole : FnScope ["_law_found"] ["_law_found"] (defScope (top 29)) := ⟨rfl, rfl, rfl, by decide +kernel, rfl, by decide +kernel, by decide +kernel⟩
theorem ok_whole (D : Def K mg "_law_whole" ["_law_found"] (top 29)) (hi : mg "isinstance" = none) (hint : mg "int" = none) (hbool : mg "bool" = none) : Has P w K mg base 1 "_law_whole" ["_law_found"] spWhole := by
  refine D.ok sc_whole (fun vs H Q E h => by obtain ⟨i, rfl, _⟩ := h; rfl) fun f cdv A outer s H vs Q E hr h => ?_
  obtain ⟨i, rfl, q⟩ := h
  refine ⟨_, pss_one (ps_ret (pe_and (pe_callB (call_isinK K rfl) rfl hi bt_isin (pa_cons (pv 0) (pa_cons (pe_bltn (v := .ty "int") (by exact rfl) (by exact hint) bt_int (by exact rfl)) pa_nil)))
    (pe_one (pe_not (pe_callB (call_isinK K rfl) rfl hi bt_isin (pa_cons (pv 0) (pa_cons (pe_bltn (v := .ty "bool") (by exact rfl) (by exact hbool) bt_bool (by exact rfl)) pa_nil))))))), ?_⟩
  exact ⟨_, rfl, _, _, _, true, rfl, TyOf.int i, rfl, _, rfl, iteT ⟨_, rfl, _, _, _, false, rfl, TyOf.int i, rfl, _, rfl, q⟩⟩
theorem sc_are_signs : FnScope ["_law_found", "_law_due", "_law_k"] ["_law_found", "_law_due"] (defScope (top 34)) := ⟨rfl, rfl, rfl, by decide +kernel, rfl, by decide +kernel, by decide +kernel⟩
theorem ok_are_signs (D : Def K mg "_law_are_signs" ["_law_found", "_law_due"] (top 34)) (hi : mg "isinstance" = none) (hlist : mg "list" = none) (hlen : mg "len" = none) (hrng : mg "range" = none)
    (WH : Has P w K mg base 1 "_law_whole" ["_law_found"] spWhole) : Has P w K mg base 2 "_law_are_signs" ["_law_found", "_law_due"] (spAreSigns K) := by
  refine D.ok sc_are_signs (fun vs H Q E h => by obtain ⟨a, b, ns, rfl, _⟩ := h; rfl) fun f cdv A outer s H vs Q E hr h => ?_
  obtain ⟨a, b, ns, rfl, ha, hb, hn, q⟩ := h
  have hz : (ns.map V.int).length = ns.length := List.length_map ..
  refine ⟨_, pss_cons (ps_if (ptw (pw_or (pt_not (pt_val (pe_callB (call_isinK K rfl) rfl hi bt_isin (pa_cons (pv 0) (pa_cons (pe_bltn (v := .ty "list") (by exact rfl) (by exact hlist) bt_list (by exact rfl)) pa_nil)))))
      (pw_or1 (pt_cmpR op_ne (pe_callB (call_len_seqK K rfl) rfl hlen PySem.boot_len (pa_cons (pv 0) pa_nil)) (pe_callB (call_len_seqK K rfl) rfl hlen PySem.boot_len (pa_cons (pv 1) pa_nil)) (nomark _))))) pss_never pss_nil)
    (pss_cons (ps_for PassesOwn.never rfl (pi_range1 rfl hrng (pa_cons (pe_callB (call_len_seqK K rfl) rfl hlen PySem.boot_len (pa_cons (pv 1) pa_nil)) pa_nil)) (pg_name (i := 2) sc_are_signs.nd rfl (Or.inl rfl))
      (pss_one (ps_if (ptw (pw_or (pt_not (pt_val (pcall WH hr rfl (pa_cons (pe_ix (ix_listK K rfl) (pv 0) (pv 2) (fun _ _ => rfl)) pa_nil)))) (pw_or1 (pt_cmpR op_ne (pe_ix (ix_listK K rfl) (pv 0) (pv 2) (fun _ _ => rfl)) (pe_ix (ix_listK K rfl) (pv 1) (pv 2) (fun _ _ => rfl)) (nomark _))))) pss_never pss_nil)))
    (pss_one (ps_ret pe_bl))), ?_⟩
  refine ⟨_, rfl, _, _, _, true, rfl, TyOf.lst ha, rfl, _, rfl, iteF ⟨_, rfl, a, _, rfl, .inl (SqL.of ha), _, rfl, b, _, rfl, .inl hb, rfl, _, rfl, ?_⟩⟩
  refine iteNS rfl ?_
  refine ⟨_, rfl, b, _, rfl, .inl hb, _, rfl, by rw [hz]; (first | lia | omega), by rw [hz]; (first | lia | omega), ?_⟩
  rw [Int.toNat_natCast]
  refine for_range (fun i σ H' => H' = H ∧ ∃ o : Option V, σ = [some (.ref a), some (.ref b), o]) ⟨rfl, none, rfl⟩ ?_ ?_
  · rintro i σ H' hi' ⟨rfl, o, rfl⟩
    rw [hz] at hi'
    have hat : atI (ns.map V.int) (0 + (i : Int)) = some (.int ns[i]) := by
      rw [show (0 : Int) + (i : Int) = (i : Int) by (first | lia | omega)]
      exact atI_nat (by rw [List.getElem?_map, List.getElem?_eq_getElem hi']; rfl)
    refine ⟨_, rfl, _, rfl, a, _, _, _, rfl, rfl, SqL.of ha, hat, _, rfl, _, rfl, iteF ⟨_, rfl, _, rfl, a, _, _, _, rfl, rfl, SqL.of ha, hat, _, rfl, _, rfl, b, _, _, _, rfl, rfl, hb, hat, rfl, _, rfl, iteNS rfl ⟨rfl, _, rfl⟩⟩⟩
  · rintro σ H' ⟨rfl, _⟩
    exact q
end
end Sy
namespace Sy
open PySem PySem.Spec L2 L3
open PyProof.Rows hiding St
seal L2.PSs L2.PS L2.PE L2.PT L2.PW L2.PA L2.PG L2.PGs L2.PI L3.PIf
inductive spApart (K : PySem.W.Frag) : List V → Hp → VK → XK → Prop
  | mk {vs : List V} {H : Hp} {Q : VK} {E_ : XK} (a b : Addr) (xs ys : List Int) (z_0 : vs = [.ref a, .ref b]) (z_1 : IL K H a xs) (z_2 : IL K H b ys) (z_3 : xs.length ≤ 1000) (z_4 : ∀ H', Same H H' → Q (.int (SM.apartN xs ys : Nat)) H') : spApart K vs H Q E_
inductive spLawLonger (K : PySem.W.Frag) : List V → Hp → VK → XK → Prop
  | mk {vs : List V} {H : Hp} {Q : VK} {E_ : XK} (p : Int) (a : Addr) (ws : List Int) (L : Nat) (z_0 : vs = [.int p, .ref a, .int (L : Int)]) (z_1 : Ok p) (z_2 : IL K H a ws) (z_3 : (∀ s ∈ ws, 0 ≤ s ∧ s < p)) (z_4 : 1 ≤ ws.length) (z_5 : ws.length ≤ L) (z_6 : ws.length ≤ 100) (z_7 : (L : Int) ≤ p) (z_8 : NewL H (SM.lengthened p ws L) Q) : spLawLonger K vs H Q E_
inductive spLaw (K : PySem.W.Frag) : List V → Hp → VK → XK → Prop
  | mk {vs : List V} {H : Hp} {Q : VK} {E_ : XK} (a : Addr) (ns : List Int) (z_0 : vs = [.ref a]) (z_1 : IL K H a ns) (z_2 : ns.length ≤ 63) (z_3 : ∀ H', Q (.bl true) H') : spLaw K vs H Q E_
section
variable {P : Program} {w : World} {K : PySem.W.Frag} {mg : Str → Option Value} {base : Heap}
def apL (xs ys : List Int) (i : Nat) : List Int := (((xs.take i).zip (ys.take i)).filter fun q => q.1 != q.2).map Prod.fst
theorem apL_snoc {xs ys : List Int} {i : Nat} {a b : Int} (ha : xs[i]? = some a) (hb : ys[i]? = some b) : apL xs ys (i + 1) = apL xs ys i ++ (if a = b then [] else [a]) := by
  have h1 := (List.getElem?_eq_some_iff.mp ha).1
  have h2 := (List.getElem?_eq_some_iff.mp hb).1
  unfold apL
  rw [take_snoc ha, take_snoc hb, List.zip_append (by simp; (first | lia | omega)), List.filter_append, List.map_append]
  by_cases e : a = b <;> simp [e]
theorem apL_len {xs ys : List Int} (i : Nat) : (apL xs ys i).length ≤ xs.length := by
  unfold apL
  rw [List.length_map]
  refine Nat.le_trans (List.length_filter_le _ _) ?_
  simp; (first | lia | omega)
theorem apL_all (xs ys : List Int) : (apL xs ys (min xs.length ys.length)).length = SM.apartN xs ys := by
  unfold apL SM.apartN
  have e : (xs.take (min xs.length ys.length)).zip (ys.take (min xs.length ys.length)) = xs.zip ys := by
    rw [List.zip_eq_zipWith, List.zip_eq_zipWith, ← List.take_zipWith, List.take_of_length_le (by simp)]
  rw [List.length_map, e]
theorem sc_apart : FnScope ["one", "two"] ["one", "two"] (defScope (top 27)) := ⟨rfl, rfl, rfl, by decide +kernel, rfl, by decide +kernel, by decide +kernel⟩
theorem ok_apart (D : Def K mg "apart" ["one", "two"] (top 27)) (hz : mg "zip" = none) (hlen : mg "len" = none) : Has P w K mg base 1 "apart" ["one", "two"] (spApart K) := by
  refine D.ok sc_apart (fun vs H Q E h => by obtain ⟨a, b, xs, ys, rfl, _⟩ := h; rfl) fun f cdv A outer s H vs Q E hr h => ?_
  obtain ⟨a, b, xs, ys, rfl, ha, hb, hn, q⟩ := h
  refine ⟨_, pss_one (ps_ret (pe_callB (call_len_seqK K rfl) rfl hlen PySem.boot_len (pa_cons (pe_comp (N' := ["left", "right"]) (ix := [none, none]) rfl
    ⟨rfl, by decide +kernel, by decide +kernel, by with_unfolding_all rfl, by exact trivial, by exact trivial, by exact trivial⟩
    (pi_zipK K rfl rfl hz (pa_cons (pv 0) (pa_cons (pv 1) pa_nil)))
    fun C ex pn s H => ⟨pg_tupK (n := 2) K rfl rfl (pgs_cons (pg_name (i := 0) (show (["left", "right"] : List Str).Nodup by decide +kernel) rfl (Or.inl rfl)) (pgs_cons (pg_name (i := 1) (show (["left", "right"] : List Str).Nodup by decide +kernel) rfl (Or.inl rfl)) pgs_nil)),
      pif_one (pt_cmpR op_ne (pv 0) (pv 1) (nomark _)), pv 0⟩) pa_nil))), ?_⟩
  refine ⟨_, rfl, _, rfl, a, b, _, _, rfl, ha, hb, ?_⟩
  refine comp_zip (fun i zs H' => Same H H' ∧ zs = (apL xs ys i).map V.int) ⟨Same.refl H, rfl⟩ (fun i zs H' h => ⟨h.1.seq ha, h.1.seq hb⟩) ?_ (fun i zs H' h => ?_) ?_
  · rintro i v u t zs H' hv hu ht ⟨g, rfl⟩
    obtain ⟨v, rfl, hv'⟩ := get_int hv
    replace hv := hv'
    obtain ⟨u, rfl, hu'⟩ := get_int hu
    replace hu := hu'
    refine ⟨small (by rw [List.length_map]; exact Nat.le_trans (apL_len i) hn), t, _, rfl, SqT.of upd_same, rfl, _, _, rfl, _, _, rfl, rfl, trivial, _, rfl, _, rfl, rfl, _, rfl, ?_⟩
    refine ite_not (fun c => ?_) (fun c => ?_)
    · have c' : ¬ v = u := fun z => c (congrArg V.int z)
      refine ⟨_, rfl, g.trans (same_new ht _), ?_⟩
      rw [apL_snoc hv hu, if_neg c']; simp
    · have c' : v = u := by injection c
      refine ⟨g.trans (same_new ht _), ?_⟩
      rw [apL_snoc hv hu, if_pos c', List.append_nil]
  · obtain ⟨_, rfl⟩ := h
    exact small (by rw [List.length_map]; exact Nat.le_trans (apL_len i) hn)
  · rintro zs H' ⟨g, rfl⟩ r hr'
    refine ⟨r, _, rfl, .inl (SqL.of upd_same), ?_⟩
    rw [List.length_map, List.length_map, List.length_map, apL_all]
    exact q _ (g.trans (same_new hr' _))
theorem last_at {row : List Int} (h : row ≠ []) : atI (row.map V.int) (-1) = some (.int (row.getD (row.length - 1) 0)) := by
  obtain ⟨l, x, rfl⟩ : ∃ l x, row = l ++ [x] := ⟨row.dropLast, row.getLast h, (List.dropLast_concat_getLast h).symm⟩
  rw [List.map_append]
  have := atI_last (l.map V.int) (V.int x)
  rw [show [x].map V.int = [V.int x] from rfl, this, List.getD_eq_getElem?_getD]
  simp
theorem sc_longer : FnScope ["_law_prime", "_law_word", "_law_length", "_law_lasts", "_law_row", "_law_made_row", "_law_k"] ["_law_prime", "_law_word", "_law_length"] (defScope (top 35)) := ⟨rfl, rfl, rfl, by decide +kernel, rfl, by decide +kernel, by decide +kernel⟩
set_option maxHeartbeats 4000000 in
theorem ok_longer (D : Def K mg "_law_longer" ["_law_prime", "_law_word", "_law_length"] (top 35)) (hlist : mg "list" = none) (hlen : mg "len" = none) (hrng : mg "range" = none) :
    Has P w K mg base 1 "_law_longer" ["_law_prime", "_law_word", "_law_length"] (spLawLonger K) := by
  refine D.ok sc_longer (fun vs H Q E h => by obtain ⟨p, a, ws, L, rfl, _⟩ := h; rfl) fun f cdv A outer s H vs Q E hr h => ?_
  obtain ⟨p, a, ws, L, rfl, ok, ha, hw, hn1, hnL, hn, hLp, q⟩ := h
  have hp := ok.pos
  have hpm := ok.2
  obtain ⟨hcl, hcv⟩ := SM.word_curve ok.1 (word := ws) (by (first | lia | omega))
  have hlo : SM.lengthened p ws L = SM.pts p (SM.ct p (SM.rng ws.length) ws) L := SM.lengthened_pts ..
  have hws : SM.pts p (SM.ct p (SM.rng ws.length) ws) ws.length = ws := by
    have := SM.lengthened_take ok.1 (n := ws.length) hw (by (first | lia | omega)) (Nat.le_refl _)
    rwa [SM.lengthened_pts, SM.pts_take (Nat.le_refl _)] at this
  rw [hlo] at q
  generalize SM.ct p (SM.rng ws.length) ws = c at hcl hcv hlo hws q
  have hG : ∀ i, SM.DN ws.length (fun j => SM.ev c (j : Int)) i = 0 := fun i => SM.polyDN _ c i hcl
  refine ⟨_, pss_cons (ps_set (i := 3) sc_longer.nd rfl (Or.inl rfl) (pe_lst pa_nil)) (pss_cons (ps_set (i := 4) sc_longer.nd rfl (Or.inr rfl) (pe_callTy (call_list_ofK K rfl) rfl hlist bt_list (pa_cons (pv 1) pa_nil)))
    (pss_cut (fun σ' H' => ∃ (rl rr : Addr), Same H H' ∧ H rl = none ∧ H' rl = some (.lst ((SM.lasts ws ws.length).map V.int)) ∧ σ' = [some (.int p), some (.ref a), some (.int (L : Int)), some (.ref rl), some (.ref rr), none, none])
      (ps_while PassesOwn.never (pt_cmpR (op_neL hr.units) (pv 4) (pe_lst pa_nil) (nomark _))
        (pss_cons (ps_expr (pe_bm PySem.F.plainAttrs_list PySem.F.slot_list_append PySem.F.type_list_append mt_append (pv 3) (pa_cons (pe_ix (ix_listK K rfl) (pv 4) (pe_un un_neg pe_int) (fun _ _ => rfl)) pa_nil)))
        (pss_one (ps_set (i := 4) sc_longer.nd rfl (Or.inr rfl) (pe_comp (N' := ["_law_k", "_law_row"]) (ix := [none, some 4]) rfl
          ⟨rfl, by decide +kernel, by decide +kernel, by with_unfolding_all rfl, by exact ⟨rfl, trivial⟩, by exact ⟨⟨_, rfl⟩, trivial⟩, by exact ⟨⟨rfl, rfl, rfl⟩, trivial⟩⟩
          (pi_range1 rfl hrng (pa_cons (pe_op op_sub (pe_callB (call_len_seqK K rfl) rfl hlen PySem.boot_len (pa_cons (pv 4) pa_nil)) pe_int) pa_nil))
          fun C ex pn s H => ⟨pg_name (i := 0) (show (["_law_k", "_law_row"] : List Str).Nodup by decide +kernel) rfl (Or.inl rfl), pif_nil, pe_op op_sub (pe_ix (ix_listK K rfl) (pv 1) (pe_op op_add (pv 0) pe_int) (fun _ _ => rfl)) (pe_ix (ix_listK K rfl) (pv 1) (pv 0) (fun _ _ => rfl))⟩)))))
    (pss_cons (ps_setComp (i := 5) (N' := ["_law_sign", "_law_prime"]) (ix := [none, some 0]) sc_longer.nd rfl rfl rfl
          ⟨rfl, by decide +kernel, by decide +kernel, by with_unfolding_all rfl, by exact ⟨rfl, trivial⟩, by exact ⟨⟨_, rfl⟩, trivial⟩, by exact ⟨⟨rfl, rfl, rfl⟩, trivial⟩⟩
          (pi_listK K rfl (pv 1))
          fun C ex pn s H => ⟨pg_name (i := 0) (show (["_law_sign", "_law_prime"] : List Str).Nodup by decide +kernel) rfl (Or.inl rfl), pif_nil, pe_op op_mod (pv 0) (pv 1)⟩)
    (pss_cons (ps_while PassesOwn.never (pt_cmpR op_lt (pe_callB (call_len_seqK K rfl) rfl hlen PySem.boot_len (pa_cons (pv 5) pa_nil)) (pv 2) (nomark _))
        (pss_cons (ps_for PassesOwn.never rfl (pi_down rfl hrng (pa_cons (pe_op op_sub (pe_callB (call_len_seqK K rfl) rfl hlen PySem.boot_len (pa_cons (pv 3) pa_nil)) pe_int) (pa_cons (pe_un un_neg pe_int) (pa_cons (pe_un un_neg pe_int) pa_nil)))) (pg_name (i := 6) sc_longer.nd rfl (Or.inl rfl))
          (pss_one (ps_asg (pe_op op_add (pe_ix (ix_listK K rfl) (pv 3) (pv 6) (fun _ _ => rfl)) (pe_ix (ix_listK K rfl) (pv 3) (pe_op op_add (pv 6) pe_int) (fun _ _ => rfl))) (pg_sub (pv 3) (pv 6) set_list))))
        (pss_one (ps_expr (pe_bm PySem.F.plainAttrs_list PySem.F.slot_list_append PySem.F.type_list_append mt_append (pv 5) (pa_cons (pe_op op_mod (pe_ix (ix_listK K rfl) (pv 3) pe_int (fun _ _ => rfl)) (pv 0)) pa_nil))))))
    (pss_one (ps_ret (pv 5))))))), ?_⟩
  refine ⟨by show 0 ≤ sizeLine; decide, fun rl hl => ⟨_, rfl, a, _, rfl, .inl ((same_new hl _).seq ha), fun r0 h0 => ?_⟩⟩
  have g0 : Same H (upd (upd H rl (.lst [])) r0 (.lst (ws.map V.int))) := (same_new hl _).trans (same_new h0 _)
  have el : (upd (upd H rl (.lst [])) r0 (.lst (ws.map V.int))) rl = some (.lst ((SM.lasts ws 0).map V.int)) := (same_new h0 _) _ _ upd_same
  have er : (upd (upd H rl (.lst [])) r0 (.lst (ws.map V.int))) r0 = some (.lst ((SM.dIN ws 0).map V.int)) := upd_same
  have nlr : rl ≠ r0 := ne_of_none (H := upd H rl (.lst [])) upd_same h0
  have hr0 : H r0 = none := (same_new hl _).free h0
  generalize upd (upd H rl (.lst [])) r0 (.lst (ws.map V.int)) = H0 at g0 el er ⊢
  refine ⟨?_, ?_⟩
  · refine ⟨fun m σ H' => ∃ (j : Nat) (r : Addr), m = ws.length - j ∧ j ≤ ws.length ∧ Same H H' ∧ rl ≠ r ∧ H' rl = some (.lst ((SM.lasts ws j).map V.int)) ∧ H' r = some (.lst ((SM.dIN ws j).map V.int)) ∧ σ = [some (.int p), some (.ref a), some (.int (L : Int)), some (.ref rl), some (.ref r), none, none],
      ⟨_, 0, r0, rfl, Nat.zero_le _, g0, nlr, el, er, rfl⟩, ?_⟩
    rintro m σ H1 ⟨j, r, rfl, hj, g, nr, el, er, rfl⟩
    have hdl := SM.dIN_len ws j
    refine ⟨_, rfl, by show 0 ≤ sizeLine; decide, fun e he => ⟨r, e, SM.dIN ws j, [], rfl, rfl, SqL.of ((same_new he _) _ _ er), SqL.of upd_same, _, rfl, ite_not (fun cn => ?_) (fun cn => ?_)⟩⟩
    · have hjlt : j < ws.length := by
        by_cases z : j < ws.length
        · exact z
        · exact absurd (List.length_eq_zero_iff.mp (by rw [hdl]; (first | lia | omega))) cn
      have g1 := g.trans (same_new he (.lst []))
      have el1 := (same_new he (.lst [])) _ _ el
      have er1 := (same_new he (.lst [])) _ _ er
      generalize upd H1 e (.lst []) = H2 at g1 el1 er1 ⊢
      refine ⟨fun σ' H' => ∃ r' : Addr, Same H H' ∧ rl ≠ r' ∧ H' rl = some (.lst ((SM.lasts ws (j + 1)).map V.int)) ∧ H' r' = some (.lst ((SM.dIN ws (j + 1)).map V.int)) ∧ σ' = [some (.int p), some (.ref a), some (.int (L : Int)), some (.ref rl), some (.ref r'), none, none],
        fun σ' H' z => by obtain ⟨r', z1, z2, z3, z4, z5⟩ := z; exact ⟨ws.length - (j + 1), by (first | lia | omega), j + 1, r', rfl, hjlt, z1, z2, z3, z4, z5⟩, ?_⟩
      have hlast := last_at cn
      have hv : (SM.dIN ws j).getD ((SM.dIN ws j).length - 1) 0 = SM.DN j (fun j => ws.getD j 0) (ws.length - 1 - j) := by
        rw [SM.dIN_get ws j _ (by (first | lia | omega)), hdl]; congr 1; (first | lia | omega)
      rw [hv] at hlast
      refine ⟨_, rfl, .inl ⟨rfl, _, SqL.of el1⟩, _, rfl, _, rfl, r, _, _, _, rfl, rfl, SqL.of er1, hlast, rl, _, _, rfl, rfl, el1, Nat.lt_of_le_of_lt (by rw [List.length_map, SM.lasts_len]; (first | lia | omega)) (small1000 (n := 1000) (Nat.le_refl _)), ?_⟩
      have g2 : Same H (upd H2 rl (.lst ((SM.lasts ws j).map V.int ++ [.int (SM.DN j (fun j => ws.getD j 0) (ws.length - 1 - j))]))) := same_upd g1 hl
      have el2 : (upd H2 rl (.lst ((SM.lasts ws j).map V.int ++ [.int (SM.DN j (fun j => ws.getD j 0) (ws.length - 1 - j))]))) rl = some (.lst ((SM.lasts ws (j + 1)).map V.int)) := by rw [upd_same, SM.lasts_snoc]; simp
      have er2 : (upd H2 rl (.lst ((SM.lasts ws j).map V.int ++ [.int (SM.DN j (fun j => ws.getD j 0) (ws.length - 1 - j))]))) r = some (.lst ((SM.dIN ws j).map V.int)) := by rw [upd_ne (Ne.symm nr)]; exact er1
      generalize upd H2 rl (.lst ((SM.lasts ws j).map V.int ++ [.int (SM.DN j (fun j => ws.getD j 0) (ws.length - 1 - j))])) = H3 at g2 el2 er2 ⊢
      have hz : ((SM.dIN ws j).map V.int).length = (SM.dIN ws j).length := List.length_map ..
      refine ⟨_, rfl, r, _, rfl, .inl (SqL.of er2), _, _, rfl, rfl, _, rfl, by rw [hz]; (first | lia | omega), by rw [hz]; (first | lia | omega), ?_⟩
      rw [show ((((SM.dIN ws j).map V.int).length : Nat) : Int) - 1 = (((SM.dIN ws j).length - 1 : Nat) : Int) by rw [hz]; (first | lia | omega), Int.toNat_natCast]
      refine comp_range (fun i ys H4 => H4 = H3 ∧ ys = ((List.range i).map fun (k : Nat) => (SM.dIN ws j).getD (k + 1) 0 - (SM.dIN ws j).getD k 0).map V.int) ⟨rfl, rfl⟩ ?_ ?_
      · rintro i ys H4 hi ⟨rfl, rfl⟩
        have a1 : atI ((SM.dIN ws j).map V.int) (0 + (i : Int) + 1) = some (.int ((SM.dIN ws j).getD (i + 1) 0)) := by
          rw [show (0 : Int) + (i : Int) + 1 = ((i + 1 : Nat) : Int) by (first | lia | omega)]; exact atI_getD' (by (first | lia | omega))
        have a2 : atI ((SM.dIN ws j).map V.int) (0 + (i : Int)) = some (.int ((SM.dIN ws j).getD i 0)) := by
          rw [show (0 : Int) + (i : Int) = ((i : Nat) : Int) by (first | lia | omega)]; exact atI_getD' (by (first | lia | omega))
        refine ⟨small (by simp; (first | lia | omega)), ⟨rfl, trivial⟩, ⟨_, rfl, _, rfl, _, _, rfl, rfl, r, _, _, _, rfl, rfl, SqL.of er2, a1, _, rfl, _, rfl, r, _, _, _, rfl, rfl, SqL.of er2, a2, _, _, rfl, rfl, rfl, ?_⟩⟩
        simp [List.range_succ]
      · rintro ys H4 ⟨rfl, rfl⟩
        refine ⟨small (by simp; (first | lia | omega)), fun r2 h2 => ⟨r2, g2.trans (same_new h2 _), ne_of_none el2 h2, (same_new h2 _) _ _ el2, ?_, rfl⟩⟩
        rw [upd_same]; rfl
    · have hje : j = ws.length := by
        have := congrArg List.length cn
        rw [hdl] at this
        simp at this; (first | lia | omega)
      subst hje
      exact ⟨rl, r, g.trans (same_new he _), hl, (same_new he _) _ _ el, rfl⟩
  clear nlr hr0 er el g0 h0 hl
  rintro σ2 H2 ⟨rl, rr, g, hl, el, rfl⟩
  refine ⟨_, rfl, a, rfl, ⟨_, g.seq ha⟩, ?_⟩
  refine comp_list (xs := ws.map V.int) (fun i ys H' => H' = H2 ∧ ys = (ws.take i).map V.int) ⟨rfl, rfl⟩ (fun i ys H' h => by rw [h.1]; exact g.seq ha) ?_ ?_
  · rintro i v ys H' hv ⟨rfl, rfl⟩
    obtain ⟨x, rfl, hx⟩ := get_int hv
    have b := hw x (List.mem_of_getElem? hx)
    refine ⟨small (by simp; (first | lia | omega)), ⟨rfl, trivial⟩, ⟨_, rfl, _, rfl, _, _, rfl, rfl, hp, rfl, ?_⟩⟩
    rw [take_snoc hx]
    show (ws.take i).map V.int ++ [V.int (x % p)] = _
    rw [Int.emod_eq_of_lt b.1 b.2]; simp
  rintro ys H' ⟨rfl, rfl⟩
  have etk : ws.take (ws.map V.int).length = ws := by rw [List.length_map, List.take_length]
  rw [etk]
  refine ⟨small (by simp; (first | lia | omega)), fun rm hm => ?_⟩
  have gm := g.trans (same_new hm (.lst (ws.map V.int)))
  have elm := (same_new hm (.lst (ws.map V.int))) _ _ el
  have nlm : rl ≠ rm := ne_of_none el hm
  have hrm : H rm = none := g.free hm
  have em : (upd H' rm (.lst (ws.map V.int))) rm = some (.lst ((SM.pts p c ws.length).map V.int)) := by rw [upd_same, hws]
  generalize upd H' rm (.lst (ws.map V.int)) = H3 at gm elm em ⊢
  have hst : (SM.lasts ws ws.length).length = ws.length ∧ ∀ t, t < ws.length → SM.Cg p ((SM.lasts ws ws.length).getD t 0) (SM.DN t (fun j => SM.ev c (j : Int)) (ws.length - 1 - t)) := by
    refine ⟨SM.lasts_len .., fun t ht => ?_⟩
    rw [SM.lasts_get ht]
    refine SM.DN_cg t _ _ _ fun j hj => ?_
    have hjl : j < ws.length := by (first | lia | omega)
    have e : ws[j]? = some ws[j] := List.getElem?_eq_getElem hjl
    have e2 : ws.getD j 0 = ws[j] := by rw [List.getD_eq_getElem?_getD, e]; rfl
    rw [e2]; exact (hcv j _ e).symm
  refine ⟨fun m σ H' => ∃ (k : Nat) (ls : List Int) (o6 : Option V), m = L - k ∧ ws.length ≤ k ∧ k ≤ L ∧ Same H H' ∧ H' rm = some (.lst ((SM.pts p c k).map V.int)) ∧ H' rl = some (.lst (ls.map V.int)) ∧
    (ls.length = ws.length ∧ ∀ t, t < ws.length → SM.Cg p (ls.getD t 0) (SM.DN t (fun j => SM.ev c (j : Int)) (k - 1 - t))) ∧ σ = [some (.int p), some (.ref a), some (.int (L : Int)), some (.ref rl), some (.ref rr), some (.ref rm), o6],
    ⟨_, ws.length, _, none, rfl, Nat.le_refl _, hnL, gm, em, elm, hst, rfl⟩, ?_⟩
  clear hst elm em gm
  rintro m σ H4 ⟨k, ls, o6, rfl, k1, k2, g4, em, el4, hst, rfl⟩
  have hkl : ((SM.pts p c k).map V.int).length = k := by rw [List.length_map, SM.pts_len]
  refine ⟨_, rfl, rm, _, rfl, .inl (SqL.of em), _, rfl, _, _, rfl, rfl, _, rfl, ite2 (fun cc => ?_) (fun cc => ?_)⟩
  · have hkL : k < L := by
      have := of_decide_eq_true cc
      rw [hkl] at this; (first | lia | omega)
    refine ⟨fun σ' H' => ∃ (ls : List Int) (o6 : Option V), Same H H' ∧ H' rm = some (.lst ((SM.pts p c (k + 1)).map V.int)) ∧ H' rl = some (.lst (ls.map V.int)) ∧
      (ls.length = ws.length ∧ ∀ t, t < ws.length → SM.Cg p (ls.getD t 0) (SM.DN t (fun j => SM.ev c (j : Int)) (k + 1 - 1 - t))) ∧ σ' = [some (.int p), some (.ref a), some (.int (L : Int)), some (.ref rl), some (.ref rr), some (.ref rm), o6],
      fun σ' H' z => by obtain ⟨ls', o6', z1, z2, z3, z4, z5⟩ := z; exact ⟨L - (k + 1), by (first | lia | omega), k + 1, ls', o6', rfl, by (first | lia | omega), hkL, z1, z2, z3, z4, z5⟩, ?_⟩
    have hll : (ls.map V.int).length = ws.length := by rw [List.length_map]; exact hst.1
    refine ⟨_, rfl, rl, _, rfl, .inl (SqL.of el4), _, _, rfl, rfl, _, rfl, _, rfl, _, _, rfl, by rw [hll]; (first | lia | omega), ?_⟩
    rw [show ((((ls.map V.int).length : Nat) : Int) - 2 - -1).toNat = ws.length - 1 by rw [hll]; (first | lia | omega), show ((((ls.map V.int).length : Nat) : Int) - 2) = (ws.length : Int) - 2 by rw [hll]]
    refine for_down (fun i σ H' => ∃ (ls : List Int) (o6 : Option V), i ≤ ws.length - 1 ∧ Same H H' ∧ H' rm = some (.lst ((SM.pts p c k).map V.int)) ∧ H' rl = some (.lst (ls.map V.int)) ∧ SM.LI p (fun j => SM.ev c (j : Int)) ws.length k i ls ∧
      σ = [some (.int p), some (.ref a), some (.int (L : Int)), some (.ref rl), some (.ref rr), some (.ref rm), o6]) ⟨ls, o6, Nat.zero_le _, g4, em, el4, SM.LI_start hG hn1 k1 hst.1 hst.2, rfl⟩ ?_ ?_
    · rintro i σ H5 hi ⟨ls5, o65, hi5, g5, em5, el5, li, rfl⟩
      have hl5 : ls5.length = ws.length := li.1
      have hz5 : (ls5.map V.int).length = ws.length := by rw [List.length_map]; exact hl5
      have ek : (ws.length : Int) - 2 - (i : Int) = ((ws.length - 2 - i : Nat) : Int) := by (first | lia | omega)
      have ek1 : (ws.length : Int) - 2 - (i : Int) + 1 = ((ws.length - 2 - i + 1 : Nat) : Int) := by (first | lia | omega)
      have a1 : atI (ls5.map V.int) ((ws.length : Int) - 2 - (i : Int)) = some (.int (ls5.getD (ws.length - 2 - i) 0)) := by rw [ek]; exact atI_getD' (by (first | lia | omega))
      have a2 : atI (ls5.map V.int) ((ws.length : Int) - 2 - (i : Int) + 1) = some (.int (ls5.getD (ws.length - 2 - i + 1) 0)) := by rw [ek1]; exact atI_getD' (by (first | lia | omega))
      have hix : ixN (ls5.map V.int).length ((ws.length : Int) - 2 - (i : Int)) = some (ws.length - 2 - i) := by
        unfold ixN
        rw [ek, if_pos (by (first | lia | omega)), if_pos (by rw [hz5]; (first | lia | omega)), Int.toNat_natCast]
      refine ⟨_, rfl, _, rfl, rl, _, _, _, rfl, rfl, SqL.of el5, a1, _, rfl, _, rfl, _, _, rfl, rfl, rl, _, _, _, rfl, rfl, SqL.of el5, a2, _, _, rfl, rfl, ?_⟩
      refine ⟨_, rfl, _, rfl, rl, _, _, _, rfl, rfl, el5, hix, _, _, by (first | lia | omega), same_upd g5 hl, by rw [upd_ne (Ne.symm nlm)]; exact em5, by rw [upd_same, ← List.map_set], SM.LI_turn li k1 (by (first | lia | omega)) (by (first | lia | omega)), rfl⟩
    · rintro σ H5 ⟨ls5, o65, hi5, g5, em5, el5, li, rfl⟩
      have fin := SM.LI_end li (by (first | lia | omega))
      have a0 : atI (ls5.map V.int) 0 = some (.int (ls5.getD 0 0)) := by
        have := atI_getD' (row := ls5) (k := 0) (by rw [fin.1]; (first | lia | omega))
        exact this
      have hv : ls5.getD 0 0 % p = SM.ev c (k : Int) % p := by
        have := (fin.2 0 (by (first | lia | omega))).emod
        rw [this]
        show SM.ev c ((k + 1 - 1 - 0 : Nat) : Int) % p = _
        rw [show k + 1 - 1 - 0 = k by (first | lia | omega)]
      refine ⟨_, rfl, .inl ⟨rfl, _, SqL.of em5⟩, _, rfl, rl, _, _, _, rfl, rfl, SqL.of el5, a0, _, rfl, _, _, rfl, rfl, hp, rm, _, _, rfl, rfl, em5, Nat.lt_of_le_of_lt (by rw [hkl]; (first | lia | omega)) (small1000 (n := 1000) (Nat.le_refl _)), ?_⟩
      refine ⟨ls5, _, same_upd g5 hrm, ?_, by rw [upd_ne nlm]; exact el5, fin, rfl⟩
      rw [upd_same]
      show some (HO.lst ((SM.pts p c k).map V.int ++ [V.int (ls5.getD 0 0 % p)])) = _
      rw [hv]; simp [SM.pts, List.range_succ]
  · have hkL : k = L := by
      have : ¬ ((((SM.pts p c k).map V.int).length : Nat) : Int) < (L : Int) := fun z => cc (decide_eq_true z)
      rw [hkl] at this; (first | lia | omega)
    subst hkL
    exact ⟨_, rfl, q rm H4 g4 hrm em⟩
end
end Sy
namespace Sy
open PySem PySem.Spec L2 L3
open PyProof.Rows hiding St
seal L2.PSs L2.PS L2.PE L2.PT L2.PW L2.PA L2.PG L2.PGs L2.PI L3.PIf
section
variable {P : Program} {w : World} {K : PySem.W.Frag} {mg : Str → Option Value} {base : Heap}
theorem cut_all {xs : List V} {n : Nat} (h : xs.length ≤ n) : cutV xs none (some (n : Int)) = xs := by
  unfold cutV
  rw [HT.sIx_none, HT.sIx_nat, Nat.min_eq_right h, List.drop_zero, Nat.sub_zero, List.take_length]
theorem cut_ints (ns : List Int) (lo hi : Option Int) : ∃ ms : List Int, cutV (ns.map V.int) lo hi = ms.map V.int := by
  unfold cutV
  exact ⟨_, by rw [← List.map_drop, ← List.map_take]⟩
theorem apL_step {xs ys : List Int} {i : Nat} {a b : Int} (ha : xs[i]? = some a) (hb : ys[i]? = some b) : (((apL xs ys i).length : Nat) : Int) + (if (!decide (V.int a = V.int b)) = true then 1 else 0) = (((apL xs ys (i + 1)).length : Nat) : Int) := by
  rw [apL_snoc ha hb]
  by_cases e : a = b
  · subst e; simp
  · have : ¬ V.int a = V.int b := fun z => e (by injection z)
    simp [e]
theorem sc_law : FnScope ["_law_script", "_law_prime", "_law_size", "_law_length", "_law_one", "_law_two", "_law_spot", "_law_left", "_law_right", "_law_due", "_law_place", "_law_found"] ["_law_script"] (defScope (top 36)) := ⟨rfl, rfl, rfl, by decide +kernel, rfl, by decide +kernel, by decide +kernel⟩
set_option maxHeartbeats 4000000 in
theorem fn_law {fl : Addr} {fdl : FuncData} (F : Fun K "law" "law" (top 36) fl fdl) (hlist : mg "list" = none) (hrng : mg "range" = none) (hint : mg "int" = none)
    (AT : Has P w K mg base 1 "_law_at" ["_law_script", "_law_k"] (spAt K)) (SZ : Has P w K mg base 2 "_law_sizes" ["_law_script"] (spSizes K)) (CB : Has P w K mg base 2 "_law_curve_by" ["_law_prime", "_law_size", "_law_cells"] (spCurveBy K))
    (PT' : Has P w K mg base 1 "_law_points" ["_law_prime", "_law_curve", "_law_length"] (spPoints K)) (AS : Has P w K mg base 2 "_law_are_signs" ["_law_found", "_law_due"] (spAreSigns K)) (WH : Has P w K mg base 1 "_law_whole" ["_law_found"] spWhole)
    (LG : Has P w K mg base 1 "_law_longer" ["_law_prime", "_law_word", "_law_length"] (spLawLonger K)) (AP : Has P w K mg base 1 "apart" ["one", "two"] (spApart K)) (MA : Has P w K mg base 6 "made" ["prime", "word", "length"] (spMade K)) :
    FnOk P w K mg base CX0 7 fl fdl ["_law_script"] (spLaw K) := by
  refine F.ok sc_law (fun vs H Q E h => by obtain ⟨a, ns, rfl, _⟩ := h; rfl) fun cdv A outer s H vs Q E hr h => ?_
  obtain ⟨a, ns, rfl, ha, hn63, q⟩ := h
  refine ⟨_, pss_cons (ps_set (i := 0) sc_law.nd rfl (Or.inl rfl) (pe_slice (sl_listK K rfl) (pv 0) po_none (po_some pe_int)))
    (pss_cut (fun σ' H' => ∃ (a' : Addr) (ns' : List Int) (p : Int) (n L : Nat), Sizes p n L ∧ IL K H' a' ns' ∧ σ' = [some (.ref a'), some (.int p), some (.int (n : Int)), some (.int (L : Int)), none, none, none, none, none, none, none, none])
      (ps_asg (pcall SZ hr rfl (pa_cons (pv 0) pa_nil)) (pg_tupK K rfl rfl (pgs_cons (pg_name (i := 1) sc_law.nd rfl (Or.inl rfl)) (pgs_cons (pg_name (i := 2) sc_law.nd rfl (Or.inl rfl)) (pgs_cons (pg_name (i := 3) sc_law.nd rfl (Or.inl rfl)) pgs_nil)))))
    (pss_cons (ps_set (i := 4) sc_law.nd rfl (Or.inl rfl) (pcall PT' hr rfl (pa_cons (pv 1) (pa_cons (pcall CB hr rfl (pa_cons (pv 1) (pa_cons (pv 2) (pa_cons (pe_slice (sl_listK K rfl) (pv 0) (po_some pe_int) (po_some pe_int)) pa_nil)))) (pa_cons (pv 3) pa_nil)))))
    (pss_cons (ps_set (i := 5) sc_law.nd rfl (Or.inl rfl) (pcall PT' hr rfl (pa_cons (pv 1) (pa_cons (pcall CB hr rfl (pa_cons (pv 1) (pa_cons (pv 2) (pa_cons (pe_slice (sl_listK K rfl) (pv 0) (po_some pe_int) (po_some pe_int)) pa_nil)))) (pa_cons (pv 3) pa_nil)))))
    (pss_cut (fun σ' H' => ∃ (a' : Addr) (p : Int) (n L : Nat) (c1 c2 : List Int) (r1 r2 : Addr) (o6 : Option V), Sizes p n L ∧ c1.length = n ∧ c2.length = n ∧ H' r1 = some (.lst ((SM.pts p c1 L).map V.int)) ∧ H' r2 = some (.lst ((SM.pts p c2 L).map V.int)) ∧
        σ' = [some (.ref a'), some (.int p), some (.int (n : Int)), some (.int (L : Int)), some (.ref r1), some (.ref r2), o6, none, none, none, none, none])
      (ps_if (pt_cmpR op_eq (pe_op op_mod (pcall AT hr rfl (pa_cons (pv 0) (pa_cons pe_int pa_nil))) pe_int) pe_int (nomark _))
        (pss_cons (ps_set (i := 5) sc_law.nd rfl (Or.inl rfl) (pe_callTy (call_list_ofK K rfl) rfl hlist bt_list (pa_cons (pe_slice (sl_listK K rfl) (pv 4) po_none (po_some (pv 2))) pa_nil)))
        (pss_cons (ps_set (i := 6) sc_law.nd rfl (Or.inl rfl) (pe_op op_mod (pcall AT hr rfl (pa_cons (pv 0) (pa_cons pe_int pa_nil))) (pv 2)))
        (pss_cons (ps_asg (pe_op op_mod (pe_op op_add (pe_op op_add (pe_ix (ix_listK K rfl) (pv 5) (pv 6) (fun _ _ => rfl)) pe_int) (pe_op op_mod (pcall AT hr rfl (pa_cons (pv 0) (pa_cons pe_int pa_nil))) (pe_op op_sub (pv 1) pe_int))) (pv 1)) (pg_sub (pv 5) (pv 6) set_list))
        (pss_one (ps_set (i := 5) sc_law.nd rfl (Or.inl rfl) (pcall LG hr rfl (pa_cons (pv 1) (pa_cons (pv 5) (pa_cons (pv 3) pa_nil))))))))) pss_nil)
    (pss_cons (ps_set (i := 7) sc_law.nd rfl (Or.inl rfl) (pcall MA hr rfl (pa_cons (pv 1) (pa_cons (pe_callTy (call_list_ofK K rfl) rfl hlist bt_list (pa_cons (pe_slice (sl_listK K rfl) (pv 4) po_none (po_some (pv 2))) pa_nil)) (pa_cons (pv 3) pa_nil)))))
    (pss_cons (ps_set (i := 8) sc_law.nd rfl (Or.inl rfl) (pcall MA hr rfl (pa_cons (pv 1) (pa_cons (pe_callTy (call_list_ofK K rfl) rfl hlist bt_list (pa_cons (pe_slice (sl_listK K rfl) (pv 5) po_none (po_some (pv 2))) pa_nil)) (pa_cons (pv 3) pa_nil)))))
    (pss_cons (ps_if (ptw (pw_or (pt_not (pt_val (pcall AS hr rfl (pa_cons (pv 7) (pa_cons (pv 4) pa_nil))))) (pw_or1 (pt_not (pt_val (pcall AS hr rfl (pa_cons (pv 8) (pa_cons (pv 5) pa_nil)))))))) pss_never pss_nil)
    (pss_cons (ps_set (i := 9) sc_law.nd rfl (Or.inl rfl) pe_int)
    (pss_cons (ps_for PassesOwn.never rfl (pi_range1 rfl hrng (pa_cons (pv 3) pa_nil)) (pg_name (i := 10) sc_law.nd rfl (Or.inl rfl))
      (pss_one (ps_set (i := 9) sc_law.nd rfl (Or.inl rfl) (pe_op op_add (pv 9) (pe_callTy call_int1 rfl hint bt_int (pa_cons (pe_cmpR op_ne (pe_ix (ix_listK K rfl) (pv 4) (pv 10) (fun _ _ => rfl)) (pe_ix (ix_listK K rfl) (pv 5) (pv 10) (fun _ _ => rfl)) (nomark _)) pa_nil))))))
    (pss_cons (ps_set (i := 11) sc_law.nd rfl (Or.inl rfl) (pcall AP hr rfl (pa_cons (pe_callTy (call_list_ofK K rfl) rfl hlist bt_list (pa_cons (pv 7) pa_nil)) (pa_cons (pe_callTy (call_list_ofK K rfl) rfl hlist bt_list (pa_cons (pv 8) pa_nil)) pa_nil))))
    (pss_cons (ps_if (ptw (pw_or (pt_not (pt_val (pcall WH hr rfl (pa_cons (pv 11) pa_nil)))) (pw_or1 (pt_cmpR op_ne (pv 11) (pv 9) (nomark _))))) pss_never pss_nil)
    (pss_one (ps_ret (pe_or (pe_cmpR (op_eqL hr.units) (pv 4) (pv 5) (nomark _)) (pe_one (pe_cmpR op_gt (pv 11) (pe_op op_sub (pv 3) (pv 2)) (nomark _))))))))))))))))), ?_⟩
  have hz : (ns.map V.int).length = ns.length := List.length_map ..
  refine ⟨_, rfl, 500, rfl, a, _, rfl, ha, fun r0 h0 => ?_⟩
  rw [show (500 : Int) = ((500 : Nat) : Int) from rfl, cut_all (n := 500) (by rw [hz]; (first | lia | omega))]
  refine ⟨⟨_, rfl, r0, ns, rfl, SqL.of upd_same, hn63, fun p n L t H1 g1 z e1 => ?_⟩, ?_⟩
  · exact ⟨t, _, rfl, SqT.of e1, rfl, _, _, rfl, _, _, rfl, _, _, rfl, rfl, r0, ns, p, n, L, z, SqL.of (g1 _ _ upd_same), rfl⟩
  clear h0 r0
  rintro σ1 H1 ⟨a1, ns1, p, n, L, z, ha1, rfl⟩
  have hp := z.ok.pos
  have hp2 := z.ok.1.two
  have hpm := z.ok.2
  have n1 := z.n1
  have n6 := z.n6
  have nL := z.nL
  have Lp := z.Lp
  have L17 := z.L17
  -- the two curves
  obtain ⟨cells, ecells⟩ := cut_ints ns1 (some 3) (some 19)
  refine ⟨_, rfl, _, rfl, _, rfl, _, rfl, 3, rfl, 19, rfl, a1, _, rfl, ha1, fun r1 h1 => ?_⟩
  rw [ecells]
  refine ⟨p, n, r1, cells, rfl, hp2, by (first | lia | omega), SqL.of upd_same, fun cs hcs hcb r2 H2 g2 n2 e2 => ?_⟩
  have G2 := (same_new h1 (.lst (cells.map V.int))).trans g2
  refine ⟨_, rfl, p, r2, cs, L, rfl, hp, hpm, by (first | lia | omega), SqL.of e2, hcb, fun r3 H3 g3 n3 e3 => ?_⟩
  have G3 := G2.trans g3
  obtain ⟨cells', ecells'⟩ := cut_ints ns1 (some 19) (some 35)
  refine ⟨_, rfl, _, rfl, _, rfl, _, rfl, 19, rfl, 35, rfl, a1, _, rfl, G3.seq ha1, fun r1 h1 => ?_⟩
  rw [ecells']
  refine ⟨p, n, r1, cells', rfl, hp2, by (first | lia | omega), SqL.of upd_same, fun ds hds hdb r4 H4 g4 n4 e4 => ?_⟩
  have G4 := (same_new h1 (.lst (cells'.map V.int))).trans g4
  refine ⟨_, rfl, p, r4, ds, L, rfl, hp, hpm, by (first | lia | omega), SqL.of e4, hdb, fun r5 H5 g5 n5 e5 => ?_⟩
  have e35 := (G4.trans g5) _ _ e3
  have ha5 := (G3.trans (G4.trans g5)).seq ha1
  have hdl : ((SM.pts p cs L).map V.int).length = L := by rw [List.length_map, SM.pts_len]
  have hw : ((SM.pts p cs L).map V.int).take n = (SM.pts p cs n).map V.int := by rw [← List.map_take, SM.pts_take nL]
  refine ⟨?_, ?_⟩
  · refine ⟨_, rfl, a1, 35, ns1, rfl, ha5, by decide, fun v1 => ⟨_, _, rfl, rfl, (show (0 : Int) < 3 by decide), rfl, _, rfl, ite2 (fun _ => ?_) (fun _ => ⟨a1, p, n, L, cs, ds, r3, r5, none, z, hcs, hds, e35, e5, rfl⟩)⟩⟩
    refine ⟨_, rfl, _, rfl, (n : Int), rfl, r3, _, rfl, SqL.of e35, fun r6 h6 => ?_⟩
    rw [cut_take (by rw [hdl]; exact nL), hw]
    refine ⟨r6, _, rfl, .inl (SqL.of upd_same), fun r7 h7 => ?_⟩
    have g7 : Same H5 (upd (upd H5 r6 (.lst ((SM.pts p cs n).map V.int))) r7 (.lst ((SM.pts p cs n).map V.int))) := (same_new h6 _).trans (same_new h7 _)
    have e7 : (upd (upd H5 r6 (.lst ((SM.pts p cs n).map V.int))) r7 (.lst ((SM.pts p cs n).map V.int))) r7 = _ := upd_same
    have n7 : H5 r7 = none := (same_new h6 _).free h7
    generalize upd (upd H5 r6 (.lst ((SM.pts p cs n).map V.int))) r7 (.lst ((SM.pts p cs n).map V.int)) = H7 at g7 e7 ⊢
    have hpl : (SM.pts p cs n).length = n := SM.pts_len ..
    refine ⟨_, rfl, a1, 36, ns1, rfl, g7.seq ha5, by decide, fun v2 => ⟨_, rfl, _, _, rfl, rfl, (show (0 : Int) < (n : Int) by (first | lia | omega)), ?_⟩⟩
    have m2 := md (a := v2) (p := (n : Int)) (by (first | lia | omega))
    obtain ⟨k, ek⟩ : ∃ k : Nat, v2 % (n : Int) = (k : Int) := ⟨(v2 % (n : Int)).toNat, by (first | lia | omega)⟩
    have hk : k < n := by (first | lia | omega)
    have hat : atI ((SM.pts p cs n).map V.int) (v2 % (n : Int)) = some (.int ((SM.pts p cs n).getD k 0)) := by rw [ek]; exact atI_getD' (by (first | lia | omega))
    have hix : ixN ((SM.pts p cs n).map V.int).length (v2 % (n : Int)) = some k := by
      unfold ixN
      rw [ek, if_pos (by (first | lia | omega)), if_pos (by rw [List.length_map, hpl]; (first | lia | omega)), Int.toNat_natCast]
    refine ⟨_, rfl, _, rfl, r7, _, _, _, rfl, rfl, SqL.of e7, hat, _, _, rfl, rfl, _, rfl, a1, 37, ns1, rfl, g7.seq ha5, by decide, fun v3 => ⟨_, rfl, _, _, rfl, rfl, _, _, rfl, rfl, (show (0 : Int) < p - 1 by (first | lia | omega)), _, _, rfl, rfl, _, rfl, _, _, rfl, rfl, hp, ?_⟩⟩
    generalize hnv : ((SM.pts p cs n).getD k 0 + 1 + v3 % (p - 1)) % p = nv
    have mv : 0 ≤ nv ∧ nv < p := by rw [← hnv]; exact md hp
    refine ⟨_, rfl, _, rfl, r7, _, _, k, rfl, rfl, e7, hix, ?_⟩
    have e8 : (upd H7 r7 (.lst (((SM.pts p cs n).map V.int).set k (.int nv)))) r7 = some (.lst (((SM.pts p cs n).set k nv).map V.int)) := by rw [upd_same, List.map_set]
    have e38 : (upd H7 r7 (.lst (((SM.pts p cs n).map V.int).set k (.int nv)))) r3 = some (.lst ((SM.pts p cs L).map V.int)) := same_upd g7 n7 _ _ e35
    try rw [show V.int (((SM.pts p cs n).getD k 0 + 1 + v3 % (p - 1)) % p) = V.int nv from congrArg V.int hnv]
    generalize upd H7 r7 (.lst (((SM.pts p cs n).map V.int).set k (.int nv))) = H8 at e8 e38 ⊢
    have hsl : ((SM.pts p cs n).set k nv).length = n := by rw [List.length_set, hpl]
    have hsb : ∀ x ∈ (SM.pts p cs n).set k nv, 0 ≤ x ∧ x < p := fun x hx => by
      rcases List.mem_or_eq_of_mem_set hx with hx | hx
      · exact SM.pts_mem hp x hx
      · rw [hx]; exact mv
    have hwc := SM.word_curve z.ok.1 (word := (SM.pts p cs n).set k nv) (by rw [hsl]; (first | lia | omega))
    refine ⟨_, rfl, _, rfl, _, rfl, p, r7, (SM.pts p cs n).set k nv, L, rfl, z.ok, SqL.of e8, hsb, by (first | lia | omega), by (first | lia | omega), by (first | lia | omega), Lp, fun r9 H9 g9 n9 e9 => ?_⟩
    refine ⟨a1, p, n, L, cs, _, r3, r9, _, z, hcs, hwc.1.trans hsl, g9 _ _ e38, ?_, rfl⟩
    rw [e9, SM.lengthened_pts]
  clear e35 ha5 hdl hw e5 g5 n5 e4 g4 G4 e3 G3 g3 n3 e2 g2 n2 G2 hcb hdb hcs hds
  clear L17 Lp nL n6 n1 hpm hp2 hp z
  rintro σ5 H5 ⟨a5, p, n, L, c1, c2, r1, r2, o6, z, hc1, hc2, e1, e2, rfl⟩
  have hp := z.ok.pos
  have n1 := z.n1
  have n6 := z.n6
  have nL := z.nL
  have Lp := z.Lp
  have L17 := z.L17
  have hpm := z.ok.2
  have hd1 : ((SM.pts p c1 L).map V.int).length = L := by rw [List.length_map, SM.pts_len]
  have hd2 : ((SM.pts p c2 L).map V.int).length = L := by rw [List.length_map, SM.pts_len]
  have hw1 : ((SM.pts p c1 L).map V.int).take n = (SM.pts p c1 n).map V.int := by rw [← List.map_take, SM.pts_take nL]
  have hw2 : ((SM.pts p c2 L).map V.int).take n = (SM.pts p c2 n).map V.int := by rw [← List.map_take, SM.pts_take nL]
  have hm1 : SM.lengthened p (SM.pts p c1 n) L = SM.pts p c1 L := by
    have := SM.lengthened_curve z.ok.1 (c := c1) (n := L) (by rw [hc1]; (first | lia | omega))
    rwa [hc1] at this
  have hm2 : SM.lengthened p (SM.pts p c2 n) L = SM.pts p c2 L := by
    have := SM.lengthened_curve z.ok.1 (c := c2) (n := L) (by rw [hc2]; (first | lia | omega))
    rwa [hc2] at this
  have hp1 : (SM.pts p c1 n).length = n := SM.pts_len ..
  have hp2' : (SM.pts p c2 n).length = n := SM.pts_len ..
  refine ⟨_, rfl, _, rfl, _, rfl, (n : Int), rfl, r1, _, rfl, SqL.of e1, fun s1 h1 => ?_⟩
  rw [cut_take (by rw [hd1]; exact nL), hw1]
  refine ⟨s1, _, rfl, .inl (SqL.of upd_same), fun s2 h2 => ⟨_, rfl, p, s2, SM.pts p c1 n, L, rfl, z.ok, SqL.of upd_same, SM.pts_mem hp, by (first | lia | omega), by (first | lia | omega), by (first | lia | omega), Lp, fun lf H6 g6 n6' e6 => ?_⟩⟩
  rw [hm1] at e6
  have G6 := (same_new h1 (.lst ((SM.pts p c1 n).map V.int))).trans ((same_new h2 (.lst ((SM.pts p c1 n).map V.int))).trans g6)
  have e16 := G6 _ _ e1
  have e26 := G6 _ _ e2
  clear h1 h2 g6 n6'
  refine ⟨_, rfl, _, rfl, _, rfl, (n : Int), rfl, r2, _, rfl, SqL.of e26, fun s1 h1 => ?_⟩
  rw [cut_take (by rw [hd2]; exact nL), hw2]
  refine ⟨s1, _, rfl, .inl (SqL.of upd_same), fun s2 h2 => ⟨_, rfl, p, s2, SM.pts p c2 n, L, rfl, z.ok, SqL.of upd_same, SM.pts_mem hp, by (first | lia | omega), by (first | lia | omega), by (first | lia | omega), Lp, fun rt H7 g7 n7 e7 => ?_⟩⟩
  rw [hm2] at e7
  have G7 := (same_new h1 (.lst ((SM.pts p c2 n).map V.int))).trans ((same_new h2 (.lst ((SM.pts p c2 n).map V.int))).trans g7)
  have e17 := G7 _ _ e16
  have e27 := G7 _ _ e26
  have el7 := G7 _ _ e6
  refine ⟨_, rfl, _, rfl, lf, r1, SM.pts p c1 L, rfl, el7, SqL.of e17, by rw [SM.pts_len]; (first | lia | omega), _, rfl, iteF ⟨_, rfl, _, rfl, rt, r2, SM.pts p c2 L, rfl, e7, SqL.of e27, by rw [SM.pts_len]; (first | lia | omega), _, rfl, iteF ?_⟩⟩
  refine ⟨_, rfl, (L : Int), rfl, by (first | lia | omega), by (first | lia | omega), ?_⟩
  rw [Int.toNat_natCast]
  refine for_range (fun i σ H' => H' = H7 ∧ ∃ o10 : Option V, σ = [some (.ref a5), some (.int p), some (.int (n : Int)), some (.int (L : Int)), some (.ref r1), some (.ref r2), o6, some (.ref lf), some (.ref rt), some (.int (((apL (SM.pts p c1 L) (SM.pts p c2 L) i).length : Nat) : Int)), o10, none]) ⟨rfl, none, rfl⟩ ?_ ?_
  · rintro i σ H' hi ⟨rfl, o10, rfl⟩
    have a1 : atI ((SM.pts p c1 L).map V.int) (0 + (i : Int)) = some (.int ((SM.pts p c1 L).getD i 0)) := by
      rw [show (0 : Int) + (i : Int) = ((i : Nat) : Int) by (first | lia | omega)]; exact atI_getD' (by rw [SM.pts_len]; exact hi)
    have a2 : atI ((SM.pts p c2 L).map V.int) (0 + (i : Int)) = some (.int ((SM.pts p c2 L).getD i 0)) := by
      rw [show (0 : Int) + (i : Int) = ((i : Nat) : Int) by (first | lia | omega)]; exact atI_getD' (by rw [SM.pts_len]; exact hi)
    have b1 : (SM.pts p c1 L)[i]? = some ((SM.pts p c1 L).getD i 0) := by rw [List.getD_eq_getElem?_getD, SM.pts_get hi]; rfl
    have b2 : (SM.pts p c2 L)[i]? = some ((SM.pts p c2 L).getD i 0) := by rw [List.getD_eq_getElem?_getD, SM.pts_get hi]; rfl
    have st := apL_step b1 b2
    refine ⟨_, rfl, _, rfl, _, rfl, r1, _, _, _, rfl, rfl, SqL.of e17, a1, _, rfl, _, rfl, r2, _, _, _, rfl, rfl, SqL.of e27, a2, rfl, .inr ⟨_, rfl, _, _, rfl, rfl, rfl, some (.int (0 + (i : Int))), ?_⟩⟩
    exact congrArg (fun y => [some (V.ref a5), some (.int p), some (.int (n : Int)), some (.int (L : Int)), some (.ref r1), some (.ref r2), o6, some (.ref lf), some (.ref rt), some (.int y), some (.int (0 + (i : Int))), none]) st
  rintro σ H' ⟨rfl, o10, rfl⟩
  have hall : (apL (SM.pts p c1 L) (SM.pts p c2 L) L).length = SM.apartN (SM.pts p c1 L) (SM.pts p c2 L) := by
    have := apL_all (SM.pts p c1 L) (SM.pts p c2 L)
    rwa [SM.pts_len, SM.pts_len, Nat.min_self] at this
  rw [hall]
  refine ⟨_, rfl, lf, _, rfl, .inl (SqL.of el7), fun u1 h1 => ⟨_, rfl, rt, _, rfl, .inl (SqL.of ((same_new h1 _) _ _ e7)), fun u2 h2 => ?_⟩⟩
  refine ⟨u1, u2, SM.pts p c1 L, SM.pts p c2 L, rfl, SqL.of ((same_new h2 _) _ _ upd_same), SqL.of upd_same, by rw [SM.pts_len]; (first | lia | omega), fun H8 g8 => ?_⟩
  have G8 := (same_new h1 (.lst ((SM.pts p c1 L).map V.int))).trans ((same_new h2 (.lst ((SM.pts p c2 L).map V.int))).trans g8)
  refine ⟨_, rfl, _, rfl, _, rfl, iteF ⟨_, rfl, _, rfl, rfl, _, rfl, iteNS rfl ?_⟩⟩
  refine ⟨_, rfl, _, rfl, r1, r2, SM.pts p c1 L, SM.pts p c2 L, rfl, rfl, SqL.of (G8 _ _ e17), SqL.of (G8 _ _ e27), _, rfl, ite2 (fun _ => q H8) (fun cn => ?_)⟩
  have hne : SM.pts p c1 L ≠ SM.pts p c2 L := fun w => cn (decide_eq_true w)
  have far := SM.far_apart z.ok.1 (hc1.trans hc2.symm) Lp hne
  rw [hc1] at far
  refine ⟨_, rfl, _, rfl, _, rfl, _, _, rfl, rfl, _, _, rfl, rfl, ?_⟩
  have hd : decide ((L : Int) - (n : Int) < ((SM.apartN (SM.pts p c1 L) (SM.pts p c2 L) : Nat) : Int)) = true := decide_eq_true (by (first | lia | omega))
  show Q (.bl (decide ((L : Int) - (n : Int) < ((SM.apartN (SM.pts p c1 L) (SM.pts p c2 L) : Nat) : Int)))) H8
  rw [hd]; exact q H8
end
end Sy
namespace L3
section
variable {α : Type} {P : List α → Prop}
theorem len1 (h : ∀ a, P [a]) : ∀ us : List α, us.length = 1 → P us := by
  intro us hl
  match us, hl with
  | [a], _ => exact h a
theorem len2 (h : ∀ a b, P [a, b]) : ∀ us : List α, us.length = 2 → P us := by
  intro us hl
  match us, hl with
  | [a, b], _ => exact h a b
theorem len3 (h : ∀ a b c, P [a, b, c]) : ∀ us : List α, us.length = 3 → P us := by
  intro us hl
  match us, hl with
  | [a, b, c], _ => exact h a b c
end
end L3
namespace Sy
open PySem PySem.Spec L2 L3
open PyProof.Rows hiding St
/-- all defs of the text keep their promises -/
theorem fin_mk {l : PySem.W.OpenLaw} {w : World} {K : PySem.W.Frag} {h : Heap} {mg : Str → Option Value} {fa f3 : Addr} (X : K.In h) (G : h.Ns mainGlobals mg) (hfa : mg "law" = some (.ref fa))
    {od3 an3 : Option Addr} {sl3 : Array (Option Value)} {oc3 kV3 dc3 pm3 cd3 ct3 : Value}
    (a3 : PySem.W.nsIn K mainGlobals "law" = some (some (.ref f3))) (l3 : K.lookup f3 = some ⟨oc3, od3, .func (PySem.W.fnOf "law" "law" (defArgs (top 36)) (defBody (top 36)) (defScope (top 36)) .none kV3 dc3 pm3 an3 cd3 ct3), sl3⟩) (c3 : PySem.W.codeIn K cd3 "law" = true) (k3 : PySem.W.keepIn K (.ref f3) = true)
    (d_is_prime : Def K mg "is_prime" ["number"] (top 7))
    (d_check_prime : Def K mg "check_prime" ["prime"] (top 8))
    (d_is_sign : Def K mg "is_sign" ["prime", "number"] (top 9))
    (d_check_signs : Def K mg "check_signs" ["prime", "signs"] (top 10))
    (d_added : Def K mg "added" ["prime", "one", "two"] (top 11))
    (d_lessened : Def K mg "lessened" ["prime", "one", "two"] (top 12))
    (d_multiplied : Def K mg "multiplied" ["prime", "one", "two"] (top 13))
    (d_power : Def K mg "power" ["prime", "sign", "times"] (top 14))
    (d_inverse : Def K mg "inverse" ["prime", "sign"] (top 15))
    (d_sign_at : Def K mg "sign_at" ["prime", "curve", "place"] (top 17))
    (d_signs_along : Def K mg "signs_along" ["prime", "curve", "length"] (top 18))
    (d_sum_of_curves : Def K mg "sum_of_curves" ["prime", "one", "two"] (top 19))
    (d_scaled : Def K mg "scaled" ["prime", "curve", "factor"] (top 20))
    (d_with_nought_at : Def K mg "with_nought_at" ["prime", "curve", "place"] (top 21))
    (d_curve_through : Def K mg "curve_through" ["prime", "places", "signs"] (top 22))
    (d_check_length : Def K mg "check_length" ["prime", "size", "length"] (top 24))
    (d_lengthened : Def K mg "lengthened" ["prime", "word", "length"] (top 25))
    (d_made : Def K mg "made" ["prime", "word", "length"] (top 26))
    (d_apart : Def K mg "apart" ["one", "two"] (top 27))
    (d__law_whole : Def K mg "_law_whole" ["_law_found"] (top 29))
    (d__law_at : Def K mg "_law_at" ["_law_script", "_law_k"] (top 30))
    (d__law_sizes : Def K mg "_law_sizes" ["_law_script"] (top 31))
    (d__law_curve_by : Def K mg "_law_curve_by" ["_law_prime", "_law_size", "_law_cells"] (top 32))
    (d__law_points : Def K mg "_law_points" ["_law_prime", "_law_curve", "_law_length"] (top 33))
    (d__law_are_signs : Def K mg "_law_are_signs" ["_law_found", "_law_due"] (top 34))
    (d__law_longer : Def K mg "_law_longer" ["_law_prime", "_law_word", "_law_length"] (top 35))
    {tG : Tok} (zG : PySem.W.nsIn K mainGlobals "GREATEST" = some (some (.int 1000 tG)))
    (z_bool : PySem.W.nsIn K mainGlobals "bool" = some none)
    (z_int : PySem.W.nsIn K mainGlobals "int" = some none)
    (z_isinstance : PySem.W.nsIn K mainGlobals "isinstance" = some none)
    (z_len : PySem.W.nsIn K mainGlobals "len" = some none)
    (z_list : PySem.W.nsIn K mainGlobals "list" = some none)
    (z_min : PySem.W.nsIn K mainGlobals "min" = some none)
    (z_range : PySem.W.nsIn K mainGlobals "range" = some none)
    (z_reversed : PySem.W.nsIn K mainGlobals "reversed" = some none)
    (z_zip : PySem.W.nsIn K mainGlobals "zip" = some none)
    : ∃ fd : FuncData, (∀ (s : Shared) (v : Value), BindsTo s fd ⟨[v], []⟩ [("_law_script", v)]) ∧ ∀ base : Heap, K.In base → base.Ns mainGlobals mg → FnOk l.prog w K mg base CX0 7 fa fd ["_law_script"] (spLaw K) := by
  have e := hfa.symm.trans (PySem.W.mg_of X G a3)
  cases e
  have m_bool := PySem.W.mg_none_of X G z_bool
  have m_int := PySem.W.mg_none_of X G z_int
  have m_isinstance := PySem.W.mg_none_of X G z_isinstance
  have m_len := PySem.W.mg_none_of X G z_len
  have m_list := PySem.W.mg_none_of X G z_list
  have m_min := PySem.W.mg_none_of X G z_min
  have m_range := PySem.W.mg_none_of X G z_range
  have m_reversed := PySem.W.mg_none_of X G z_reversed
  have m_zip := PySem.W.mg_none_of X G z_zip
  have mG : ∃ t, mg "GREATEST" = some (.int 1000 t) := ⟨tG, PySem.W.mg_of X G zG⟩
  refine ⟨PySem.W.fnOf "law" "law" (defArgs (top 36)) (defBody (top 36)) (defScope (top 36)) .none kV3 dc3 pm3 an3 cd3 ct3, fun s v => .of_eq rfl, fun base _ _ => ?_⟩
  have AT1 := ok_at (P := l.prog) (w := w) (base := base) d__law_at m_len
  have SZ2 := ok_sizes d__law_sizes m_len m_range m_min m_int AT1
  have CB2 := ok_curve_by d__law_curve_by m_range AT1
  have PT1 := ok_points (P := l.prog) (w := w) (base := base) d__law_points m_range
  have WH1 := ok_whole (P := l.prog) (w := w) (base := base) d__law_whole m_isinstance m_int m_bool
  have AS2 := ok_are_signs d__law_are_signs m_isinstance m_list m_len m_range WH1
  have LG1 := ok_longer (P := l.prog) (w := w) (base := base) d__law_longer m_list m_len m_range
  have AP1 := ok_apart (P := l.prog) (w := w) (base := base) d_apart m_zip m_len
  have IP1 := ok_is_prime (P := l.prog) (w := w) (base := base) d_is_prime mG
  have CP2 := ok_check_prime d_check_prime IP1
  have IS1 := ok_is_sign (P := l.prog) (w := w) (base := base) d_is_sign
  have CS2 := ok_check_signs d_check_signs IS1
  have CL1 := ok_check_length (P := l.prog) (w := w) (base := base) d_check_length
  have A1 := ok_added (P := l.prog) (w := w) (base := base) d_added
  have M1 := ok_multiplied (P := l.prog) (w := w) (base := base) d_multiplied
  have S2 := ok_sign_at d_sign_at m_reversed A1 M1
  have AL3 := ok_signs_along d_signs_along m_range S2
  have L1 := ok_lessened (P := l.prog) (w := w) (base := base) d_lessened
  have P2 := ok_power d_power M1
  have I3 := ok_inverse d_inverse P2
  have SU2 := ok_sum d_sum_of_curves m_zip A1
  have SC2 := ok_scaled d_scaled M1
  have WO3 := ok_wo d_with_nought_at m_zip SC2 L1
  have CT4 := ok_ct d_curve_through m_zip S2 L1 M1 I3 SU2 SC2 WO3
  have LO5 := ok_lengthened d_lengthened m_list m_range m_len AL3 CT4
  have MA6 := ok_made d_made m_len CP2 CS2 CL1 LO5
  exact fn_law (fun_mk l3 c3 k3) m_list m_range m_int AT1 SZ2 CB2 PT1 AS2 WH1 LG1 AP1 MA6
end Sy
open PySem PySem.W PyProof.Rows
set_option maxRecDepth 100000 in
set_option maxHeartbeats 0 in
theorem PySem.Challenge.cw_straysign_k02_whole_far_apart_holds : PySem.Challenge.rw_straysign_k02_whole_far_apart.Holds := by
  w_on; o_law; k_head; (case hw => w_witness2)
  k_fill
  refine L2.walk_ofK (l := PySem.Challenge.rw_straysign_k02_whole_far_apart) (n := 63) (k := 7) (x := "_law_script") (CX := L2.CX0) (sp := Sy.spLaw) rfl (by decide) rfl ⟨rfl, by decide, by decide⟩ (fun w h Y => PySem.W.kIn_of Y) ?F ?S ?C
  case F =>
    intro w mg fa h KX G hmg
    refine' Sy.fin_mk KX G hmg ?a ?l ?c ?k ?d_is_prime ?d_check_prime ?d_is_sign ?d_check_signs ?d_added ?d_lessened ?d_multiplied ?d_power ?d_inverse ?d_sign_at ?d_signs_along ?d_sum_of_curves ?d_scaled ?d_with_nought_at ?d_curve_through ?d_check_length ?d_lengthened ?d_made ?d_apart ?d__law_whole ?d__law_at ?d__law_sizes ?d__law_curve_by ?d__law_points ?d__law_are_signs ?d__law_longer ?zG  ?z_bool ?z_int ?z_isinstance ?z_len ?z_list ?z_min ?z_range ?z_reversed ?z_zip 
    (case a => k_is); (case l => k_is); (case c => k_is); (case k => k_is)
    case d_is_prime =>
      refine' L3.def_mk KX G ?a ?l ?c ?k ?b
      (case a => k_is); (case l => k_is); (case c => k_is); (case k => k_is)
      (case b => exact fun _ _ _ _ _ _ => L3.len1 fun _ => rfl)
    case d_check_prime =>
      refine' L3.def_mk KX G ?a ?l ?c ?k ?b
      (case a => k_is); (case l => k_is); (case c => k_is); (case k => k_is)
      (case b => exact fun _ _ _ _ _ _ => L3.len1 fun _ => rfl)
    case d_is_sign =>
      refine' L3.def_mk KX G ?a ?l ?c ?k ?b
      (case a => k_is); (case l => k_is); (case c => k_is); (case k => k_is)
      (case b => exact fun _ _ _ _ _ _ => L3.len2 fun _ _ => rfl)
    case d_check_signs =>
      refine' L3.def_mk KX G ?a ?l ?c ?k ?b
      (case a => k_is); (case l => k_is); (case c => k_is); (case k => k_is)
      (case b => exact fun _ _ _ _ _ _ => L3.len2 fun _ _ => rfl)
    case d_added =>
      refine' L3.def_mk KX G ?a ?l ?c ?k ?b
      (case a => k_is); (case l => k_is); (case c => k_is); (case k => k_is)
      (case b => exact fun _ _ _ _ _ _ => L3.len3 fun _ _ _ => rfl)
    case d_lessened =>
      refine' L3.def_mk KX G ?a ?l ?c ?k ?b
      (case a => k_is); (case l => k_is); (case c => k_is); (case k => k_is)
      (case b => exact fun _ _ _ _ _ _ => L3.len3 fun _ _ _ => rfl)
    case d_multiplied =>
      refine' L3.def_mk KX G ?a ?l ?c ?k ?b
      (case a => k_is); (case l => k_is); (case c => k_is); (case k => k_is)
      (case b => exact fun _ _ _ _ _ _ => L3.len3 fun _ _ _ => rfl)
    case d_power =>
      refine' L3.def_mk KX G ?a ?l ?c ?k ?b
      (case a => k_is); (case l => k_is); (case c => k_is); (case k => k_is)
      (case b => exact fun _ _ _ _ _ _ => L3.len3 fun _ _ _ => rfl)
    case d_inverse =>
      refine' L3.def_mk KX G ?a ?l ?c ?k ?b
      (case a => k_is); (case l => k_is); (case c => k_is); (case k => k_is)
      (case b => exact fun _ _ _ _ _ _ => L3.len2 fun _ _ => rfl)
    case d_sign_at =>
      refine' L3.def_mk KX G ?a ?l ?c ?k ?b
      (case a => k_is); (case l => k_is); (case c => k_is); (case k => k_is)
      (case b => exact fun _ _ _ _ _ _ => L3.len3 fun _ _ _ => rfl)
    case d_signs_along =>
      refine' L3.def_mk KX G ?a ?l ?c ?k ?b
      (case a => k_is); (case l => k_is); (case c => k_is); (case k => k_is)
      (case b => exact fun _ _ _ _ _ _ => L3.len3 fun _ _ _ => rfl)
    case d_sum_of_curves =>
      refine' L3.def_mk KX G ?a ?l ?c ?k ?b
      (case a => k_is); (case l => k_is); (case c => k_is); (case k => k_is)
      (case b => exact fun _ _ _ _ _ _ => L3.len3 fun _ _ _ => rfl)
    case d_scaled =>
      refine' L3.def_mk KX G ?a ?l ?c ?k ?b
      (case a => k_is); (case l => k_is); (case c => k_is); (case k => k_is)
      (case b => exact fun _ _ _ _ _ _ => L3.len3 fun _ _ _ => rfl)
    case d_with_nought_at =>
      refine' L3.def_mk KX G ?a ?l ?c ?k ?b
      (case a => k_is); (case l => k_is); (case c => k_is); (case k => k_is)
      (case b => exact fun _ _ _ _ _ _ => L3.len3 fun _ _ _ => rfl)
    case d_curve_through =>
      refine' L3.def_mk KX G ?a ?l ?c ?k ?b
      (case a => k_is); (case l => k_is); (case c => k_is); (case k => k_is)
      (case b => exact fun _ _ _ _ _ _ => L3.len3 fun _ _ _ => rfl)
    case d_check_length =>
      refine' L3.def_mk KX G ?a ?l ?c ?k ?b
      (case a => k_is); (case l => k_is); (case c => k_is); (case k => k_is)
      (case b => exact fun _ _ _ _ _ _ => L3.len3 fun _ _ _ => rfl)
    case d_lengthened =>
      refine' L3.def_mk KX G ?a ?l ?c ?k ?b
      (case a => k_is); (case l => k_is); (case c => k_is); (case k => k_is)
      (case b => exact fun _ _ _ _ _ _ => L3.len3 fun _ _ _ => rfl)
    case d_made =>
      refine' L3.def_mk KX G ?a ?l ?c ?k ?b
      (case a => k_is); (case l => k_is); (case c => k_is); (case k => k_is)
      (case b => exact fun _ _ _ _ _ _ => L3.len3 fun _ _ _ => rfl)
    case d_apart =>
      refine' L3.def_mk KX G ?a ?l ?c ?k ?b
      (case a => k_is); (case l => k_is); (case c => k_is); (case k => k_is)
      (case b => exact fun _ _ _ _ _ _ => L3.len2 fun _ _ => rfl)
    case d__law_whole =>
      refine' L3.def_mk KX G ?a ?l ?c ?k ?b
      (case a => k_is); (case l => k_is); (case c => k_is); (case k => k_is)
      (case b => exact fun _ _ _ _ _ _ => L3.len1 fun _ => rfl)
    case d__law_at =>
      refine' L3.def_mk KX G ?a ?l ?c ?k ?b
      (case a => k_is); (case l => k_is); (case c => k_is); (case k => k_is)
      (case b => exact fun _ _ _ _ _ _ => L3.len2 fun _ _ => rfl)
    case d__law_sizes =>
      refine' L3.def_mk KX G ?a ?l ?c ?k ?b
      (case a => k_is); (case l => k_is); (case c => k_is); (case k => k_is)
      (case b => exact fun _ _ _ _ _ _ => L3.len1 fun _ => rfl)
    case d__law_curve_by =>
      refine' L3.def_mk KX G ?a ?l ?c ?k ?b
      (case a => k_is); (case l => k_is); (case c => k_is); (case k => k_is)
      (case b => exact fun _ _ _ _ _ _ => L3.len3 fun _ _ _ => rfl)
    case d__law_points =>
      refine' L3.def_mk KX G ?a ?l ?c ?k ?b
      (case a => k_is); (case l => k_is); (case c => k_is); (case k => k_is)
      (case b => exact fun _ _ _ _ _ _ => L3.len3 fun _ _ _ => rfl)
    case d__law_are_signs =>
      refine' L3.def_mk KX G ?a ?l ?c ?k ?b
      (case a => k_is); (case l => k_is); (case c => k_is); (case k => k_is)
      (case b => exact fun _ _ _ _ _ _ => L3.len2 fun _ _ => rfl)
    case d__law_longer =>
      refine' L3.def_mk KX G ?a ?l ?c ?k ?b
      (case a => k_is); (case l => k_is); (case c => k_is); (case k => k_is)
      (case b => exact fun _ _ _ _ _ _ => L3.len3 fun _ _ _ => rfl)
    (case zG => k_is)
    (case z_bool => k_is)
    (case z_int => k_is)
    (case z_isinstance => k_is)
    (case z_len => k_is)
    (case z_list => k_is)
    (case z_min => k_is)
    (case z_range => k_is)
    (case z_reversed => k_is)
    (case z_zip => k_is)
  case S => exact fun K H a ns hl hO hS => ⟨a, ns, rfl, hS, hl, fun _ => rfl⟩
  case C => exact fun _ _ _ _ z => z
#print axioms PySem.Challenge.cw_straysign_k02_whole_far_apart_holds
