import PyProof.Rows.All
import Wide.All
import OpenK.AllK
import Wide.FinOn
import Lean
import PyProof.EqAt
import PyProof.EqKinds
import PyProof.TupleCall
import PySem.Challenge.RW_straysign_k09_refused
set_option Elab.async false
set_option linter.all false
set_option maxRecDepth 100000
namespace L2
open PySem PySem.Spec PyProof.Rows
/-- a key: an int or a str -/
abbrev Key := Sum Int Str
def keyIs : Key → Value → Bool
  | .inl k, v => Value.isInt k v
  | .inr x, v => Value.isStrOf x v
def keyH (w : World) : Key → Int
  | .inl k => hashInt k
  | .inr x => hashStr w x
theorem keyIs_shape : ∀ {k : Key} {v : Value}, keyIs k v = true → (∃ i t, k = Sum.inl i ∧ v = Value.int i t) ∨ (∃ x t, k = Sum.inr x ∧ v = Value.str x t)
  | .inl i, v, h => by
    obtain ⟨t, e⟩ := Value.isInt_shape (k := i) (v := v) h
    exact .inl ⟨i, t, rfl, e⟩
  | .inr x, v, h => by
    obtain ⟨t, e⟩ := Value.isStrOf_shape (x := x) (v := v) h
    exact .inr ⟨x, t, rfl, e⟩
theorem key_ll (a b : Int) : decide ((Sum.inl a : Key) = Sum.inl b) = (a == b) := by
  by_cases e : a = b
  · subst e; simp
  · have h : ¬ (Sum.inl a : Key) = Sum.inl b := fun q => e (Sum.inl.inj q)
    rw [decide_eq_false h]
    exact (beq_eq_false_iff_ne.mpr e).symm
theorem key_rr (a b : Str) : decide ((Sum.inr a : Key) = Sum.inr b) = decide (a = b) := by
  by_cases e : a = b
  · subst e; simp
  · have h : ¬ (Sum.inr a : Key) = Sum.inr b := fun q => e (Sum.inr.inj q)
    rw [decide_eq_false h, decide_eq_false e]
theorem key_lr (a : Int) (b : Str) : decide ((Sum.inl a : Key) = Sum.inr b) = false := decide_eq_false (fun q => nomatch q)
theorem key_rl (a : Str) (b : Int) : decide ((Sum.inr a : Key) = Sum.inl b) = false := decide_eq_false (fun q => nomatch q)
def mixKind (prog : Program) (w : World) : PySem.KeyKind prog w Key where
  is := keyIs
  hash := keyH w
  inj := fun v a b ha hb => by
    rcases keyIs_shape ha with ⟨i, t, rfl, rfl⟩ | ⟨x, t, rfl, rfl⟩
    · rcases keyIs_shape hb with ⟨j, u, rfl, e⟩ | ⟨y, u, rfl, e⟩
      · injection e with e1 _; rw [e1]
      · exact nomatch e
    · rcases keyIs_shape hb with ⟨j, u, rfl, e⟩ | ⟨y, u, rfl, e⟩
      · exact nomatch e
      · injection e with e1 _; rw [e1]
  byValue := fun k v h => by
    rcases keyIs_shape h with ⟨i, t, rfl, rfl⟩ | ⟨x, t, rfl, rfl⟩ <;> rfl
  pyHash := fun hv h => by
    rcases keyIs_shape hv with ⟨i, t, rfl, rfl⟩ | ⟨x, t, rfl, rfl⟩
    · exact wpAny_pyHash_int h
    · exact wpAny_pyHash_str h
  eqBool := fun hu hv h => by
    rcases keyIs_shape hu with ⟨i, t, rfl, rfl⟩ | ⟨x, t, rfl, rfl⟩
    · rcases keyIs_shape hv with ⟨j, u, rfl, rfl⟩ | ⟨y, u, rfl, rfl⟩
      · rw [key_ll] at h; exact wpAny_eqBool_int h
      · rw [key_lr] at h; exact SeqAt.EqAt.int_str i t y u _ _ _ _ h
    · rcases keyIs_shape hv with ⟨j, u, rfl, rfl⟩ | ⟨y, u, rfl, rfl⟩
      · rw [key_rl] at h; exact SeqAt.EqAt.str_int x t j u _ _ _ _ h
      · rw [key_rr] at h; exact wpAny_eqBool_str h
  «strs» := fun k x t v h => by
    rcases keyIs_shape h with ⟨i, u, rfl, e⟩ | ⟨y, u, rfl, e⟩
    · exact nomatch e
    · injection e with e1 _
      subst e1
      cases v <;> rfl
end L2
namespace L2
open PySem PySem.Spec PyProof.Rows
/-- a value, without the heap -/
inductive V where
  | non | bl (b : Bool) | int (i : Int) | str (x : Str) | byt (b : Array UInt8) | flt (b : UInt64) | ref (a : Addr) | ty (n : String)
  deriving DecidableEq
def RelV : V → Value → Prop
  | .non, u => u = Value.none
  | .bl b, u => u = Value.bool b
  | .int i, u => ∃ t, u = Value.int i t
  | .str x, u => ∃ t, u = Value.str x t
  | .byt b, u => ∃ t, u = Value.bytes b t
  | .flt b, u => ∃ t, u = Value.float b t
  | .ref a, u => u = Value.ref a
  | .ty n, u => u = Value.type n
abbrev Vals : List V → List Value → Prop := Paired RelV
theorem Vals.length {xs : List V} {us : List Value} (r : Vals xs us) : xs.length = us.length := Paired.length r
theorem Vals.get : ∀ {xs : List V} {us : List Value} {i : Nat} {x : V}, Vals xs us → xs[i]? = some x → ∃ u, us[i]? = some u ∧ RelV x u
  | _, _, _, _, .nil, e => by simp at e
  | _, _, 0, _, .cons r _, e => by simp at e; subst e; exact ⟨_, rfl, r⟩
  | _, _, i + 1, x, .cons _ t, e => by
    obtain ⟨u, h1, h2⟩ := Vals.get (i := i) (x := x) t (by simpa using e)
    exact ⟨u, by simpa using h1, h2⟩
theorem Vals.set {x : V} {u : Value} (r : RelV x u) : ∀ {xs : List V} {us : List Value} (i : Nat), Vals xs us → Vals (xs.set i x) (us.set i u)
  | _, _, _, .nil => .nil
  | _, _, 0, .cons _ t => .cons r t
  | _, _, i + 1, .cons q t => .cons q (Vals.set r i t)
theorem Vals.append : ∀ {xs ys : List V} {us ws : List Value}, Vals xs us → Vals ys ws → Vals (xs ++ ys) (us ++ ws)
  | _, _, _, _, .nil, s => s
  | _, _, _, _, .cons r t, s => .cons r (Vals.append t s)
theorem Vals.take : ∀ {xs : List V} {us : List Value} (n : Nat), Vals xs us → Vals (xs.take n) (us.take n)
  | _, _, 0, _ => .nil
  | _, _, _ + 1, .nil => .nil
  | _, _, n + 1, .cons r t => .cons r (Vals.take n t)
theorem Vals.drop : ∀ {xs : List V} {us : List Value} (n : Nat), Vals xs us → Vals (xs.drop n) (us.drop n)
  | _, _, 0, r => r
  | _, _, _ + 1, .nil => .nil
  | _, _, n + 1, .cons _ t => Vals.drop n t
def RelO : Option V → Option Value → Prop
  | some v, some u => RelV v u
  | none, none => True
  | _, _ => False
def KV {κ : Type} : List (κ × V) → List (κ × Value) → Prop := Paired fun (p : κ × V) (q : κ × Value) => p.1 = q.1 ∧ RelV p.2 q.2
/-- a key of a dict (00_mix): an int or a text -/
def kV : Key → V
  | .inl i => .int i
  | .inr x => .str x
/-- what stands at a tracked address -/
inductive HO where
  /-- a list -/
  | lst (xs : List V)
  /-- a tuple (never changes) -/
  | tup (xs : List V)
  /-- a dict whose keys are ints and texts; one whose keys are tuples of ints and texts (the empty one is both) -/
  | dK (kvs : List (Key × V)) | dT (kvs : List (List Key × V))
  /-- a set of ints: its members, its size -/
  | set (S : Int → Bool) (n : Nat)
  /-- an instance of the class at C, its dict at dx, its attributes -/
  | ins (C dx : Addr) (fs : List (Str × V))
  /-- the dict of the instance at x -/
  | own (x : Addr)
  /-- the dict of an exception -/
  | xd (fs : List (Str × V))
  /-- a bound method, f of x -/
  | met (f x : Addr)
  /-- a range object lo, lo + 1, .. below hi -/
  | rng (lo hi : Int)
  /-- a thing that is known to the object (the script; a dict while a loop walks it): read, never written while it is so -/
  | frz (o : Obj) (u : HO)
  /-- a code object's table -/
  | tbl (ps : Array Value)
  /-- any other thing, by what is true of its one object (a def of one's own: SetO a S n := HO.ext fun h => ..) -/
  | ext (φ : Heap → Prop)
abbrev Hp := Addr → Option HO
def upd (H : Hp) (a : Addr) (o : HO) : Hp := fun b => if b = a then some o else H b
theorem upd_same {H : Hp} {a : Addr} {o : HO} : upd H a o a = some o := by unfold upd; rw [if_pos rfl]
theorem upd_ne {H : Hp} {a b : Addr} {o : HO} (h : b ≠ a) : upd H a o b = H b := by unfold upd; rw [if_neg h]
theorem ne_of_none {H : Hp} {a b : Addr} {o : HO} (h : H a = some o) (h' : H b = none) : a ≠ b := by
  intro e; subst e; rw [h] at h'; cases h'
section
variable (P : Program) (w : World)
def ObjOk (H : Hp) (h : Heap) (a : Addr) : HO → Prop
  | .lst xs => xs.length ≤ sizeLine ∧ ∃ (its : List Value) (n : Nat), Vals xs its ∧ h.get? a = some { cls := .type "list", data := .seq its.toArray n }
  | .tup xs => xs.length ≤ sizeLine ∧ ∃ its : List Value, Vals xs its ∧ IsTup h a its.toArray
  | .dK kvs => kvs.length ≤ sizeLine ∧ (a == sysModules) = false ∧ ∃ vs, KV kvs vs ∧ h.DictOf (mixKind P w) a vs
  | .dT kvs => kvs.length ≤ sizeLine ∧ (a == sysModules) = false ∧ ∃ xs : List (List Key × Addr × Value),
      Paired (fun (p : List Key × V) (q : List Key × Addr × Value) => p.1 = q.1 ∧ H q.2.1 = some (.tup (p.1.map kV)) ∧ RelV p.2 q.2.2) kvs xs ∧
      ∃ o es ep, h.get? a = some o ∧ o.ExactDict ∧ o.data = .dict es ep ∧ es.toList = xs.map (entryOfKey (tupleKind (mixKind P w))) ∧ (xs.map (·.1)).Nodup
  | .set S n => h.SetOf (intKind P w) a S n
  | .ins C dx fs => H dx = some (.own a) ∧ fs.length ≤ 1000 ∧ dx ≠ a ∧ h.get? a = some (PySem.W.instObj C dx) ∧
      ∃ mA, h.Ns1 dx mA ∧ (∀ f, RelO (fs.lookup f) (mA f)) ∧ PySem.Within mA (fs.map (·.1))
  | .own _ => ∃ o, h.get? a = some o
  | .xd fs => ∃ mA, h.Ns1 a mA ∧ ∀ f, RelO (fs.lookup f) (mA f)
  | .rng lo hi => ∃ t u v, h.get? a = some { cls := .type "range", data := .fields #[.int lo t, .int hi u, .int 1 v] }
  | .frz o u => h.get? a = some o ∧ ObjOk H h a u
  | .tbl ps => h.get? a = some { cls := .none, data := .fields ps }
  | .met f x => h.get? a = some (PySem.W.methodObj (.ref f) (.ref x))
  | .ext φ => φ h ∧ (∃ o, h.get? a = some o) ∧ ∀ h1 h2 : Heap, φ h1 → (∀ o, h1.get? a = some o → h2.get? a = some o) → φ h2
/-- the abstract heap is held -/
def HOk (H : Hp) (h : Heap) : Prop := ∀ a o, H a = some o → ObjOk P w H h a o
end
section
variable {P : Program} {w : World} {H H' : Hp} {h h' : Heap} {a : Addr} {o : HO}
theorem ObjOk.lt (x : ObjOk P w H h a o) : a < h.objs.size := by
  cases o with
  | lst xs => obtain ⟨_, _, _, _, e⟩ := x; exact Heap.lt_size e
  | tup xs => obtain ⟨_, _, _, p⟩ := x; exact p.lt
  | dK kvs => obtain ⟨_, _, _, _, o, _, _, e, _⟩ := x; exact Heap.lt_size e
  | dT kvs => obtain ⟨_, _, _, _, o, _, _, e, _⟩ := x; exact Heap.lt_size e
  | set S n => obtain ⟨o, _, _, _, e, _⟩ := x; exact Heap.lt_size e
  | ins C dx fs => obtain ⟨_, _, _, e, _⟩ := x; exact Heap.lt_size e
  | own y => obtain ⟨_, e⟩ := x; exact Heap.lt_size e
  | xd fs => obtain ⟨_, ⟨_, _, _, e, _⟩, _⟩ := x; exact Heap.lt_size e
  | rng lo hi => obtain ⟨_, _, _, e⟩ := x; exact Heap.lt_size e
  | frz ob u => obtain ⟨e, _⟩ := x; exact Heap.lt_size e
  | tbl ps => exact Heap.lt_size (show h.get? a = some _ from x)
  | met f y => exact Heap.lt_size (show h.get? a = some _ from x)
  | ext φ => obtain ⟨_, ⟨_, e⟩, _⟩ := x; exact Heap.lt_size e
theorem Paired.mapP {α β : Type} {F G : α → β → Prop} : ∀ {l₁ : List α} {l₂ : List β}, Paired F l₁ l₂ → (∀ a b, F a b → G a b) → Paired G l₁ l₂
  | _, _, .nil, _ => .nil
  | _, _, .cons r t, f => .cons (f _ _ r) (Paired.mapP t f)
/-- what an object's description leans on: its own object, its own dict, the tuples -/
theorem ObjOk.stay (x : ObjOk P w H h a o) (k : ∀ b u, (b = a ∨ H b = some (.own a)) → h.get? b = some u → h'.get? b = some u)
    (ho : ∀ b, H b = some (.own a) → H' b = some (.own a)) (ht : ∀ b xs, H b = some (.tup xs) → H' b = some (.tup xs)) : ObjOk P w H' h' a o := by
  induction o with
  | lst xs => obtain ⟨z, its, n, r, e⟩ := x; exact ⟨z, its, n, r, k _ _ (.inl rfl) e⟩
  | tup xs => obtain ⟨z, its, r, ob, e, c⟩ := x; exact ⟨z, its, r, ob, k _ _ (.inl rfl) e, c⟩
  | dK kvs => obtain ⟨z, y, vs, r, ob, es, ep, e, c⟩ := x; exact ⟨z, y, vs, r, ob, es, ep, k _ _ (.inl rfl) e, c⟩
  | dT kvs =>
    obtain ⟨z, y, xs, r, ob, es, ep, e, c⟩ := x
    exact ⟨z, y, xs, Paired.mapP r fun p q z => ⟨z.1, ht _ _ z.2.1, z.2.2⟩, ob, es, ep, k _ _ (.inl rfl) e, c⟩
  | set S n => obtain ⟨ob, es, ep, t, e, c⟩ := x; exact ⟨ob, es, ep, t, k _ _ (.inl rfl) e, c⟩
  | ins C dx fs =>
    obtain ⟨d, z, ne, e, mA, ⟨od, es, ep, e2, c⟩, r⟩ := x
    exact ⟨ho _ d, z, ne, k _ _ (.inl rfl) e, mA, ⟨od, es, ep, k _ _ (.inr d) e2, c⟩, r⟩
  | own y => obtain ⟨ob, e⟩ := x; exact ⟨ob, k _ _ (.inl rfl) e⟩
  | xd fs => obtain ⟨mA, ⟨od, es, ep, e, c⟩, r⟩ := x; exact ⟨mA, ⟨od, es, ep, k _ _ (.inl rfl) e, c⟩, r⟩
  | rng lo hi => obtain ⟨t, u, v, e⟩ := x; exact ⟨t, u, v, k _ _ (.inl rfl) e⟩
  | frz ob u ih => obtain ⟨e, q⟩ := x; exact ⟨k _ _ (.inl rfl) e, ih q⟩
  | tbl ps =>
    have e : h.get? a = some { cls := .none, data := .fields ps } := x
    show h'.get? a = some { cls := .none, data := .fields ps }
    exact k a _ (.inl rfl) e
  | met f y =>
    have e : h.get? a = some (PySem.W.methodObj (.ref f) (.ref y)) := x
    show h'.get? a = some (PySem.W.methodObj (.ref f) (.ref y))
    exact k a _ (.inl rfl) e
  | ext φ => obtain ⟨p, ⟨o, e⟩, st⟩ := x; exact ⟨st _ _ p fun o q => k _ _ (.inl rfl) q, ⟨o, k _ _ (.inl rfl) e⟩, st⟩
theorem HOk.lt (x : HOk P w H h) (e : H a = some o) : a < h.objs.size := (x a o e).lt
theorem HOk.fresh (x : HOk P w H h) (e : h.objs.size ≤ a) : H a = none := by
  cases q : H a with
  | none => rfl
  | some u => exact absurd (Nat.lt_of_lt_of_le (x.lt q) e) (Nat.lt_irrefl _)
/-- every object of the heap is kept -/
theorem HOk.kept (x : HOk P w H h) (k : ∀ b u, h.get? b = some u → h'.get? b = some u) : HOk P w H h' := fun a o e =>
  (x a o e).stay (fun b u _ q => k b u q) (fun _ q => q) fun _ _ q => q
/-- a new object is laid and tracked -/
theorem HOk.laid (x : HOk P w H h) (k : ∀ b u, h.get? b = some u → h'.get? b = some u) (hp : h.objs.size ≤ a) (new : ObjOk P w (upd H a o) h' a o) : HOk P w (upd H a o) h' := fun b u e => by
  have hn := x.fresh hp
  by_cases hb : b = a
  · subst hb; rw [upd_same] at e; cases e; exact new
  · rw [upd_ne hb] at e
    exact (x b u e).stay (fun c v _ q => k c v q) (fun c q => by rw [upd_ne (ne_of_none q hn)]; exact q) fun c xs q => by rw [upd_ne (ne_of_none q hn)]; exact q
end
/-- what may be read as u: it is u, or a known u -/
def Rd (H : Hp) (a : Addr) (u : HO) : Prop := H a = some u ∨ ∃ o, H a = some (.frz o u)
theorem Rd.ok {P : Program} {w : World} {H : Hp} {h : Heap} {a : Addr} {u : HO} (r : Rd H a u) (x : HOk P w H h) : ObjOk P w H h a u := by
  rcases r with r | ⟨o, r⟩
  · exact x a u r
  · obtain ⟨_, q⟩ := x a _ r
    exact q
/-- what may be written -/
def Mut : Option HO → Prop
  | some (.lst _) => True
  | some (.dK _) => True
  | some (.dT _) => True
  | some (.set _ _) => True
  | some (.ins _ _ _) => True
  | some (.ext _) => True
  | _ => False
section
variable {P : Program} {w : World} {H : Hp} {h h' : Heap} {x e : Addr} {o' : HO}
/-- the object at e is changed: x itself, or the dict of the instance x -/
theorem HOk.write (ok : HOk P w H h) (mu : Mut (H x)) (he : e = x ∨ H e = some (.own x)) (k : ∀ b u, b ≠ e → h.get? b = some u → h'.get? b = some u) (heo : ∃ u, h'.get? e = some u)
    (new : ObjOk P w (upd H x o') h' x o') : HOk P w (upd H x o') h' := fun b u q => by
  have nown : ∀ c y, H c = some (.own y) → c ≠ x := fun c y r z => by subst z; rw [r] at mu; exact mu
  have ntup : ∀ c xs, H c = some (.tup xs) → c ≠ x := fun c xs r z => by subst z; rw [r] at mu; exact mu
  by_cases hb : b = x
  · subst hb; rw [upd_same] at q; cases q; exact new
  · rw [upd_ne hb] at q
    by_cases hbe : b = e
    · have q' : H b = some (.own x) := by
        rcases he with z | z
        · exact absurd (hbe.trans z) hb
        · rw [hbe]; exact z
      rw [q] at q'; cases q'
      obtain ⟨v, hv⟩ := heo
      exact ⟨v, by rw [hbe]; exact hv⟩
    · refine (ok b u q).stay (fun c v hc r => k c v ?_ r) (fun c r => by rw [upd_ne (nown c b r)]; exact r) fun c xs r => by rw [upd_ne (ntup c xs r)]; exact r
      rcases hc with rfl | hc
      · exact hbe
      · rintro rfl
        rcases he with z | z
        · exact nown c b hc z
        · rw [hc] at z; cases z; exact hb rfl
end
structure Un (fs ex : List Addr) (H H' : Hp) (h h' : Heap) : Prop where
  keep : ∀ b o, h.get? b = some o → H b = none → b ∉ fs → b ∉ ex → h'.get? b = some o
  slot : ∀ b o, h.get? b = some o → H b = none → b ∈ fs → b ∉ ex → ∃ sl, h'.get? b = some { o with slots := sl }
  free : ∀ b o, h.get? b = some o → H b = none → b ∉ ex → H' b = none
  there : ∀ b o, h.get? b = some o → b ∉ ex → ∃ o', h'.get? b = some o'
  tups : ∀ b xs, H b = some (.tup xs) → H' b = some (.tup xs)
  frzs : ∀ b o u, H b = some (.frz o u) → H' b = some (.frz o u)
  tbls : ∀ b ps, H b = some (.tbl ps) → ∃ more, H' b = some (.tbl (ps ++ more))
section
variable {fs fs' ex ex' : List Addr} {H H1 H2 : Hp} {h h1 h2 h' : Heap} {a x e : Addr} {o : HO}
theorem Un.any (u : Un fs ex H H1 h h1) {b : Addr} {ob : Obj} (q : h.get? b = some ob) (n : H b = none) (hx : b ∉ ex) : ∃ sl, h1.get? b = some { ob with slots := sl } := by
  by_cases hb : b ∈ fs
  · exact u.slot b ob q n hb hx
  · exact ⟨ob.slots, u.keep b ob q n hb hx⟩
theorem Un.trans (a : Un fs ex H H1 h h1) (b : Un fs ex H1 H2 h1 h2) : Un fs ex H H2 h h2 where
  keep := fun c ob q n hc hx => b.keep c ob (a.keep c ob q n hc hx) (a.free c ob q n hx) hc hx
  slot := fun c ob q n hc hx => by
    obtain ⟨sl, e1⟩ := a.slot c ob q n hc hx
    obtain ⟨sl', e2⟩ := b.slot c _ e1 (a.free c ob q n hx) hc hx
    exact ⟨sl', e2⟩
  free := fun c ob q n hx => by
    obtain ⟨o', e1⟩ := a.there c ob q hx
    exact b.free c o' e1 (a.free c ob q n hx) hx
  there := fun c ob q hx => by
    obtain ⟨o', e1⟩ := a.there c ob q hx
    exact b.there c o' e1 hx
  tups := fun c xs q => b.tups c xs (a.tups c xs q)
  frzs := fun c ob xs q => b.frzs c ob xs (a.frzs c ob xs q)
  tbls := fun c ps q => by
    obtain ⟨m1, e1⟩ := a.tbls c ps q
    obtain ⟨m2, e2⟩ := b.tbls c _ e1
    exact ⟨m1 ++ m2, by rw [e2, Array.append_assoc]⟩
theorem Un.kept (k : ∀ b u, h.get? b = some u → h'.get? b = some u) : Un fs ex H H h h' :=
  ⟨fun b ob q _ _ _ => k b ob q, fun b ob q _ _ _ => ⟨ob.slots, k b ob q⟩, fun _ _ _ n _ => n, fun b ob q _ => ⟨ob, k b ob q⟩, fun _ _ q => q, fun _ _ _ q => q, fun _ ps q => ⟨#[], by rw [q]; simp⟩⟩
theorem Un.refl : Un fs ex H H h h := Un.kept fun _ _ q => q
theorem Un.laid (k : ∀ b u, h.get? b = some u → h'.get? b = some u) (hp : h.objs.size ≤ a) (hn : H a = none) : Un fs ex H (upd H a o) h h' where
  keep := fun b u q _ _ _ => k b u q
  slot := fun b u q _ _ _ => ⟨u.slots, k b u q⟩
  free := fun b u q n _ => by rw [upd_ne (Nat.ne_of_lt (Nat.lt_of_lt_of_le (Heap.lt_size q) hp))]; exact n
  there := fun b u q _ => ⟨u, k b u q⟩
  tups := fun b xs q => by rw [upd_ne (ne_of_none q hn)]; exact q
  frzs := fun b u xs q => by rw [upd_ne (ne_of_none q hn)]; exact q
  tbls := fun b ps q => ⟨#[], by rw [upd_ne (ne_of_none q hn), q]; simp⟩
theorem Un.write (mu : Mut (H x)) (he : e = x ∨ H e = some (.own x)) (k : ∀ b u, b ≠ e → h.get? b = some u → h'.get? b = some u) (heo : ∃ u, h'.get? e = some u) : Un fs ex H (upd H x o) h h' := by
  have hx : ∀ b, H b = none → b ≠ x := fun b n z => by subst z; rw [n] at mu; exact mu
  have hb : ∀ b, H b = none → b ≠ e := fun b n z => by
    subst z
    rcases he with r | r
    · exact hx b n r
    · rw [n] at r; cases r
  have hm : ∀ b u, H b = some u → ¬ Mut (some u) → b ≠ x := fun b u q nm z => by subst z; rw [q] at mu; exact nm mu
  refine ⟨fun b u q n _ _ => k b u (hb b n) q, fun b u q n _ _ => ⟨u.slots, k b u (hb b n) q⟩, fun b u q n _ => by rw [upd_ne (hx b n)]; exact n, fun b u q _ => ?_,
    fun b xs q => by rw [upd_ne (hm b _ q fun z => z)]; exact q, fun b u xs q => by rw [upd_ne (hm b _ q fun z => z)]; exact q, fun b ps q => ⟨#[], by rw [upd_ne (hm b _ q fun z => z), q]; simp⟩⟩
  by_cases hbe : b = e
  · subst hbe; exact heo
  · exact ⟨u, k b u hbe q⟩
theorem Un.mono (u : Un fs ex H H1 h h1) (hs : ∀ b ∈ fs, b ∈ fs') (hx : ∀ b ∈ ex, b ∈ ex') : Un fs' ex' H H1 h h1 :=
  ⟨fun b ob q n hb he => u.keep b ob q n (fun z => hb (hs b z)) fun z => he (hx b z), fun _ _ q n _ he => u.any q n fun z => he (hx _ z), fun b ob q n he => u.free b ob q n fun z => he (hx b z), fun b ob q he => u.there b ob q fun z => he (hx b z), u.tups, u.frzs, u.tbls⟩
end
def trk (h : Heap) (H : Hp) : List Addr := (List.range h.objs.size).filter fun a => (H a).isSome
def hidT (h : Heap) (H : Hp) : Heap := PySem.W.hideAll h (trk h H)
theorem hidT_size (h : Heap) (H : Hp) : (hidT h H).objs.size = h.objs.size := PySem.W.hideAll_size _ _
theorem hidT_get {h : Heap} {H : Hp} {b : Addr} {o : Obj} (e : h.get? b = some o) (n : H b = none) : (hidT h H).get? b = some o :=
  PySem.W.hideAll_get _ e fun hm => by
    have q : (H b).isSome = true := (List.mem_filter.mp hm).2
    rw [n] at q; simp at q
theorem of_hidT {h : Heap} {H : Hp} {b : Addr} {o : Obj} (e : (hidT h H).get? b = some o) : h.get? b = some o ∧ H b = none := by
  have e' : h.get? b = some o := PySem.W.of_hideAll (trk h H) e
  refine ⟨e', ?_⟩
  cases q : H b with
  | none => rfl
  | some x =>
    have hm : b ∈ trk h H := List.mem_filter.mpr ⟨List.mem_range.mpr (Heap.lt_size e'), by simp [q]⟩
    have z : (hidT h H).get? b = none := PySem.W.hideAll_none (trk h H) hm
    rw [z] at e; cases e
def allNews (g h : Heap) (L : Addr) : List (Addr × Obj) := (List.range h.objs.size).filterMap fun a => if a = L ∨ (g.get? a).isSome = true then none else (h.get? a).map fun o => (a, o)
def rest (g h : Heap) (L d : Addr) : List (Addr × Obj) := (allNews g h L).filter fun p => decide (p.1 ≠ d)
end L2
namespace L2
open PySem PySem.Spec PyProof.Rows
/-- the module's facts, over the base: the heap at the law's entry without what is tracked there -/
structure Mod (K : PySem.W.Frag) (mg : Str → Option Value) (base : Heap) : Prop where
  kin : K.In base
  glob : base.Ns mainGlobals mg
  blt : ∃ mb, base.Ns builtinsNs mb ∧ ∀ x : Str, x ≠ "__name__" → mb x = bootBuiltins x
  nolimit : base.NoLimit
/-- the context: a def's body (or a comprehension's block) running. base: fixed through the whole law; s₀, H₀: the entry; outer: the frames whose slots others may change (a def's callers); stack: all frames that run;
   ex: iterators that were made ahead of the entry and are walked here (a comprehension's); fn: the names whose cells were made at the entry (a def: all; a comprehension's block: its own); calm: not within an except suite; pn: pins that every state bears; xe: what is wanted of an exception that leaves the code -/
structure Cx where
  prog : Program
  w : World
  K : PySem.W.Frag
  mg : Str → Option Value
  base : Heap
  A : Around
  N : List Str
  s₀ : Shared
  H₀ : Hp
  env : Env
  outer : List Env
  stack : List Env
  ex : List Addr
  fn : Str → Bool
  calm : Bool
  pn : List (Addr × Obj)
  xe : Value → Shared → Prop
/-- the callers' frames -/
def frs (l : List Env) : List Addr := l.filterMap (·.frame)
abbrev Cx.fs (X : Cx) : List Addr := frs X.outer
def Vis (sc : Scope) (x : Str) : Prop := sc.names.lookup x = some .local ∨ sc.names.lookup x = some .cell ∨ sc.names.lookup x = some .free
def Loc (sc : Scope) (x : Str) : Prop := sc.names.lookup x = some .local ∨ sc.names.lookup x = some .cell
def Look (env : Env) (h : Heap) (m : Str → Option Value) (x : Str) (u : Value) : Prop :=
  (env.kindOf x = some .local ∧ m x = some u) ∨ ((env.kindOf x = some .cell ∨ env.kindOf x = some .free) ∧ ∃ c, env.cells.lookup x = some c ∧ h.IsCell c (some u))
structure Cx.Ok (X : Cx) : Prop where
  mod : Mod X.K X.mg X.base
  kind : X.env.scope.kind = .function
  glob : X.env.globals = mainGlobals
  blt : X.env.builtins = builtinsNs
  above : X.s₀.heap.objs.size ≤ X.env.locals
  inj : ∀ x y c, X.env.cells.lookup x = some c → X.env.cells.lookup y = some c → x = y
  has : ∀ x, (X.env.kindOf x = some .cell ∨ X.env.kindOf x = some .free) → ∃ c, X.env.cells.lookup x = some c
  cab : ∀ x c, X.fn x = true → X.env.cells.lookup x = some c → X.s₀.heap.objs.size ≤ c
  hd : X.calm = true → X.A.handled = none
  frames : X.A.frames = some X.stack
  stk : X.stack = X.outer ∨ (X.stack = X.env :: X.outer ∧ X.env.frame = some X.env.locals)
  exf : ∀ b ∈ X.ex, b ≠ X.env.locals ∧ ∀ x c, X.env.cells.lookup x = some c → c ≠ b
  bs : ∀ b o, X.base.get? b = some o → X.s₀.heap.get? b = some o ∧ X.H₀ b = none
  bsz : X.base.objs.size ≤ X.s₀.heap.objs.size
  noex : ∀ b o, X.base.get? b = some o → b ∉ X.ex
  exfs : ∀ b ∈ X.ex, b ∉ X.fs
  funs : X.s₀.heap.FunFrames X.base X.outer
  frf : ∀ b ∈ X.fs, X.H₀ b = none
structure Inv (X : Cx) (pins : List (Addr × Obj)) (σ : List (Option V)) (H : Hp) (s : Shared) : Prop where
  ok : X.Ok
  os : s.os = X.s₀.os
  bare : AllBare s.gens
  base : Un X.fs X.ex X.H₀ H X.s₀.heap s.heap
  loc : ∃ m, s.heap.Ns X.env.locals m ∧ ∀ (i : Nat) (x : Str) (v : V), X.N[i]? = some x → σ[i]? = some (some v) → Vis X.env.scope x → ∃ u, RelV v u ∧ Look X.env s.heap m x u
  cell : ∀ x c, X.env.cells.lookup x = some c → ∃ v, s.heap.IsCell c v
  free : H X.env.locals = none
  freeC : ∀ x c, X.env.cells.lookup x = some c → H c = none
  pin : ∀ p ∈ X.pn ++ pins, s.heap.get? p.1 = some p.2 ∧ H p.1 = none ∧ p.1 ≠ X.env.locals ∧ p.1 ∉ X.fs ∧ ∀ v, p.2.data ≠ .cell v
  hok : HOk X.prog X.w H s.heap
  len : σ.length = X.N.length
section
variable {X : Cx} {pins : List (Addr × Obj)} {σ : List (Option V)} {H H' : Hp} {s : Shared} {h' : Heap}
theorem Cx.Ok.nofr (ok : X.Ok) {b : Addr} {o : Obj} (e : X.base.get? b = some o) : b ∉ X.fs := fun hb => by
  have := (ok.funs.mem hb).1
  rw [e] at this; cases this
theorem Inv.bs (I : Inv X pins σ H s) : ∀ b o, X.base.get? b = some o → s.heap.get? b = some o ∧ H b = none := fun b o e =>
  ⟨I.base.keep b o (I.ok.bs b o e).1 (I.ok.bs b o e).2 (I.ok.nofr e) (I.ok.noex b o e), I.base.free b o (I.ok.bs b o e).1 (I.ok.bs b o e).2 (I.ok.noex b o e)⟩
theorem Inv.bk (I : Inv X pins σ H s) : ∀ b o, X.base.get? b = some o → s.heap.get? b = some o := fun b o e => (I.bs b o e).1
theorem Inv.mod (I : Inv X pins σ H s) : Mod X.K X.mg X.base := I.ok.mod
theorem Inv.kIn (I : Inv X pins σ H s) : X.K.In s.heap := I.ok.mod.kin.keeps I.bk
/-- the frame over the base: for OpenK's rules (K.In X.base is I.mod.kin) -/
theorem Inv.fr (I : Inv X pins σ H s) : ∃ m, Fr X.base X.env.locals s.heap m :=
  let ⟨m, hn, _⟩ := I.loc
  ⟨m, hn, I.bk, Nat.le_trans I.ok.bsz I.ok.above⟩
theorem Inv.lt (I : Inv X pins σ H s) : X.env.locals < s.heap.objs.size := let ⟨_, hn, _⟩ := I.loc; hn.lt
theorem Inv.sz (I : Inv X pins σ H s) : X.s₀.heap.objs.size ≤ s.heap.objs.size := Nat.le_trans I.ok.above (Nat.le_of_lt I.lt)
theorem Inv.nofs (I : Inv X pins σ H s) {a : Addr} (h : s.heap.objs.size ≤ a) : a ∉ X.fs := fun hb => by
  obtain ⟨_, o, ho, _⟩ := I.ok.funs.mem hb
  exact absurd (Nat.lt_of_lt_of_le (Heap.lt_size ho) (Nat.le_trans I.sz h)) (Nat.lt_irrefl _)
theorem Inv.cne (I : Inv X pins σ H s) : ∀ x c, X.env.cells.lookup x = some c → c ≠ X.env.locals := fun x c e z => by
  obtain ⟨v, o, ho, hd⟩ := I.cell x c e
  obtain ⟨m, ⟨o', es, ep, ho', hd', _⟩, _⟩ := I.loc
  rw [z, ho'] at ho; cases ho; rw [hd'] at hd; cases hd
theorem Inv.funs (I : Inv X pins σ H s) : s.heap.FunFrames X.base X.outer := by
  have all : ∀ (l : List Env), (∀ b ∈ frs l, b ∈ X.fs) → X.s₀.heap.FunFrames X.base l → s.heap.FunFrames X.base l := by
    intro l
    induction l with
    | nil => intro _ _; trivial
    | cons env r ih =>
      intro hs hl
      obtain ⟨hk, ⟨L, o, hf, hn, ho, hd⟩, hr⟩ := hl
      have hL : L ∈ X.fs := hs L (by unfold frs; rw [List.filterMap_cons, hf]; exact List.mem_cons_self)
      obtain ⟨sl, e⟩ := I.base.slot L o ho (I.ok.frf L hL) hL fun z => I.ok.exfs L z hL
      exact ⟨hk, ⟨L, _, hf, hn, e, hd⟩, ih (fun b hb => hs b (by unfold frs; rw [List.filterMap_cons, hf]; exact List.mem_cons_of_mem _ hb)) hr⟩
  exact all X.outer (fun _ hb => hb) I.ok.funs
/-- the frames that run, for a call -/
theorem Inv.stack (I : Inv X pins σ H s) : s.heap.FunFrames X.base X.stack := by
  rcases I.ok.stk with e | ⟨e, hf⟩
  · rw [e]; exact I.funs
  · rw [e]
    obtain ⟨m, hn, _⟩ := I.loc
    refine .cons (by rw [I.ok.kind]; decide) hf hn ?_ I.funs
    exact Heap.get?_none_of_le (Nat.le_trans I.ok.bsz I.ok.above)
theorem Inv.stkSub (I : Inv X pins σ H s) : ∀ b ∈ frs X.stack, b ∈ X.env.locals :: X.fs := fun b hb => by
  rcases I.ok.stk with e | ⟨e, hf⟩
  · rw [e] at hb; exact List.mem_cons_of_mem _ hb
  · rw [e] at hb
    unfold frs at hb
    rw [List.filterMap_cons, hf] at hb
    exact hb
theorem Inv.stkFree (I : Inv X pins σ H s) : ∀ b ∈ frs X.stack, H b = none := fun b hb => by
  rcases List.mem_cons.mp (I.stkSub b hb) with e | hb
  · rw [e]; exact I.free
  · obtain ⟨_, o, ho, _⟩ := I.ok.funs.mem hb
    exact I.base.free b o ho (I.ok.frf b hb) fun z => I.ok.exfs b z hb
/-- THE STEP: the untracked objects but the frame and the records at ch are kept (the callers' frames up to slots), the frame's map is kept, the new abstract heap is held -/
theorem Inv.step {g' : Array GenState} {t' : Nat} {d' : Drawn} {ch : List Addr} (I : Inv X pins σ H s)
    (hch : ∀ b ∈ ch, (b ∈ X.ex ∨ X.s₀.heap.objs.size ≤ b) ∧ b ≠ X.env.locals ∧ (∀ x c, X.env.cells.lookup x = some c → c ≠ b) ∧ ∀ p ∈ X.pn ++ pins, p.1 ≠ b)
    (keep : ∀ b o, b ≠ X.env.locals → b ∉ X.fs → b ∉ ch → s.heap.get? b = some o → H b = none → h'.get? b = some o)
    (slot : ∀ b o, b ≠ X.env.locals → b ∈ X.fs → b ∉ ch → s.heap.get? b = some o → H b = none → ∃ sl, h'.get? b = some { o with slots := sl }) (free : ∀ b o, b ∉ ch → s.heap.get? b = some o → H b = none → H' b = none)
    (there : ∀ b o, b ∉ ch → s.heap.get? b = some o → ∃ o', h'.get? b = some o')
    (tups : ∀ b xs, H b = some (.tup xs) → H' b = some (.tup xs)) (frzs : ∀ b o u, H b = some (.frz o u) → H' b = some (.frz o u)) (tbls : ∀ b ps, H b = some (.tbl ps) → ∃ more, H' b = some (.tbl (ps ++ more)))
    (ns : ∀ m, s.heap.Ns X.env.locals m → h'.Ns X.env.locals m) (hok : HOk X.prog X.w H' h') (hg : AllBare g') :
    Inv X pins σ H' { s with heap := h', gens := g', drawn := d', toks := t' } := by
  have neL : ∀ b o, X.s₀.heap.get? b = some o → b ≠ X.env.locals := fun b o e => Nat.ne_of_lt (Nat.lt_of_lt_of_le (Heap.lt_size e) I.ok.above)
  have neC : ∀ b o, X.s₀.heap.get? b = some o → b ∉ X.ex → b ∉ ch := fun b o e hx hb => by
    rcases (hch b hb).1 with z | z
    · exact hx z
    · exact absurd (Nat.lt_of_lt_of_le (Heap.lt_size e) z) (Nat.lt_irrefl _)
  have cellK : ∀ x c, X.env.cells.lookup x = some c → ∀ v, s.heap.IsCell c v → h'.IsCell c v := fun x c e v ⟨o, ho, hd⟩ => by
    have nch : c ∉ ch := fun z => (hch c z).2.2.1 x c e rfl
    by_cases hc : c ∈ X.fs
    · obtain ⟨sl, q⟩ := slot c o (I.cne x c e) hc nch ho (I.freeC x c e)
      exact ⟨_, q, hd⟩
    · exact ⟨o, keep c o (I.cne x c e) hc nch ho (I.freeC x c e), hd⟩
  refine ⟨I.ok, I.os, hg, ⟨fun b o e n hb hx => ?_, fun b o e n hb hx => ?_, fun b o e n hx => ?_, fun b o e hx => ?_, fun b xs e => tups b xs (I.base.tups b xs e), fun b o xs e => frzs b o xs (I.base.frzs b o xs e), fun b ps e => ?_⟩, ?_, fun x c e => ?_, ?_, fun x c e => ?_, fun p hp => ?_, hok, I.len⟩
  · exact keep b o (neL b o e) hb (neC b o e hx) (I.base.keep b o e n hb hx) (I.base.free b o e n hx)
  · obtain ⟨sl, e1⟩ := I.base.slot b o e n hb hx
    obtain ⟨sl', e2⟩ := slot b _ (neL b o e) hb (neC b o e hx) e1 (I.base.free b o e n hx)
    exact ⟨sl', e2⟩
  · obtain ⟨o', e1⟩ := I.base.there b o e hx
    exact free b o' (neC b o e hx) e1 (I.base.free b o e n hx)
  · obtain ⟨o', e1⟩ := I.base.there b o e hx
    exact there b o' (neC b o e hx) e1
  · obtain ⟨m1, e1⟩ := I.base.tbls b ps e
    obtain ⟨m2, e2⟩ := tbls b _ e1
    exact ⟨m1 ++ m2, by rw [e2, Array.append_assoc]⟩
  · obtain ⟨m, hn, hl⟩ := I.loc
    refine ⟨m, ns m hn, fun i x v e1 e2 e3 => ?_⟩
    obtain ⟨u, r, l⟩ := hl i x v e1 e2 e3
    refine ⟨u, r, ?_⟩
    rcases l with l | ⟨k, c, e, z⟩
    · exact .inl l
    · exact .inr ⟨k, c, e, cellK x c e _ z⟩
  · obtain ⟨v, z⟩ := I.cell x c e
    exact ⟨v, cellK x c e v z⟩
  · obtain ⟨m, ⟨o, _, _, ho, _⟩, _⟩ := I.loc
    exact free _ o (fun z => (hch _ z).2.1 rfl) ho I.free
  · obtain ⟨v, o, ho, hd⟩ := I.cell x c e
    exact free c o (fun z => (hch c z).2.2.1 x c e rfl) ho (I.freeC x c e)
  · obtain ⟨e, n, ne, nf, d⟩ := I.pin p hp
    have nch : p.1 ∉ ch := fun z => (hch p.1 z).2.2.2 p hp rfl
    exact ⟨keep p.1 p.2 ne nf nch e n, free p.1 p.2 nch e n, ne, nf, d⟩
/-- .. where the frame's own object is kept too -/
theorem Inv.un {t' : Nat} (I : Inv X pins σ H s) (u : Un X.fs [] H H' s.heap h') (hok : HOk X.prog X.w H' h') : Inv X pins σ H' { s with heap := h', toks := t' } := by
  obtain ⟨m, ⟨o, es, ep, ho, r⟩, _⟩ := id I.loc
  obtain ⟨sl, hL⟩ := u.any ho I.free (by simp)
  exact I.step (g' := s.gens) (d' := s.drawn) (ch := []) (fun _ z => nomatch z) (fun b o _ hb _ e n => u.keep b o e n hb (by simp)) (fun b o _ hb _ e n => u.slot b o e n hb (by simp)) (fun b o _ e n => u.free b o e n (by simp)) (fun b o _ e => u.there b o e (by simp)) u.tups u.frzs u.tbls (fun m' hm => by
    obtain ⟨o', es', ep', ho', r'⟩ := hm
    rw [ho] at ho'; cases ho'
    exact ⟨_, es', ep', hL, r'⟩) hok I.bare
/-- behind a call (or a comprehension's block): the slots of this frame may have changed too, the records at ch may have turned -/
theorem Inv.call {g' : Array GenState} {t' : Nat} {d' : Drawn} {ch : List Addr} (I : Inv X pins σ H s) (u : Un (frs X.stack) ch H H' s.heap h') (hok : HOk X.prog X.w H' h') (hg : AllBare g')
    (hch : ∀ b ∈ ch, (b ∈ X.ex ∨ X.s₀.heap.objs.size ≤ b) ∧ b ≠ X.env.locals ∧ (∀ x c, X.env.cells.lookup x = some c → c ≠ b) ∧ ∀ p ∈ X.pn ++ pins, p.1 ≠ b) :
    Inv X pins σ H' { s with heap := h', gens := g', drawn := d', toks := t' } := by
  obtain ⟨m, ⟨o, es, ep, ho, r⟩, _⟩ := id I.loc
  obtain ⟨sl, hL⟩ := u.any ho I.free fun z => (hch _ z).2.1 rfl
  exact I.step (ch := ch) hch (fun b o hL hb hc e n => u.keep b o e n (fun z => (List.mem_cons.mp (I.stkSub b z)).elim hL hb) hc) (fun b o _ _ hc e n => u.any e n hc) (fun b o hc e n => u.free b o e n hc) (fun b o hc e => u.there b o e hc) u.tups u.frzs u.tbls (fun m' hm => by
    obtain ⟨o', es', ep', ho', r'⟩ := hm
    rw [ho] at ho'; cases ho'
    exact ⟨_, es', ep', hL, r'⟩) hok hg
/-- an untracked record of ours (an iterator) has turned -/
theorem Inv.turned {t' : Nat} {it : Addr} (I : Inv X pins σ H s) (k : ∀ b o, b ≠ it → s.heap.get? b = some o → h'.get? b = some o) (hn : H it = none) (hL : it ≠ X.env.locals)
    (h1 : it ∈ X.ex ∨ X.s₀.heap.objs.size ≤ it) (h2 : ∀ x c, X.env.cells.lookup x = some c → c ≠ it) (h3 : ∀ p ∈ X.pn ++ pins, p.1 ≠ it) : Inv X pins σ H { s with heap := h', toks := t' } := by
  have nit : ∀ b u, H b = some u → b ≠ it := fun b u e z => by rw [z, hn] at e; cases e
  refine I.step (g' := s.gens) (d' := s.drawn) (ch := [it]) (fun b hb => ?_) (fun b o _ _ hc e _ => k b o (fun z => hc (by simp [z])) e) (fun b o _ _ hc e _ => ⟨o.slots, k b o (fun z => hc (by simp [z])) e⟩) (fun _ _ _ _ n => n)
    (fun b o hc e => ⟨o, k b o (fun z => hc (by simp [z])) e⟩) (fun _ _ e => e) (fun _ _ _ e => e) (fun b ps e => ⟨#[], by rw [e]; simp⟩) (fun m hm => ?_) (fun b u e => ?_) I.bare
  · have e : b = it := by simpa using hb
    subst e
    exact ⟨h1, hL, h2, h3⟩
  · obtain ⟨o, es, ep, ho, r⟩ := hm
    exact ⟨o, es, ep, k _ o (Ne.symm hL) ho, r⟩
  · refine (I.hok b u e).stay (fun c v hc q => k c v ?_ q) (fun _ q => q) fun _ _ q => q
    rcases hc with z | z
    · rw [z]; exact nit b u e
    · exact nit c _ z
theorem Inv.tok (I : Inv X pins σ H s) (t : Nat) : Inv X pins σ H { s with toks := t } := I.un (h' := s.heap) (t' := t) Un.refl I.hok
/-- all objects kept -/
theorem Inv.kept {t' : Nat} (I : Inv X pins σ H s) (k : ∀ b u, s.heap.get? b = some u → h'.get? b = some u) : Inv X pins σ H { s with heap := h', toks := t' } := I.un (Un.kept k) (I.hok.kept k)
/-- a new object laid and tracked -/
theorem Inv.laid {a : Addr} {o : HO} {t' : Nat} (I : Inv X pins σ H s) (k : ∀ b u, s.heap.get? b = some u → h'.get? b = some u) (hp : s.heap.objs.size ≤ a) (new : ObjOk X.prog X.w (upd H a o) h' a o) :
    Inv X pins σ (upd H a o) { s with heap := h', toks := t' } := I.un (Un.laid k hp (I.hok.fresh hp)) (I.hok.laid k hp new)
/-- an object written -/
theorem Inv.write {x e : Addr} {o : HO} {t' : Nat} (I : Inv X pins σ H s) (mu : Mut (H x)) (he : e = x ∨ H e = some (.own x)) (k : ∀ b u, b ≠ e → s.heap.get? b = some u → h'.get? b = some u) (heo : ∃ u, h'.get? e = some u)
    (new : ObjOk X.prog X.w (upd H x o) h' x o) : Inv X pins σ (upd H x o) { s with heap := h', toks := t' } := I.un (Un.write mu he k heo) (I.hok.write mu he k heo new)
/-- forgetting slots, pins -/
theorem Inv.weak {σ' : List (Option V)} (I : Inv X pins σ H s) (hl : σ'.length = σ.length) (w : ∀ (i : Nat) v, σ'[i]? = some (some v) → σ[i]? = some (some v)) : Inv X pins σ' H s :=
  ⟨I.ok, I.os, I.bare, I.base, let ⟨m, hn, hl'⟩ := I.loc; ⟨m, hn, fun i x v e1 e2 e3 => hl' i x v e1 (w i v e2) e3⟩, I.cell, I.free, I.freeC, I.pin, I.hok, hl.trans I.len⟩
theorem Inv.pins_of {pins' : List (Addr × Obj)} (I : Inv X pins σ H s) (h : ∀ p ∈ pins', s.heap.get? p.1 = some p.2 ∧ H p.1 = none ∧ p.1 ≠ X.env.locals ∧ p.1 ∉ X.fs ∧ ∀ v, p.2.data ≠ .cell v) : Inv X pins' σ H s :=
  ⟨I.ok, I.os, I.bare, I.base, I.loc, I.cell, I.free, I.freeC, fun p hp => (List.mem_append.mp hp).elim (fun z => I.pin p (List.mem_append_left _ z)) (h p), I.hok, I.len⟩
theorem nodup_ix {N : List Str} (hN : N.Nodup) {i j : Nat} {x : Str} (a : N[i]? = some x) (b : N[j]? = some x) : i = j := by
  obtain ⟨h1, e1⟩ := List.getElem?_eq_some_iff.mp a
  obtain ⟨h2, e2⟩ := List.getElem?_eq_some_iff.mp b
  exact (List.getElem_inj hN).mp (e1.trans e2.symm)
/-- a name is stored; what changed -/
theorem store_ok2 {M : Model} {A : Around} {E : Value → Shared → Prop} {i : Nat} {x : Str} {v : V} {u : Value} {Q : Unit → Shared → Prop} (I : Inv X pins σ H s) (hN : X.N.Nodup) (hi : X.N[i]? = some x) (hx : Loc X.env.scope x) (r : RelV v u)
    (h : ∀ s', Inv X pins (σ.set i (some v)) H s' → (∃ a, Heap.SameBut a s.heap s'.heap ∧ (a = X.env.locals ∨ X.env.cells.lookup x = some a)) → Q () s') (hf : X.fn x = true ∨ X.env.scope.names.lookup x = some .local := by first | exact .inl rfl | exact .inr rfl | assumption) : wpAny M A (storeName X.env x u) Q E s := by
  obtain ⟨m, hn, hl⟩ := id I.loc
  have hcls : (X.env.scope.kind == .class || (X.env.scope.kind == .module && X.env.locals != X.env.globals)) = false := by rw [I.ok.kind]; rfl
  have hiσ : i < σ.length := by rw [I.len]; exact (List.getElem?_eq_some_iff.mp hi).1
  have cne := I.cne
  have tracked : ∀ {a : Addr} {h' : Heap}, (∃ o, s.heap.get? a = some o ∧ H a = none) → Heap.SameBut a s.heap h' → HOk X.prog X.w H h' := fun {a h'} ha hs b ob e => by
    obtain ⟨_, _, hfree⟩ := ha
    refine (I.hok b ob e).stay (fun c w' hc q => (hs.2 c ?_).trans q) (fun _ q => q) fun _ _ q => q
    rintro rfl
    rcases hc with rfl | hc
    · rw [hfree] at e; cases e
    · rw [hfree] at hc; cases hc
  rcases hx with hk | hk
  · refine wpAny_storeName_local hk hn (fun h' hn' hs => ?_) hcls
    obtain ⟨oL, _, _, hoL, _⟩ := id hn
    refine h _ ⟨I.ok, I.os, I.bare, ⟨fun b o e n hb hx => ?_, fun b o e n hb hx => ?_, I.base.free, fun b o e hx => ?_, I.base.tups, I.base.frzs, I.base.tbls⟩, ⟨_, hn', fun j y v' e1 e2 e3 => ?_⟩, fun y c e => ?_, I.free, I.freeC, fun p hp => ?_, tracked ⟨oL, hoL, I.free⟩ hs, by simpa using I.len⟩ ⟨_, hs, .inl rfl⟩
    · exact (hs.2 b (Nat.ne_of_lt (Nat.lt_of_lt_of_le (Heap.lt_size e) I.ok.above))).trans (I.base.keep b o e n hb hx)
    · obtain ⟨sl, e1⟩ := I.base.slot b o e n hb hx
      exact ⟨sl, (hs.2 b (Nat.ne_of_lt (Nat.lt_of_lt_of_le (Heap.lt_size e) I.ok.above))).trans e1⟩
    · obtain ⟨o', e1⟩ := I.base.there b o e hx
      exact ⟨o', (hs.2 b (Nat.ne_of_lt (Nat.lt_of_lt_of_le (Heap.lt_size e) I.ok.above))).trans e1⟩
    · by_cases hj : j = i
      · subst hj
        rw [hi] at e1; cases e1
        rw [List.getElem?_set_self hiσ] at e2
        cases e2
        exact ⟨u, r, .inl ⟨hk, by simp⟩⟩
      · rw [List.getElem?_set_ne (Ne.symm hj)] at e2
        obtain ⟨u', r', q⟩ := hl j y v' e1 e2 e3
        refine ⟨u', r', ?_⟩
        rcases q with ⟨k, e⟩ | ⟨k, c, e, z⟩
        · refine .inl ⟨k, ?_⟩
          have : y ≠ x := fun e => hj (nodup_ix hN e1 (e ▸ hi))
          simp [this, e]
        · exact .inr ⟨k, c, e, z.sameBut hs (cne y c e)⟩
    · obtain ⟨w', z⟩ := I.cell y c e
      exact ⟨w', z.sameBut hs (cne y c e)⟩
    · obtain ⟨e, n, ne, nf, d⟩ := I.pin p hp
      exact ⟨(hs.2 p.1 ne).trans e, n, ne, nf, d⟩
  · have hfn : X.fn x = true := by
      rcases hf with z | z
      · exact z
      · rw [z] at hk; cases hk
    obtain ⟨c, hc⟩ := I.ok.has x (.inl hk)
    obtain ⟨w', z⟩ := I.cell x c hc
    refine wpAny_storeName_cell I.ok.kind hk hc z (fun h' hc' hs => ?_)
    obtain ⟨oc, hoc, hocd⟩ := id z
    refine h { s with heap := h' } ⟨I.ok, I.os, I.bare, ⟨fun b o e n hb hx => ?_, fun b o e n hb hx => ?_, I.base.free, fun b o e hx => ?_, I.base.tups, I.base.frzs, I.base.tbls⟩, ⟨m, hn.sameBut hs (Ne.symm (cne x c hc)), fun j y v' e1 e2 e3 => ?_⟩, fun y c' e => ?_, I.free, I.freeC, fun p hp => ?_, tracked ⟨oc, hoc, I.freeC x c hc⟩ hs, by simpa using I.len⟩ ⟨c, hs, .inr hc⟩
    · exact (hs.2 b (Nat.ne_of_lt (Nat.lt_of_lt_of_le (Heap.lt_size e) (I.ok.cab x c hfn hc)))).trans (I.base.keep b o e n hb hx)
    · obtain ⟨sl, e1⟩ := I.base.slot b o e n hb hx
      exact ⟨sl, (hs.2 b (Nat.ne_of_lt (Nat.lt_of_lt_of_le (Heap.lt_size e) (I.ok.cab x c hfn hc)))).trans e1⟩
    · obtain ⟨o', e1⟩ := I.base.there b o e hx
      exact ⟨o', (hs.2 b (Nat.ne_of_lt (Nat.lt_of_lt_of_le (Heap.lt_size e) (I.ok.cab x c hfn hc)))).trans e1⟩
    · by_cases hj : j = i
      · subst hj
        rw [hi] at e1; cases e1
        rw [List.getElem?_set_self hiσ] at e2
        cases e2
        exact ⟨u, r, .inr ⟨.inl hk, c, hc, hc'⟩⟩
      · rw [List.getElem?_set_ne (Ne.symm hj)] at e2
        obtain ⟨u', r', q⟩ := hl j y v' e1 e2 e3
        refine ⟨u', r', ?_⟩
        rcases q with q | ⟨k, c', e, z'⟩
        · exact .inl q
        · refine .inr ⟨k, c', e, z'.sameBut hs ?_⟩
          rintro rfl
          exact hj (nodup_ix hN e1 (I.ok.inj _ _ _ e hc ▸ hi))
    · by_cases hcc : c' = c
      · subst hcc; exact ⟨_, hc'⟩
      · obtain ⟨w2, z2⟩ := I.cell y c' e
        exact ⟨w2, z2.sameBut hs hcc⟩
    · obtain ⟨e, n, ne, nf, d⟩ := I.pin p hp
      refine ⟨(hs.2 p.1 ?_).trans e, n, ne, nf, d⟩
      intro q
      rw [q, hoc] at e
      have q' : oc = p.2 := Option.some.inj e
      exact d w' (by rw [← q']; exact hocd)
theorem store_ok {M : Model} {A : Around} {E : Value → Shared → Prop} {i : Nat} {x : Str} {v : V} {u : Value} {Q : Unit → Shared → Prop} (I : Inv X pins σ H s) (hN : X.N.Nodup) (hi : X.N[i]? = some x) (hx : Loc X.env.scope x) (r : RelV v u)
    (h : ∀ s', Inv X pins (σ.set i (some v)) H s' → Q () s') (hf : X.fn x = true ∨ X.env.scope.names.lookup x = some .local := by first | exact .inl rfl | exact .inr rfl | assumption) : wpAny M A (storeName X.env x u) Q E s :=
  store_ok2 I hN hi hx r (fun s' I' _ => h s' I') hf
/-- behind a call or a block, the state as it is -/
theorem Inv.call' {s' : Shared} {ch : List Addr} (I : Inv X pins σ H s) (ho : s'.os = s.os) (u : Un (frs X.stack) ch H H' s.heap s'.heap) (hok : HOk X.prog X.w H' s'.heap) (hg : AllBare s'.gens)
    (hch : ∀ b ∈ ch, (b ∈ X.ex ∨ X.s₀.heap.objs.size ≤ b) ∧ b ≠ X.env.locals ∧ (∀ x c, X.env.cells.lookup x = some c → c ≠ b) ∧ ∀ p ∈ X.pn ++ pins, p.1 ≠ b) : Inv X pins σ H' s' := by
  obtain ⟨h', g', d', t', o'⟩ := s'
  have e : o' = s.os := ho
  subst e
  exact I.call (g' := g') (t' := t') (d' := d') u hok hg hch
end
/-- an exception: its class, its own dict's address (where it has one), the abstract heap behind it -/
abbrev XK := Value → Option Addr → Hp → Prop
abbrev St := List (Option V)
abbrev VK := V → Hp → Prop
/-- an expression's reading; a test's; an argument list's -/
abbrev TE := St → Hp → VK → Prop
abbrev TT := St → Hp → (Bool → Hp → Prop) → Prop
abbrev TA := St → Hp → (List V → Hp → Prop) → Prop
/-- what is wanted behind a statement -/
structure Ends where
  nx : St → Hp → Prop
  rt : VK
  bk : St → Hp → Prop := fun _ _ => False
  ct : St → Hp → Prop := fun _ _ => False
abbrev TS := Ends → St → Hp → Prop
def EP (X : Cx) (pins : List (Addr × Obj)) (σ : St) (Q : VK) (u : Value) (s' : Shared) : Prop := ∃ v H', Inv X pins σ H' s' ∧ RelV v u ∧ Q v H'
def TP (X : Cx) (pins : List (Addr × Obj)) (σ : St) (Q : Bool → Hp → Prop) (b : Bool) (s' : Shared) : Prop := ∃ H', Inv X pins σ H' s' ∧ Q b H'
def AP (X : Cx) (pins : List (Addr × Obj)) (σ : St) (Q : List V → Hp → Prop) (us : List Value) (s' : Shared) : Prop := ∃ vs H', Inv X pins σ H' s' ∧ Vals vs us ∧ Q vs H'
def SP (X : Cx) (pins : List (Addr × Obj)) (D : Ends) (f : Flow) (s' : Shared) : Prop :=
  match f with
  | .next => ∃ σ' H', Inv X pins σ' H' s' ∧ D.nx σ' H'
  | .brk => ∃ σ' H', Inv X pins σ' H' s' ∧ D.bk σ' H'
  | .cont => ∃ σ' H', Inv X pins σ' H' s' ∧ D.ct σ' H'
  | .ret u => ∃ v σ' H', Inv X pins σ' H' s' ∧ RelV v u ∧ D.rt v H'
def PE (X : Cx) (e : Expr) (t : TE) : Prop :=
  ∀ (pins : List (Addr × Obj)) (s : Shared) (σ : St) (H : Hp) (Q : VK), Inv X pins σ H s → t σ H Q → wpAny (model X.prog X.w) X.A (eval e X.env) (EP X pins σ Q) X.xe s
def PT (X : Cx) (e : Expr) (t : TT) : Prop :=
  ∀ (pins : List (Addr × Obj)) (s : Shared) (σ : St) (H : Hp) (Q : Bool → Hp → Prop), Inv X pins σ H s → t σ H Q → wpAny (model X.prog X.w) X.A (isTrue e X.env (eval e X.env)) (TP X pins σ Q) X.xe s
/-- a test whatever its 'whole' is (and, or) -/
def PW (X : Cx) (e : Expr) (t : TT) : Prop :=
  ∀ (whole : Sem Value) (pins : List (Addr × Obj)) (s : Shared) (σ : St) (H : Hp) (Q : Bool → Hp → Prop), Inv X pins σ H s → t σ H Q → wpAny (model X.prog X.w) X.A (isTrue e X.env whole) (TP X pins σ Q) X.xe s
theorem PW.pt {X : Cx} {e : Expr} {t : TT} (h : PW X e t) : PT X e t := h _
/-- an argument list (no star), from the left -/
def PA (X : Cx) (es : List Expr) (t : TA) : Prop :=
  ∀ (pos : Pos) (pins : List (Addr × Obj)) (s : Shared) (σ : St) (H : Hp) (Q : List V → Hp → Prop), Inv X pins σ H s → t σ H Q → wpAny (model X.prog X.w) X.A (spliced (backTo pos (starEach es X.env))) (AP X pins σ Q) X.xe s
def PS (X : Cx) (st : Stmt) (t : TS) : Prop :=
  ∀ (pins : List (Addr × Obj)) (s : Shared) (σ : St) (H : Hp) (D : Ends), Inv X pins σ H s → t D σ H → wpAny (model X.prog X.w) X.A (exec st X.env) (SP X pins D) X.xe s
def PSs (X : Cx) (st : List Stmt) (t : TS) : Prop :=
  ∀ (pins : List (Addr × Obj)) (s : Shared) (σ : St) (H : Hp) (D : Ends), Inv X pins σ H s → t D σ H → wpAny (model X.prog X.w) X.A (execs st X.env) (SP X pins D) X.xe s
/-- weaken the end -/
theorem thn {α : Type} {t : Sem α} {Q Q' : α → Shared → Prop} {M : Model} {A : Around} {E : Value → Shared → Prop} {s : Shared} (h : wpAny M A t Q E s) (hQ : ∀ a s, Q a s → Q' a s) : wpAny M A t Q' E s := wpAny_mono h hQ fun _ _ x => x
end L2
namespace L2
open PySem PySem.Spec PyProof.Rows
section
variable {X : Cx}
/-- two expressions in a row -/
theorem bin {a b : Expr} {ta tb : TE} (ha : PE X a ta) (hb : PE X b tb) {pins : List (Addr × Obj)} {s : Shared} {σ : St} {H : Hp} {R : V → V → Hp → Prop} (I : Inv X pins σ H s) (h : ta σ H fun x H1 => tb σ H1 fun y H2 => R x y H2)
    {α : Type} {Q : α → Shared → Prop} {f : Value → Value → Sem α}
    (hf : ∀ v u s2 x y H2, Inv X pins σ H2 s2 → RelV x v → RelV y u → R x y H2 → wpAny (model X.prog X.w) X.A (f v u) Q X.xe s2) :
    wpAny (model X.prog X.w) X.A (eval a X.env) (fun v s₁ => wpAny (model X.prog X.w) X.A (eval b X.env) (fun u s₂ => wpAny (model X.prog X.w) X.A (f v u) Q X.xe s₂) X.xe s₁) X.xe s := by
  refine thn (ha pins s σ H _ I h) fun v s1 ⟨x, H1, I1, r1, q1⟩ => ?_
  refine thn (hb pins s1 σ H1 _ I1 q1) fun u s2 ⟨y, H2, I2, r2, q2⟩ => ?_
  exact hf v u s2 x y H2 I2 r1 r2 q2
inductive tVar (i : Nat) : St → Hp → VK → Prop
  | mk {σ : St} {H : Hp} {Q : VK} (v) (z_0 : σ[i]? = some (some v)) (z_1 : Q v H) : tVar i σ H Q
def tC (v : V) : TE := fun _ H Q => Q v H
theorem pe_var {i : Nat} {x : Str} {pos : Pos} (hN : X.N[i]? = some x) (hv : Vis X.env.scope x) (hd : (x == ("__debug__" : Str)) = false := by decide) (hcd : (x == ("__classdict__" : Str)) = false := by decide) : PE X (.Name x pos) (tVar i) := by
  intro pins s σ H Q I h
  obtain ⟨v, e, h⟩ := h
  obtain ⟨m, hn, hl⟩ := I.loc
  obtain ⟨u, r, l⟩ := hl i x v hN e hv
  have fin : EP X pins σ Q u s := ⟨v, H, I, r, h⟩
  rcases l with ⟨hk, hm⟩ | ⟨hk, c, hc, hcell⟩
  · exact wpAny_Name (wpAny_loadName_local I.ok.kind hk hn hm fin) hd
  · rcases hk with hk | hk
    · exact wpAny_Name (wpAny_loadName_cell I.ok.kind hk hc hcell fin) hd
    · exact wpAny_Name (wpAny_loadName_free I.ok.kind hk hc hcell fin hcd) hd
theorem pe_int {i j pos} : PE X (.Constant (.int i) j pos) (tC (.int i)) := fun _ _ _ H _ I h => wpAny_Constant_int ⟨.int i, H, I.tok _, ⟨_, rfl⟩, h⟩
theorem pe_bl {b j pos} : PE X (.Constant (.bool b) j pos) (tC (.bl b)) := fun _ _ _ H _ I h => Constant_bool ⟨.bl b, H, I, rfl, h⟩
theorem pe_non {j pos} : PE X (.Constant .none j pos) (tC .non) := fun _ _ _ H _ I h => Constant_none ⟨.non, H, I, rfl, h⟩
theorem pe_str {x j pos} : PE X (.Constant (.str x) j pos) (tC (.str x)) := fun _ _ _ H _ I h => Calls.Constant_str ⟨.str x, H, I.tok _, ⟨_, rfl⟩, h⟩
/-- a global name of the def -/
def Gl (X : Cx) (x : Str) : Prop := X.env.kindOf x = some .globalImplicit
theorem ld_glob {E : Value → Shared → Prop} {pins : List (Addr × Obj)} {s : Shared} {σ : St} {H : Hp} {x : Str} {u : Value} {pos : Pos} {Q : Value → Shared → Prop} (I : Inv X pins σ H s) (hg : Gl X x) (hm : X.mg x = some u) (h : Q u s)
    (hd : (x == ("__debug__" : Str)) = false := by decide) : wpAny (model X.prog X.w) X.A (eval (.Name x pos) X.env) Q E s :=
  Calls.Name_function_global I.ok.kind hg (Calls.loadGlobal_global (by rw [I.ok.glob]; exact I.mod.glob.keeps I.bk) hm h) hd
theorem ld_blt {E : Value → Shared → Prop} {pins : List (Addr × Obj)} {s : Shared} {σ : St} {H : Hp} {x : Str} {u : Value} {pos : Pos} {Q : Value → Shared → Prop} (I : Inv X pins σ H s) (hg : Gl X x) (hm : X.mg x = none) (hv : bootBuiltins x = some u) (h : Q u s)
    (hn : x ≠ "__name__" := by decide) (hd : (x == ("__debug__" : Str)) = false := by decide) : wpAny (model X.prog X.w) X.A (eval (.Name x pos) X.env) Q E s := by
  obtain ⟨mb, h1, h2⟩ := I.mod.blt
  exact Calls.Name_function_global I.ok.kind hg (Calls.loadGlobal_builtin (by rw [I.ok.glob]; exact I.mod.glob.keeps I.bk) hm (by rw [I.ok.blt]; exact h1.keeps I.bk) ((h2 x hn).trans hv) h) hd
/-- a module's constant, a class, a function, as a value -/
theorem pe_glob {x : Str} {v : V} {u : Value} {pos : Pos} (hg : Gl X x) (hm : X.mg x = some u) (r : RelV v u) (hd : (x == ("__debug__" : Str)) = false := by decide) : PE X (.Name x pos) (tC v) :=
  fun _ _ _ H _ I h => ld_glob I hg hm ⟨v, H, I, r, h⟩ hd
theorem pe_bltn {x : Str} {v : V} {u : Value} {pos : Pos} (hg : Gl X x) (hm : X.mg x = none) (hv : bootBuiltins x = some u) (r : RelV v u) (hn : x ≠ "__name__" := by decide) (hd : (x == ("__debug__" : Str)) = false := by decide) : PE X (.Name x pos) (tC v) :=
  fun _ _ _ H _ I h => ld_blt I hg hm hv ⟨v, H, I, r, h⟩ hn hd
/-- two ints -/
def t2I (ta tb : TE) (k : Int → Int → Hp → Prop) : St → Hp → Prop := fun σ H => ta σ H fun x H1 => tb σ H1 fun y H2 => ∃ i j, x = .int i ∧ y = .int j ∧ k i j H2
variable {a b : Expr} {ta tb : TE} {pos : Pos}
def PC (X : Cx) (op : CmpOp) (a b : Expr) (t : TE) : Prop :=
  ∀ (pins : List (Addr × Obj)) (s : Shared) (σ : St) (H : Hp) (Q : VK), Inv X pins σ H s → t σ H Q →
    wpAny (model X.prog X.w) X.A (eval a X.env) (fun v s₁ => wpAny (model X.prog X.w) X.A (eval b X.env) (fun u s₂ => wpAny (model X.prog X.w) X.A (compareOp op v u) (EP X pins σ Q) X.xe s₂) X.xe s₁) X.xe s
theorem nobehind (b : Expr) {op : CmpOp} (h : op ≠ .In) (h2 : op ≠ .NotIn) : behindInMarks op b = false := by
  have e1 : (op == CmpOp.In) = false := by cases op <;> first | rfl | exact absurd rfl h
  have e2 : (op == CmpOp.NotIn) = false := by cases op <;> first | rfl | exact absurd rfl h2
  cases b <;> simp [behindInMarks, e1, e2]
def tCmp (p : Int → Int → Bool) (ta tb : TE) : TE := fun σ H Q => t2I ta tb (fun i j H2 => Q (.bl (p i j)) H2) σ H
abbrev tLt : TE → TE → TE := tCmp fun i j => decide (i < j)
abbrev tLe : TE → TE → TE := tCmp fun i j => decide (i ≤ j)
abbrev tGt : TE → TE → TE := tCmp fun i j => decide (j < i)
abbrev tGe : TE → TE → TE := tCmp fun i j => decide (j ≤ i)
abbrev tEqI : TE → TE → TE := tCmp fun i j => decide (i = j)
abbrev tNeI : TE → TE → TE := tCmp fun i j => !decide (i = j)
/-- is None -/
def tIsN (ta : TE) : TE := fun σ H Q => ta σ H fun x H1 => Q (.bl (decide (x = .non))) H1
theorem RelV.none_iff {x : V} {v : Value} (r : RelV x v) : (v == Value.none) = decide (x = .non) := by
  cases x with
  | non => cases r; rfl
  | bl _ => cases r; rfl
  | int _ => obtain ⟨t, rfl⟩ := r; rfl
  | str _ => obtain ⟨t, rfl⟩ := r; rfl
  | byt _ => obtain ⟨t, rfl⟩ := r; rfl
  | flt _ => obtain ⟨t, rfl⟩ := r; rfl
  | ref _ => cases r; rfl
  | ty _ => cases r; rfl
theorem pc_isN {j pos'} (ha : PE X a ta) : PC X .Is a (.Constant .none j pos') (tIsN ta) := by
  intro pins s σ H Q I h
  refine thn (ha pins s σ H _ I h) fun v s1 ⟨x, H1, I1, r1, q1⟩ => ?_
  exact Constant_none (is_none_gen ⟨.bl _, H1, I1, by rw [r1.none_iff]; rfl, q1⟩)
/-- a comparison as a value, as a test -/
inductive IsBl (x : V) (H : Hp) (Q : Bool → Hp → Prop) : Prop
  | mk (k : Bool) (z_0 : x = .bl k) (z_1 : Q k H) : IsBl x H Q
def tB (t : TE) : TT := fun σ H Q => t σ H fun x H1 => IsBl x H1 Q
theorem pt_cmp {op : CmpOp} {t : TE} (h : PC X op a b t) (h1 : behindInMarks op b = false := by first | exact nobehind _ (by decide) (by decide) | rfl) : PT X (.Compare a [op] [b] pos) (tB t) := by
  intro pins s σ H Q I hw
  refine wpAny_isTrue_Compare1 (thn (h pins s σ H _ I hw) fun v s1 h1 => thn h1 fun u s2 h2 => thn h2 fun c s3 ⟨x, H1, I1, r1, q1⟩ => ?_) h1
  obtain ⟨d, rfl, q⟩ := q1
  cases r1
  exact wpAny_truthy_bool ⟨H1, I1, q⟩
/-- an expression whose value is a bool, as a test -/
theorem pt_val {e : Expr} {t : TE} (h : PE X e t) (he : ∀ whole, isTrue e X.env whole = (do let v ← whole; standAt e.pos; holding [v] (truthy v)) := by intro _; rfl) : PT X e (tB t) := by
  intro pins s σ H Q I hw
  refine isTrue_plain (thn (h pins s σ H _ I hw) fun v s1 ⟨x, H1, I1, r1, q1⟩ => ?_) (he _)
  obtain ⟨d, rfl, q⟩ := q1
  cases r1
  exact wpAny_truthy_bool ⟨H1, I1, q⟩
variable {tA tB' : TT} {rest : List Expr}
def tAnd (t u : TT) : TT := fun σ H Q => t σ H fun c H1 => if c = true then u σ H1 Q else Q false H1
def tOr (t u : TT) : TT := fun σ H Q => t σ H fun c H1 => if c = true then Q true H1 else u σ H1 Q
def tNot (t : TT) : TT := fun σ H Q => t σ H fun c H1 => Q (!c) H1
theorem pw_and1 (ha : PT X a tA) : PW X (.BoolOp .And [a] pos) tA := by
  intro wh pins s σ H Q I h
  refine isTrue_and (thn (ha pins s σ H Q I h) fun c s1 e => ?_)
  cases c with
  | true => exact isTrue_and_nil e
  | false => exact e
theorem pw_or1 (ha : PT X a tA) : PW X (.BoolOp .Or [a] pos) tA := by
  intro wh pins s σ H Q I h
  refine isTrue_or (thn (ha pins s σ H Q I h) fun c s1 e => ?_)
  cases c with
  | false => exact isTrue_or_nil e
  | true => exact e
theorem pw_and (ha : PT X a tA) (hb : PW X (.BoolOp .And (b :: rest) pos) tB') : PW X (.BoolOp .And (a :: b :: rest) pos) (tAnd tA tB') := by
  intro wh pins s σ H Q I h
  refine isTrue_and (thn (ha pins s σ H _ I h) fun c s1 ⟨H1, I1, q1⟩ => ?_)
  cases c with
  | true => exact hb wh pins s1 σ H1 Q I1 q1
  | false => exact ⟨H1, I1, q1⟩
theorem pw_or (ha : PT X a tA) (hb : PW X (.BoolOp .Or (b :: rest) pos) tB') : PW X (.BoolOp .Or (a :: b :: rest) pos) (tOr tA tB') := by
  intro wh pins s σ H Q I h
  refine isTrue_or (thn (ha pins s σ H _ I h) fun c s1 ⟨H1, I1, q1⟩ => ?_)
  cases c with
  | true => exact ⟨H1, I1, q1⟩
  | false => exact hb wh pins s1 σ H1 Q I1 q1
theorem pt_not (ha : PT X a tA) : PT X (.UnaryOp .Not a pos) (tNot tA) := by
  intro pins s σ H Q I h
  exact isTrue_not (ha pins s σ H (fun c H1 => Q (!c) H1) I h)
/-- .. as values (bools) -/
def tAndV (ta tb : TE) : TE := fun σ H Q => ta σ H fun x H1 => ∃ c, x = .bl c ∧ if c = true then tb σ H1 Q else Q (.bl false) H1
theorem pe_one {op} {t : TE} (h : PE X a t) : PE X (.BoolOp op [a] pos) t := fun pins s σ H Q I hw => BoolOp_one (h pins s σ H Q I hw)
theorem pe_and (ha : PE X a ta) (hb : PE X (.BoolOp .And (b :: rest) pos) tb) : PE X (.BoolOp .And (a :: b :: rest) pos) (tAndV ta tb) := by
  intro pins s σ H Q I h
  refine BoolOp_and (thn (ha pins s σ H _ I h) fun v s1 ⟨x, H1, I1, r1, q1⟩ => ?_)
  obtain ⟨c, rfl, q1⟩ := q1
  cases r1
  refine wpAny_truthy_bool ?_
  cases c with
  | true => exact hb pins s1 σ H1 Q I1 q1
  | false => exact ⟨.bl false, H1, I1, rfl, q1⟩
end
end L2
namespace L2
open PySem PySem.Spec PyProof.Rows
def SqL (K : PySem.W.Frag) (H : Hp) (a : Addr) (xs : List V) : Prop :=
  Rd H a (.lst xs) ∨
    ∃ (o : Obj) (its : Array Value) (n : Nat), K.lookup a = some o ∧ o.cls = .type "list" ∧ o.dict = none ∧ o.data = .seq its n ∧ its.size ≤ sizeLine ∧ Vals xs its.toList
def SqT (K : PySem.W.Frag) (H : Hp) (a : Addr) (xs : List V) : Prop :=
  Rd H a (.tup xs) ∨
    ∃ (o : Obj) (its : Array Value) (n : Nat), K.lookup a = some o ∧ o.cls = .type "tuple" ∧ o.data = .seq its n ∧ its.size ≤ sizeLine ∧ Vals xs its.toList
def absV : Value → Option V
  | .none => some .non
  | .bool b => some (.bl b)
  | .int i _ => some (.int i)
  | .str x _ => some (.str x)
  | .bytes b _ => some (.byt b)
  | .float b _ => some (.flt b)
  | .ref a => some (.ref a)
  | .type n => some (.ty n)
  | _ => none
theorem RelV.abs {x : V} {u : Value} (r : RelV x u) : absV u = some x := by
  cases x with
  | non => cases r; rfl
  | bl _ => cases r; rfl
  | int _ => obtain ⟨t, rfl⟩ := r; rfl
  | str _ => obtain ⟨t, rfl⟩ := r; rfl
  | byt _ => obtain ⟨t, rfl⟩ := r; rfl
  | flt _ => obtain ⟨t, rfl⟩ := r; rfl
  | ref _ => cases r; rfl
  | ty _ => cases r; rfl
theorem RelV.inj {x y : V} {u : Value} (r : RelV x u) (q : RelV y u) : x = y := Option.some.inj (r.abs.symm.trans q.abs)
theorem Vals.inj : ∀ {xs ys : List V} {us : List Value}, Vals xs us → Vals ys us → xs = ys
  | _, _, _, .nil, .nil => rfl
  | _, _, _, .cons r t, .cons r' t' => by rw [r.inj r', Vals.inj t t']
section
variable {X : Cx} {pins : List (Addr × Obj)} {σ : St} {H : Hp} {s : Shared} {a : Addr} {xs ys : List V}
theorem SqL.of {K : PySem.W.Frag} (h : H a = some (.lst xs)) : SqL K H a xs := .inl (.inl h)
theorem SqT.of {K : PySem.W.Frag} (h : H a = some (.tup xs)) : SqT K H a xs := .inl (.inl h)
theorem Inv.list (I : Inv X pins σ H s) (h : SqL X.K H a xs) : ∃ its : List Value, Vals xs its ∧ PlainL s.heap a its.toArray ∧ xs.length ≤ sizeLine := by
  rcases h with h | ⟨o, its, n, hk, hc, hd, hs, hz, r⟩
  · obtain ⟨z, its, n, r, e⟩ := h.ok I.hok
    exact ⟨its, r, ⟨_, n, e, rfl, rfl, rfl⟩, z⟩
  · refine ⟨its.toList, r, ⟨o, n, I.kIn a o hk, hc, hd, by simpa using hs⟩, ?_⟩
    have e := r.length
    simp only [Array.length_toList] at e
    (first | lia | omega)
theorem Inv.tuple (I : Inv X pins σ H s) (h : SqT X.K H a xs) : ∃ its : List Value, Vals xs its ∧ IsTup s.heap a its.toArray ∧ xs.length ≤ sizeLine := by
  rcases h with h | ⟨o, its, n, hk, hc, hs, hz, r⟩
  · obtain ⟨z, its, r, p⟩ := h.ok I.hok
    exact ⟨its, r, p, z⟩
  · refine ⟨its.toList, r, ⟨o, I.kIn a o hk, hc, n, by simpa using hs⟩, ?_⟩
    have e := r.length
    simp only [Array.length_toList] at e
    (first | lia | omega)
theorem Inv.list_inj (I : Inv X pins σ H s) (h : SqL X.K H a xs) (h' : SqL X.K H a ys) : xs = ys := by
  obtain ⟨its, r, ⟨o, n, e, _, _, d⟩, _⟩ := I.list h
  obtain ⟨its', r', ⟨o', n', e', _, _, d'⟩, _⟩ := I.list h'
  rw [e] at e'; cases e'
  rw [d] at d'
  injection d' with d1 _
  have : its = its' := by simpa using congrArg Array.toList d1
  subst this
  exact r.inj r'
end
abbrev Cx.wish (X : Cx) (E : Value → Shared → Prop) : Cx := { X with xe := E }
/-- no exception leaves -/
abbrev Cx.nox (X : Cx) : Cx := X.wish fun _ _ => False
theorem Cx.Ok.wish {X : Cx} (ok : X.Ok) (E : Value → Shared → Prop) : (X.wish E).Ok :=
  ⟨ok.mod, ok.kind, ok.glob, ok.blt, ok.above, ok.inj, ok.has, ok.cab, ok.hd, ok.frames, ok.stk, ok.exf, ok.bs, ok.bsz, ok.noex, ok.exfs, ok.funs, ok.frf⟩
theorem Cx.Ok.unwish {X : Cx} {E : Value → Shared → Prop} (ok : (X.wish E).Ok) : X.Ok :=
  ⟨ok.mod, ok.kind, ok.glob, ok.blt, ok.above, ok.inj, ok.has, ok.cab, ok.hd, ok.frames, ok.stk, ok.exf, ok.bs, ok.bsz, ok.noex, ok.exfs, ok.funs, ok.frf⟩
section
variable {X : Cx} {pins : List (Addr × Obj)} {σ : St} {H : Hp} {s : Shared} {E : Value → Shared → Prop}
theorem Inv.wish (I : Inv X pins σ H s) (E : Value → Shared → Prop) : Inv (X.wish E) pins σ H s := ⟨I.ok.wish E, I.os, I.bare, I.base, I.loc, I.cell, I.free, I.freeC, I.pin, I.hok, I.len⟩
theorem Inv.unwish (I : Inv (X.wish E) pins σ H s) : Inv X pins σ H s := ⟨I.ok.unwish, I.os, I.bare, I.base, I.loc, I.cell, I.free, I.freeC, I.pin, I.hok, I.len⟩
theorem SP.unwish {D : Ends} {f : Flow} {s' : Shared} (h : SP (X.wish E) pins D f s') : SP X pins D f s' := by
  cases f with
  | next => obtain ⟨σ', H', I, q⟩ := h; exact ⟨σ', H', I.unwish, q⟩
  | brk => obtain ⟨σ', H', I, q⟩ := h; exact ⟨σ', H', I.unwish, q⟩
  | cont => obtain ⟨σ', H', I, q⟩ := h; exact ⟨σ', H', I.unwish, q⟩
  | ret u => obtain ⟨v, σ', H', I, r, q⟩ := h; exact ⟨v, σ', H', I.unwish, r, q⟩
theorem PSs.nox {st : List Stmt} {t : TS} (h : PSs X.nox st t) : PSs X st t := fun pins s σ H D I hw =>
  wpAny_mono (h pins s σ H D (I.wish _) hw) (fun _ _ q => q.unwish) fun _ _ z => False.elim z
end
section
variable {X : Cx} {st : Stmt} {rest : List Stmt} {t u : TS} {e : Expr} {te : TE} {pos : Pos}
def tNext : TS := fun D σ H => D.nx σ H
def tSeq (t u : TS) : TS := fun D σ H => t { D with nx := u D } σ H
theorem pss_nil : PSs X [] tNext := fun _ _ σ H _ I h => wpAny_execs_nil ⟨σ, H, I, h⟩
theorem pss_cons (h1 : PS X st t) (h2 : PSs X rest u) : PSs X (st :: rest) (tSeq t u) := by
  intro pins s σ H D I h
  refine wpAny_execs_cons (thn (h1 pins s σ H { D with nx := u D } I h) fun f s1 q => ?_)
  cases f with
  | next =>
    obtain ⟨σ', H', I', q⟩ := q
    exact h2 pins s1 σ' H' D I' q
  | ret v => exact q
  | brk => exact q
  | cont => exact q
theorem pss_one (h1 : PS X st t) : PSs X [st] t := by
  intro pins s σ H D I h
  refine wpAny_execs_cons (thn (h1 pins s σ H D I h) fun f s1 q => ?_)
  cases f with
  | next => exact wpAny_execs_nil q
  | ret v => exact q
  | brk => exact q
  | cont => exact q
/-- in a def's body nothing is shown -/
theorem Inv.quiet {pins : List (Addr × Obj)} {σ : St} {H : Hp} {s : Shared} (I : Inv X pins σ H s) : interactive X.env = false := by simp [interactive, I.ok.kind]
/-- an expression whose value is dropped -/
def tDrop (te : TE) : TS := fun D σ H => te σ H fun _ H1 => D.nx σ H1
theorem ps_expr (he : PE X e te) (hs : swapsWith e none pos.line X.env = pure false := by rfl) : PS X (.Expr e pos) (tDrop te) := by
  intro pins s σ H D I h
  exact wpAny_Expr_any (thn (he pins s σ H _ I h) fun v s1 ⟨x, H1, I1, r1, q1⟩ => ⟨σ, H1, I1, q1⟩) I.quiet hs
def tRet (te : TE) : TS := fun D σ H => te σ H D.rt
theorem ps_ret (he : PE X e te) : PS X (.Return (some e) pos) (tRet te) := by
  intro pins s σ H D I h
  exact wpAny_Return_some (thn (he pins s σ H _ I h) fun v s1 ⟨x, H1, I1, r1, q1⟩ => ⟨x, σ, H1, I1, r1, q1⟩)
def tIfS (c : TT) (t u : TS) : TS := fun D σ H => c σ H fun b H1 => if b = true then t D σ H1 else u D σ H1
theorem ps_if {c : Expr} {a b : List Stmt} {tc : TT} (hc : PT X c tc) (ha : PSs X a t) (hb : PSs X b u) : PS X (.If c a b pos) (tIfS tc t u) := by
  intro pins s σ H D I h
  refine wpAny_If (thn (hc pins s σ H _ I h) fun d s1 ⟨H1, I1, q1⟩ => ?_)
  cases d with
  | true => exact ha pins s1 σ H1 D I1 q1
  | false => exact hb pins s1 σ H1 D I1 q1
/-- code that the proof never comes to -/
def tNever : TS := fun _ _ _ => False
theorem pss_never {sts : List Stmt} : PSs X sts tNever := fun _ _ _ _ _ _ h => h.elim
end
abbrev TG := V → St → Hp → (St → Hp → Prop) → Prop
abbrev TGs := List V → St → Hp → (St → Hp → Prop) → Prop
def PG (X : Cx) (target : Expr) (t : TG) : Prop :=
  ∀ (pins : List (Addr × Obj)) (s : Shared) (σ : St) (H : Hp) (v : V) (u : Value) (Q : St → Hp → Prop), Inv X pins σ H s → RelV v u → t v σ H Q →
    wpAny (model X.prog X.w) X.A (assign target X.env u) (fun _ s' => ∃ σ' H', Inv X pins σ' H' s' ∧ Q σ' H') X.xe s
/-- several targets, one after another -/
def PGs (X : Cx) (ts : List Expr) (t : TGs) : Prop :=
  ∀ (pins : List (Addr × Obj)) (s : Shared) (σ : St) (H : Hp) (vs : List V) (us : List Value) (Q : St → Hp → Prop), Inv X pins σ H s → Vals vs us → t vs σ H Q →
    wpAny (model X.prog X.w) X.A (assignInOrder ((assignEach ts X.env).map (·.2)) us) (fun _ s' => ∃ σ' H', Inv X pins σ' H' s' ∧ Q σ' H') X.xe s
/-- o[i] = v, by values -/
abbrev TSet := V → V → V → Hp → (Hp → Prop) → Prop
def PSet (X : Cx) (t : TSet) : Prop :=
  ∀ (pins : List (Addr × Obj)) (s : Shared) (σ : St) (H : Hp) (o i v : V) (ov iv u : Value) (Q : Hp → Prop), Inv X pins σ H s → RelV o ov → RelV i iv → RelV v u → t o i v H Q →
    wpAny (model X.prog X.w) X.A (setItem ov iv u) (fun _ s' => ∃ H', Inv X pins σ H' s' ∧ Q H') X.xe s
/-- a op= b, by values -/
abbrev TIp := V → V → Hp → VK → Prop
section
variable {X : Cx} {pos : Pos}
def gName (i : Nat) : TG := fun v σ H Q => Q (σ.set i (some v)) H
theorem pg_name {i : Nat} {x : Str} (hN : X.N.Nodup) (hi : X.N[i]? = some x) (hx : Loc X.env.scope x) (hf : X.fn x = true ∨ X.env.scope.names.lookup x = some .local := by first | exact .inl rfl | exact .inr rfl | assumption) : PG X (.Name x pos) (gName i) := by
  intro pins s σ H v u Q I r h
  exact wpAny_assign_Name (store_ok I hN hi hx r (fun s' I' => ⟨_, H, I', h⟩) hf)
def gNil : TGs := fun vs σ H Q => vs = [] ∧ Q σ H
inductive gCons (t : TG) (u : TGs) : List V → St → Hp → (St → Hp → Prop) → Prop
  | mk {vs : List V} {σ : St} {H : Hp} {Q : (St → Hp → Prop)} (v r) (z_0 : vs = v :: r) (z_1 : t v σ H fun σ' H' => u r σ' H' Q) : gCons t u vs σ H Q
theorem pgs_nil : PGs X [] gNil := by
  intro pins s σ H vs us Q I r h
  obtain ⟨e, h⟩ := h
  subst e
  cases r
  exact assignInOrder_nil ⟨σ, H, I, h⟩
theorem pgs_cons {e : Expr} {es : List Expr} {t : TG} {u : TGs} (h1 : PG X e t) (h2 : PGs X es u)
    (hs : (assignEach (e :: es) X.env).map (·.2) = assign e X.env :: (assignEach es X.env).map (·.2) := by rfl) : PGs X (e :: es) (gCons t u) := by
  intro pins s σ H vs us Q I r h
  obtain ⟨v, vr, e1, h⟩ := h
  subst e1
  cases r with
  | cons r rr =>
    rw [hs]
    refine assignInOrder_cons (thn (h1 pins s σ H _ _ _ I r h) fun _ s1 ⟨σ1, H1, I1, q1⟩ => ?_)
    exact h2 pins s1 σ1 H1 _ _ Q I1 rr q1
/-- (a, b, ..) = a tuple of that length -/
inductive gTup (K : PySem.W.Frag) (n : Nat) (t : TGs) : V → St → Hp → (St → Hp → Prop) → Prop
  | mk {v : V} {σ : St} {H : Hp} {Q : (St → Hp → Prop)} (a xs) (z_0 : v = .ref a) (z_1 : SqT K H a xs) (z_2 : xs.length = n) (z_3 : t xs σ H Q) : gTup K n t v σ H Q
theorem pg_tup {es : List Expr} {k : Nat} {t : TGs} {n : Nat} (hc : X.calm = true) (h : PGs X es t)
    (hn : (assignEach es X.env).length = n := by rfl) (hst : (assignEach es X.env).findIdx? (·.1) = none := by rfl) : PG X (.Tuple es k pos) (gTup X.K n t) := by
  intro pins s σ H v u Q I r hw
  obtain ⟨a, xs, e1, hq, hl, hw⟩ := hw
  subst e1
  cases r
  obtain ⟨its, rv, ht, hz⟩ := I.tuple hq
  refine assign_Tuple_tuple (I.ok.hd hc) ht (by simp [hn, ← hl, rv.length]) hst fun h' hx => ?_
  have I1 : Inv X pins σ H { s with heap := h' } := I.kept (t' := s.toks) fun b o e => hx b o (Nat.ne_of_lt (Heap.lt_size e)) e
  exact h pins _ σ H xs _ Q I1 (by simpa using rv) hw
/-- o[i] = .. -/
def gSub (to ti : TE) (t : TSet) : TG := fun v σ H Q => to σ H fun o H1 => ti σ H1 fun i H2 => t o i v H2 fun H3 => Q σ H3
theorem pg_sub {o i : Expr} {to ti : TE} {t : TSet} (ho : PE X o to) (hi : PE X i ti) (hs : PSet X t)
    (ha : ∀ v, assign (.Subscript o i pos) X.env v = (do
      let ov ← holding [v] (eval o X.env)
      let iv ← holding [v, ov] (eval i X.env)
      standAt pos
      holding [v, ov, iv] (setItem ov iv v)
      release [v, ov, iv] []) := by intro _; rfl) : PG X (.Subscript o i pos) (gSub to ti t) := by
  intro pins s σ H v u Q I r h
  rw [ha]
  refine wpAny_bind (wpAny_holding (thn (ho pins s σ H _ I h) fun ov s1 ⟨x, H1, I1, r1, q1⟩ => ?_))
  refine wpAny_bind (wpAny_holding (thn (hi pins s1 σ H1 _ I1 q1) fun iv s2 ⟨y, H2, I2, r2, q2⟩ => ?_))
  refine wpAny_bind (wpAny_standAt (wpAny_bind (wpAny_holding (thn (hs pins s2 σ H2 x y v ov iv u _ I2 r1 r2 r q2) fun _ s3 ⟨H3, I3, q3⟩ => ?_))))
  exact wpAny_release ⟨σ, H3, I3, q3⟩
/-- target = value -/
def tAsg (te : TE) (g : TG) : TS := fun D σ H => te σ H fun x H1 => g x σ H1 D.nx
theorem ps_asg {tg e : Expr} {te : TE} {g : TG} (he : PE X e te) (hg : PG X tg g) (hs : swapsWithSole [tg] e pos.line X.env = pure false := by rfl) (hw : swappedStores [tg] e X.env = pure none := by rfl)
    (h1 : (assignEach [tg] X.env).map (·.2) = [assign tg X.env] := by rfl) : PS X (.Assign [tg] e pos) (tAsg te g) := by
  intro pins s σ H D I h
  refine wpAny_Assign_stores (thn (he pins s σ H _ I h) fun v s1 ⟨x, H1, I1, r1, q1⟩ => ?_) hs hw
  rw [h1]
  exact thn (hg pins s1 σ H1 x v _ I1 r1 q1) fun _ s2 q => q
/-- name = value -/
theorem ps_set {i : Nat} {x : Str} {e : Expr} {te : TE} {pos' : Pos} (hN : X.N.Nodup) (hi : X.N[i]? = some x) (hx : Loc X.env.scope x) (he : PE X e te) (hs : swapsWith e (some (.Name x pos')) pos.line X.env = pure false := by rfl) (hf : X.fn x = true ∨ X.env.scope.names.lookup x = some .local := by first | exact .inl rfl | exact .inr rfl | assumption) :
    PS X (.Assign [.Name x pos'] e pos) (tAsg te (gName i)) := by
  intro pins s σ H D I h
  refine wpAny_Assign_Name (thn (he pins s σ H _ I h) fun v s1 ⟨y, H1, I1, r1, q1⟩ => ?_) hs
  exact store_ok I1 hN hi hx r1 (fun s2 I2 => ⟨_, H1, I2, q1⟩) hf
end
section
variable {X : Cx} {pos : Pos}
/-- the invariant W with its measure -/
def tWhile (c : TT) (tb : TS) : TS := fun D σ H => ∃ W : Nat → St → Hp → Prop, (∃ m, W m σ H) ∧ ∀ m σ H, W m σ H →
  c σ H fun b H1 => if b = true then ∃ N : St → Hp → Prop, (∀ σ' H', N σ' H' → ∃ m', m' < m ∧ W m' σ' H') ∧ tb { D with nx := N, ct := N, bk := D.nx } σ H1 else D.nx σ H1
theorem ps_while {c : Expr} {body : List Stmt} {tc : TT} {tb : TS} (hp : PassesOwn (model X.prog X.w) X.A X.env X.xe) (hc : PT X c tc) (hb : PSs X body tb) : PS X (.While c body [] pos) (tWhile tc tb) := by
  intro pins s σ H D I h
  obtain ⟨W, ⟨m0, w0⟩, turn⟩ := h
  refine wpAny_While (codeAny_whileLoop (fun n s' => ∃ σ' H', Inv X pins σ' H' s' ∧ W n σ' H') ?_ m0 ⟨σ, H, I, w0⟩)
  rintro n s1 ⟨σ1, H1, I1, w1⟩
  refine wpAny_passesOwn hp (thn (hc pins s1 σ1 H1 _ I1 (turn n σ1 H1 w1)) fun b s2 ⟨H2, I2, q2⟩ => ?_)
  cases b with
  | true =>
    obtain ⟨N, hN, q2⟩ := q2
    rw [if_pos rfl]
    refine wpAny_passesOwn hp (thn (hb pins s2 σ1 H2 _ I2 q2) fun f s3 q3 => ?_)
    cases f with
    | next =>
      obtain ⟨σ3, H3, I3, n3⟩ := q3
      obtain ⟨m', hm, w3⟩ := hN σ3 H3 n3
      exact ⟨m', hm, σ3, H3, I3, w3⟩
    | cont =>
      obtain ⟨σ3, H3, I3, n3⟩ := q3
      obtain ⟨m', hm, w3⟩ := hN σ3 H3 n3
      exact ⟨m', hm, σ3, H3, I3, w3⟩
    | brk => exact q3
    | ret v => exact q3
  | false =>
    rw [if_neg Bool.false_ne_true]
    exact wpAny_execs_nil ⟨σ1, H2, I2, q2⟩
end
/-- at turn i: it yields x (the heap may grow), or it stops -/
structure It where
  go : Nat → Hp → Prop
  yld : Nat → Hp → V → Hp → Prop
  stop : Nat → Hp → Prop
/-- the iterator's own objects may turn: they are not the frame's, not pinned, younger than the entry (or a comprehension's own) -/
def FpOk (X : Cx) (pins : List (Addr × Obj)) (H : Hp) (b : Addr) : Prop :=
  H b = none ∧ b ≠ X.env.locals ∧ b ∉ X.fs ∧ (b ∈ X.ex ∨ X.s₀.heap.objs.size ≤ b) ∧ (∀ x c, X.env.cells.lookup x = some c → c ≠ b) ∧ ∀ p ∈ X.pn ++ pins, p.1 ≠ b
theorem Inv.fpOk {X : Cx} {pins : List (Addr × Obj)} {σ : St} {H H' : Hp} {s : Shared} {b : Addr} (I : Inv X pins σ H s) (hb : s.heap.objs.size ≤ b) (hn : H' b = none) : FpOk X pins H' b := by
  refine ⟨hn, Nat.ne_of_gt (Nat.lt_of_lt_of_le I.lt hb), I.nofs hb, .inr (Nat.le_trans I.sz hb), fun x c e z => ?_, fun p hp z => ?_⟩
  · obtain ⟨v, q⟩ := I.cell x c e
    exact absurd (Nat.lt_of_lt_of_le q.lt (by rw [z]; exact hb)) (Nat.lt_irrefl _)
  · exact absurd (Nat.lt_of_lt_of_le (Heap.lt_size (I.pin p hp).1) (by rw [z]; exact hb)) (Nat.lt_irrefl _)
structure Turn (P : Program) (w : World) (K : PySem.W.Frag) (tg : Expr) (J : It) (fp : List Addr) (it : Addr) (tn : Nat → Heap → Prop) : Prop where
  mem : it ∈ fp
  obj : ∀ i h, tn i h → ∀ b ∈ fp, ∃ o, h.get? b = some o ∧ ∀ v, o.data ≠ .cell v
  keep : ∀ i h h', tn i h → (∀ b ∈ fp, ∀ o, h.get? b = some o → h'.get? b = some o) → tn i h'
  item : ∀ (X : Cx), X.prog = P → X.w = w → X.K = K → X.calm = true → ∀ (i : Nat) (pins : List (Addr × Obj)) (s : Shared) (σ : St) (H : Hp) (E : Value → Shared → Prop), Inv X pins σ H s → (∀ b ∈ fp, FpOk X pins H b) → tn i s.heap → J.go i H →
    wpAny (model P w) X.A (pyNext (.ref it)) (fun r s1 => ∃ u, r = some u ∧
      wpAny (model P w) X.A (letOwnedTupleGo tg (.ref it) u) (fun _ s2 => ∃ x H', Inv X pins σ H' s2 ∧ RelV x u ∧ J.yld i H x H' ∧ tn (i + 1) s2.heap ∧ ∀ b ∈ fp, H' b = none) E s1) E s
  done : ∀ (X : Cx), X.prog = P → X.w = w → X.K = K → X.calm = true → ∀ (i : Nat) (pins : List (Addr × Obj)) (s : Shared) (σ : St) (H : Hp) (E : Value → Shared → Prop), Inv X pins σ H s → (∀ b ∈ fp, FpOk X pins H b) → tn i s.heap → J.stop i H →
    wpAny (model P w) X.A (pyNext (.ref it)) (fun r s1 => r = none ∧ Inv X pins σ H s1) E s
  self : ∀ (A : Around) (i : Nat) (s : Shared) (Q : Value → Shared → Prop) (E : Value → Shared → Prop), tn i s.heap → Q (.ref it) s → wpAny (model P w) A (pyIter (.ref it)) Q E s
abbrev TI := St → Hp → (It → Hp → Prop) → Prop
/-- an iterator has come -/
def PIE (X : Cx) (pins : List (Addr × Obj)) (σ : St) (tg : Expr) (R : It → Hp → Prop) (itv : Value) (s2 : Shared) : Prop :=
  ∃ (it : Addr) (fp : List Addr) (tn : Nat → Heap → Prop) (J : It) (H' : Hp), itv = .ref it ∧ Inv X pins σ H' s2 ∧ Turn X.prog X.w X.K tg J fp it tn ∧ tn 0 s2.heap ∧ (∀ b ∈ fp, FpOk X pins H' b) ∧ R J H'
def PI (X : Cx) (tg iter : Expr) (wi : TI) : Prop :=
  ∀ (pins : List (Addr × Obj)) (s : Shared) (σ : St) (H : Hp) (R : It → Hp → Prop), Inv X pins σ H s → wi σ H R →
    wpAny (model X.prog X.w) X.A (eval iter X.env) (fun v s1 => wpAny (model X.prog X.w) X.A (pyIter v) (PIE X pins σ tg R) X.xe s1) X.xe s
/-- the step ahead of the store is nothing for an iterator that keeps no tuple -/
theorem go_of {M : Model} {A : Around} {E : Value → Shared → Prop} {s : Shared} {tg : Expr} {it : Addr} {u : Value} {o : Obj} {n : String} {vs : Array Value} {Q : Unit → Shared → Prop} (ho : s.heap.get? it = some o) (hc : o.cls = .type n) (hd : o.data = .fields vs)
    (hn : ["enumerate", "zip", "dict_itemiterator", "dict_reverseitemiterator", "odict_iterator", "itertools.zip_longest", "itertools.pairwise"].contains n = false) (hQ : Q () s) : wpAny M A (letOwnedTupleGo tg (.ref it) u) Q E s := by
  unfold letOwnedTupleGo
  cases tg <;> first
    | exact wpAny_pure hQ
    | (cases u <;> first
        | exact wpAny_pure hQ
        | (refine wpAny_bind (wpAny_load ho ?_)
           rw [hc, hd]
           show wpAny M A (if (["enumerate", "zip", "dict_itemiterator", "dict_reverseitemiterator", "odict_iterator", "itertools.zip_longest", "itertools.pairwise"].contains n && vs[0]? == some (rawInt _)) = true then _ else _) Q E s
           rw [if_neg (by intro h; rw [hn, Bool.false_and] at h; cases h)]
           exact wpAny_pure hQ))
/-- the list at a, as it stands at each turn (a loop may append to it) -/
def Itl (K : PySem.W.Frag) (a : Addr) : It :=
  ⟨fun i H => ∃ xs x, SqL K H a xs ∧ xs[i]? = some x, fun i H x H' => H' = H ∧ ∀ xs, SqL K H a xs → xs[i]? = some x, fun i H => ∃ xs, SqL K H a xs ∧ xs.length ≤ i⟩
/-- lo, lo + 1, .. (n of them) -/
def Itr (lo : Int) (n : Nat) : It := ⟨fun i _ => i < n, fun i H x H' => H' = H ∧ x = .int (lo + i), fun i _ => n ≤ i⟩
theorem turn_list {P : Program} {w : World} {K : PySem.W.Frag} {tg : Expr} (a it : Addr) : Turn P w K tg (Itl K a) [it] it (fun i h => h.IsListIter it a i) where
  mem := by simp
  obj := fun i h st b hb => by
    have e : b = it := by simpa using hb
    subst e
    obtain ⟨o, e, c, d⟩ := st
    exact ⟨o, e, fun v z => by rw [d] at z; cases z⟩
  keep := fun i h h' st k => st.at fun o e => k it (by simp) o e
  item := by
    intro X hP hw hK hc i pins s σ H E I hf st hg
    subst hP hw hK
    obtain ⟨xs, x, hq, hx⟩ := hg
    obtain ⟨its, rv, p, hz⟩ := I.list hq
    obtain ⟨u, hu, ru⟩ := rv.get hx
    obtain ⟨f0, f1, f2, f3, f4, f5⟩ := hf it (by simp)
    refine wpAny_pyNext_list_item st p.isList (x := u) (by simpa using hu) fun h' st' sb => ?_
    have I1 : Inv X pins σ H { s with heap := h' } := I.turned (t' := s.toks) (fun b o hb e => (sb.2 b hb).trans e) f0 f1 f3 f4 f5
    obtain ⟨o, e, c, d⟩ := id st'
    exact ⟨u, rfl, go_of (s := { s with heap := h' }) e c d (by decide) ⟨x, H, I1, ru, ⟨rfl, fun ys hy => by rw [I.list_inj hy hq]; exact hx⟩, st', fun b hb => (hf b hb).1⟩⟩
  done := by
    intro X hP hw hK hc i pins s σ H E I hf st hg
    subst hP hw hK
    obtain ⟨xs, hq, hx⟩ := hg
    obtain ⟨its, rv, p, hz⟩ := I.list hq
    obtain ⟨f0, f1, f2, f3, f4, f5⟩ := hf it (by simp)
    have hl := rv.length
    exact wpAny_pyNext_list_end (I.ok.hd hc) st p.isList (by simp; (first | lia | omega)) fun h' eb => ⟨rfl, I.turned (t' := s.toks) (fun b o hb e => eb b o hb e) f0 f1 f3 f4 f5⟩
  self := fun _ _ _ _ _ st h => wpAny_pyIter_listiter st h
theorem turn_range {P : Program} {w : World} {K : PySem.W.Frag} {tg : Expr} (it : Addr) (lo : Int) (n : Nat) : Turn P w K tg (Itr lo n) [it] it (fun i h => IsRangeIter h it (lo + (i : Nat) * 1) ((n : Int) - (i : Nat)) 1) where
  mem := by simp
  obj := fun i h st b hb => by
    have e : b = it := by simpa using hb
    subst e
    exact ⟨_, st, fun v z => by
      have z' : Data.fields _ = Data.cell v := z
      cases z'⟩
  keep := fun i h h' st k => k it (by simp) _ st
  item := by
    intro X hP hw hK hc i pins s σ H E I hf st hg
    subst hP hw hK
    obtain ⟨f0, f1, f2, f3, f4, f5⟩ := hf it (by simp)
    have W := Walks.range (prog := X.prog) (w := X.w) (I.ok.hd hc) it lo 1 n
    refine W.item i s _ _ hg st fun v h' tk hv st' kk => ?_
    obtain ⟨t, rfl⟩ := hv
    have I1 : Inv X pins σ H { s with heap := h', toks := tk } := I.turned (fun b o hb e => kk b o (by simpa using hb) e) f0 f1 f3 f4 f5
    refine ⟨_, rfl, go_of (s := { s with heap := h', toks := tk }) (n := "range_iterator") st' rfl rfl (by decide) ⟨.int (lo + i), H, I1, ⟨t, ?_⟩, ⟨rfl, rfl⟩, st', fun b hb => (hf b hb).1⟩⟩
    rw [Int.mul_one]
  done := by
    intro X hP hw hK hc i pins s σ H E I hf st hg
    subst hP hw hK
    obtain ⟨f0, f1, f2, f3, f4, f5⟩ := hf it (by simp)
    exact wpAny_pyNext_range_end (I.ok.hd hc) st (by have : n ≤ i := hg; (first | lia | omega)) fun h' eb => ⟨rfl, I.turned (t' := s.toks) (fun b o hb e => eb b o hb e) f0 f1 f3 f4 f5⟩
  self := fun _ _ _ _ _ st h => wpAny_pyIter_rangeiter st h
end L2
namespace L2
open PySem PySem.Spec PyProof.Rows
section
variable {X : Cx} {tg : Expr}
inductive ILst (K : PySem.W.Frag) (x : V) (H : Hp) (R : It → Hp → Prop) : Prop
  | mk (a : Addr) (z_0 : x = .ref a) (z_1 : ∃ xs, SqL K H a xs) (z_2 : R (Itl K a) H) : ILst K x H R
def iList (K : PySem.W.Frag) (tl : TE) : TI := fun σ H R => tl σ H fun x H1 => ILst K x H1 R
theorem pi_list {l : Expr} {tl : TE} (hl : PE X l tl) : PI X tg l (iList X.K tl) := by
  intro pins s σ H R I h
  refine thn (hl pins s σ H _ I h) fun v s1 ⟨x, H1, I1, r1, q1⟩ => ?_
  obtain ⟨a, e, ⟨xs, hq⟩, q⟩ := q1
  subst e
  cases r1
  obtain ⟨its, rv, p, hz⟩ := I1.list hq
  refine wpAny_pyIter_list p.isList ?_
  refine ⟨s1.heap.objs.size, [s1.heap.objs.size], _, _, H1, rfl, I1.kept (t' := s1.toks) fun b o e => Heap.get?_push_of_some _ e, turn_list a _, ⟨_, Heap.get?_push_size _ rfl, rfl, rfl⟩, fun b hb => ?_, q⟩
  have e : b = s1.heap.objs.size := by simpa using hb
  subst e
  exact I1.fpOk (Nat.le_refl _) (I1.hok.fresh (Nat.le_refl _))
/-- a range object just made, walked -/
theorem range_it {pins : List (Addr × Obj)} {σ : St} {H : Hp} {s : Shared} {R : It → Hp → Prop} {E : Value → Shared → Prop} {lo hi : Int} {t u v : Tok} {tk : Nat} (I : Inv X pins σ H s) (h1 : -(2 ^ 62) ≤ lo) (h2 : lo < 2 ^ 62) (h3 : -(2 ^ 62) ≤ hi) (h4 : hi < 2 ^ 62)
    (q : R (Itr lo (hi - lo).toNat) H) : wpAny (model X.prog X.w) X.A (pyIter (.ref s.heap.objs.size)) (PIE X pins σ tg R) E { s with heap := s.heap.push { cls := .type "range", data := .fields #[.int lo t, .int hi u, .int 1 v] }, toks := tk } := by
  refine wpAny_pyIter_range (IsRange.new ..) (small_one h1 h2 h3 h4) ?_
  have I1 : Inv X pins σ H { s with heap := s.heap.push { cls := .type "range", data := .fields #[.int lo t, .int hi u, .int 1 v] }, toks := tk } := I.kept fun b o e => Heap.get?_push_of_some _ e
  refine ⟨(s.heap.push { cls := .type "range", data := .fields #[.int lo t, .int hi u, .int 1 v] }).objs.size, [(s.heap.push { cls := .type "range", data := .fields #[.int lo t, .int hi u, .int 1 v] }).objs.size], _, _, H, rfl,
    I1.kept (t' := tk) fun b o e => Heap.get?_push_of_some _ e, turn_range _ lo (hi - lo).toNat, ?_, fun b hb => ?_, q⟩
  · have e1 : lo + ((0 : Nat) : Int) * 1 = lo := by simp
    have e2 : (((hi - lo).toNat : Nat) : Int) - ((0 : Nat) : Int) = Builtin.Range.rangeSize lo hi 1 := by rw [rangeSize_one]; split <;> (first | lia | omega)
    show IsRangeIter _ _ (lo + ((0 : Nat) : Int) * 1) ((((hi - lo).toNat : Nat) : Int) - ((0 : Nat) : Int)) 1
    rw [e1, e2]
    exact Heap.get?_push_size _ rfl
  · have e : b = (s.heap.push { cls := .type "range", data := .fields #[.int lo t, .int hi u, .int 1 v] }).objs.size := by simpa using hb
    subst e
    exact I1.fpOk (Nat.le_refl _) (I1.hok.fresh (Nat.le_refl _))
inductive IRg (vs : List V) (H : Hp) (R : It → Hp → Prop) : Prop
  | mk (j : Int) (z_0 : vs = [.int j]) (z_1 : -(2 ^ 62) ≤ j) (z_2 : j < 2 ^ 62) (z_3 : R (Itr 0 j.toNat) H) : IRg vs H R
def iRng1 (ta : TA) : TI := fun σ H R => ta σ H fun vs H1 => IRg vs H1 R
def iRng2 (ta : TA) : TI := fun σ H R => ta σ H fun vs H1 => ∃ i j : Int, vs = [.int i, .int j] ∧ (-(2 ^ 62) ≤ i ∧ i < 2 ^ 62 ∧ -(2 ^ 62) ≤ j ∧ j < 2 ^ 62) ∧ R (Itr i (j - i).toNat) H1
theorem pi_range1 {a : Expr} {ta : TA} {p pos : Pos} (hg : Gl X "range") (hm : X.mg "range" = none) (ha : PA X [a] ta) (hs : starEach [a] X.env = [(false, eval a X.env)] := by rfl) : PI X tg (.Call (.Name "range" p) [a] [] pos) (iRng1 ta) := by
  intro pins s σ H R I h
  refine Call_ (ld_blt I hg hm boot_range (PyProof.Rows.callWith_type1 (thn (ha pos pins s σ H _ I h) fun us s1 ⟨vs, H1, I1, r1, q1⟩ => ?_) hs rfl))
  obtain ⟨j, e, q1, q2, q⟩ := q1
  subst e
  cases r1 with
  | cons r rr =>
    cases rr
    obtain ⟨t, rfl⟩ := r
    exact call_range_1 (range_it I1 (by (first | lia | omega)) (by (first | lia | omega)) q1 q2 (by simpa using q))
theorem pi_range2 {a b : Expr} {ta : TA} {p pos : Pos} (hg : Gl X "range") (hm : X.mg "range" = none) (ha : PA X [a, b] ta) (hs : starEach [a, b] X.env = [(false, eval a X.env), (false, eval b X.env)] := by rfl) (hs2 : starEach [b] X.env = [(false, eval b X.env)] := by rfl) :
    PI X tg (.Call (.Name "range" p) [a, b] [] pos) (iRng2 ta) := by
  intro pins s σ H R I h
  refine Call_ (ld_blt I hg hm boot_range (PyProof.Rows.callWith_type1 (thn (ha pos pins s σ H _ I h) fun us s1 ⟨vs, H1, I1, r1, q1⟩ => ?_) (by rw [hs, hs2]) (by rw [hs2]; rfl)))
  obtain ⟨i, j, e, ⟨q1, q2, q3, q4⟩, q⟩ := q1
  subst e
  cases r1 with
  | cons r rr =>
    cases rr with
    | cons r' rr =>
      cases rr
      obtain ⟨t, rfl⟩ := r
      obtain ⟨t', rfl⟩ := r'
      exact call_range_2 (range_it I1 q1 q2 q3 q4 q)
/-- W: the invariant by the turn and a measure; N: what the body is to reach -/
def tFor (wi : TI) (g : TG) (tb : TS) : TS := fun D σ H => wi σ H fun J H1 => ∃ W : Nat → Nat → St → Hp → Prop, (∃ m, W 0 m σ H1) ∧ ∀ i m σ H, W i m σ H →
  (J.stop i H ∧ D.nx σ H) ∨ (J.go i H ∧ ∃ N : St → Hp → Prop, (∀ σ' H', N σ' H' → ∃ m', m' < m ∧ W (i + 1) m' σ' H') ∧ ∀ x H', J.yld i H x H' → g x σ H' fun σ2 H2 => tb { D with nx := N, ct := N, bk := D.nx } σ2 H2)
/-- the records at fp as they stand -/
def pinsAt (fp : List Addr) (h : Heap) : List (Addr × Obj) := fp.filterMap fun b => (h.get? b).map fun o => (b, o)
theorem mem_pinsAt {fp : List Addr} {h : Heap} {b : Addr} {o : Obj} (hb : b ∈ fp) (e : h.get? b = some o) : (b, o) ∈ pinsAt fp h := List.mem_filterMap.mpr ⟨b, hb, by rw [e]; rfl⟩
theorem of_pinsAt {fp : List Addr} {h : Heap} {p : Addr × Obj} (hp : p ∈ pinsAt fp h) : p.1 ∈ fp ∧ h.get? p.1 = some p.2 := by
  obtain ⟨b, hb, e⟩ := List.mem_filterMap.mp hp
  cases q : h.get? b with
  | none => rw [q] at e; cases e
  | some o =>
    rw [q] at e
    have e' : (b, o) = p := Option.some.inj e
    subst e'
    exact ⟨hb, q⟩
theorem Inv.pinned {pins : List (Addr × Obj)} {σ : St} {H : Hp} {s : Shared} {fp : List Addr} (I : Inv X pins σ H s) (hf : ∀ b ∈ fp, FpOk X pins H b) (ho : ∀ b ∈ fp, ∃ o, s.heap.get? b = some o ∧ ∀ v, o.data ≠ .cell v) : Inv X (pins ++ pinsAt fp s.heap) σ H s :=
  I.pins_of fun p hp => (List.mem_append.mp hp).elim (fun z => I.pin p (List.mem_append_right _ z)) fun z => by
    obtain ⟨hb, e⟩ := of_pinsAt z
    obtain ⟨f0, f1, f2, _⟩ := hf p.1 hb
    obtain ⟨o, e', d⟩ := ho p.1 hb
    rw [e] at e'; cases e'
    exact ⟨e, f0, f1, f2, d⟩
theorem Inv.unpinned {pins pl : List (Addr × Obj)} {σ : St} {H : Hp} {s : Shared} (I : Inv X (pins ++ pl) σ H s) : Inv X pins σ H s := I.pins_of fun p hp => I.pin p (List.mem_append_right _ (List.mem_append_left _ hp))
theorem ps_for {iter : Expr} {body : List Stmt} {wi : TI} {g : TG} {tb : TS} {pos : Pos} (hp : PassesOwn (model X.prog X.w) X.A X.env X.xe) (hc : X.calm = true) (hi : PI X tg iter wi) (hg : PG X tg g) (hb : PSs X body tb)
    (hs : ∀ x, foldedSetIterable iter X.env x = pure x := by intro _; rfl) : PS X (.For tg iter body [] pos) (tFor wi g tb) := by
  intro pins s σ H D I h
  refine wpAny_For (thn (hi pins s σ H _ I h) fun v s1 h1 => thn h1 fun itv s2 h2 => ?_) hs
  obtain ⟨it, fp, tn, J, H2, e, I2, T, st2, f2, W, ⟨m0, w0⟩, turn⟩ := h2
  subst e
  -- what stays true of the iterator's objects through the loop
  have stat : ∀ {H' : Hp}, (∀ b ∈ fp, H' b = none) → ∀ b ∈ fp, FpOk X pins H' b := fun hn b hb => ⟨hn b hb, (f2 b hb).2⟩
  refine codeAny_forLoop_any (fun n s' => ∃ i σ' H', Inv X pins σ' H' s' ∧ tn i s'.heap ∧ (∀ b ∈ fp, H' b = none) ∧ W i n σ' H') ?_ m0 ⟨0, σ, H2, I2, st2, fun b hb => (f2 b hb).1, w0⟩
  rintro n s3 ⟨i, σ3, H3, I3, st3, fr3, w3⟩
  rcases turn i n σ3 H3 w3 with ⟨stop, qn⟩ | ⟨go, N, hN, step⟩
  · refine wpAny_passesOwn hp (thn (T.done X rfl rfl rfl hc i pins s3 σ3 H3 X.xe I3 (stat fr3) st3 stop) fun r s4 ⟨hr, I4⟩ => ?_)
    subst hr
    exact wpAny_execs_nil ⟨σ3, H3, I4, qn⟩
  · refine wpAny_passesOwn hp (thn (T.item X rfl rfl rfl hc i pins s3 σ3 H3 X.xe I3 (stat fr3) st3 go) fun r s4 ⟨u, hr, h4⟩ => ?_)
    subst hr
    refine wpAny_passesOwn hp (thn h4 fun _ s5 ⟨x, H5, I5, r5, y5, st5, fr5⟩ => ?_)
    have I5' := I5.pinned (stat fr5) (T.obj _ _ st5)
    refine wpAny_passesOwn hp (thn (hg _ s5 σ3 H5 x u _ I5' r5 (step x H5 y5)) fun _ s6 ⟨σ6, H6, I6, q6⟩ => ?_)
    refine wpAny_passesOwn hp (thn (hb _ s6 σ6 H6 _ I6 q6) fun f s7 q7 => ?_)
    have again : ∀ {σ7 : St} {H7 : Hp}, Inv X (pins ++ pinsAt fp s5.heap) σ7 H7 s7 → N σ7 H7 → ∃ m, m < n ∧ ∃ i σ' H', Inv X pins σ' H' s7 ∧ tn i s7.heap ∧ (∀ b ∈ fp, H' b = none) ∧ W i m σ' H' := fun {σ7 H7} I7 n7 => by
      obtain ⟨m', hm, w7⟩ := hN σ7 H7 n7
      refine ⟨m', hm, i + 1, σ7, H7, I7.unpinned, T.keep _ _ _ st5 fun b hb o e => (I7.pin (b, o) (List.mem_append_right _ (List.mem_append_right _ (mem_pinsAt hb e)))).1, fun b hb => ?_, w7⟩
      obtain ⟨o, e, d⟩ := T.obj _ _ st5 b hb
      exact (I7.pin (b, o) (List.mem_append_right _ (List.mem_append_right _ (mem_pinsAt hb e)))).2.1
    cases f with
    | next => obtain ⟨σ7, H7, I7, n7⟩ := q7; exact again I7 n7
    | cont => obtain ⟨σ7, H7, I7, n7⟩ := q7; exact again I7 n7
    | brk => obtain ⟨σ7, H7, I7, q7⟩ := q7; exact ⟨σ7, H7, I7.unpinned, q7⟩
    | ret v => obtain ⟨x7, σ7, H7, I7, r7, q7⟩ := q7; exact ⟨x7, σ7, H7, I7.unpinned, r7, q7⟩
end
/-- over a list that the body leaves as it is -/
theorem for_list {K : PySem.W.Frag} {a : Addr} {xs : List V} {g : TG} {tb : TS} {D : Ends} {σ : St} {H : Hp} (Pv : Nat → St → Hp → Prop) (h0 : Pv 0 σ H) (hl : ∀ i σ H, i ≤ xs.length → Pv i σ H → SqL K H a xs)
    (hs : ∀ i x σ H, xs[i]? = some x → Pv i σ H → g x σ H fun σ2 H2 => tb { D with nx := Pv (i + 1), ct := Pv (i + 1), bk := D.nx } σ2 H2) (hd : ∀ σ H, Pv xs.length σ H → D.nx σ H) :
    ∃ W : Nat → Nat → St → Hp → Prop, (∃ m, W 0 m σ H) ∧ ∀ i m σ H, W i m σ H →
      ((Itl K a).stop i H ∧ D.nx σ H) ∨ ((Itl K a).go i H ∧ ∃ N : St → Hp → Prop, (∀ σ' H', N σ' H' → ∃ m', m' < m ∧ W (i + 1) m' σ' H') ∧ ∀ x H', (Itl K a).yld i H x H' → g x σ H' fun σ2 H2 => tb { D with nx := N, ct := N, bk := D.nx } σ2 H2) := by
  refine ⟨fun i m σ H => m = xs.length - i ∧ i ≤ xs.length ∧ Pv i σ H, ⟨xs.length, by simp, Nat.zero_le _, h0⟩, ?_⟩
  rintro i m σ H ⟨rfl, hi, p⟩
  have q := hl i σ H hi p
  by_cases hlt : i < xs.length
  · refine .inr ⟨⟨xs, xs[i], q, by simp [hlt]⟩, Pv (i + 1), fun σ' H' p' => ⟨xs.length - (i + 1), by (first | lia | omega), rfl, hlt, p'⟩, fun x H' y => ?_⟩
    obtain ⟨e, y⟩ := y
    subst e
    exact hs i x σ _ (y xs q) p
  · have e : i = xs.length := by (first | lia | omega)
    subst e
    exact .inl ⟨⟨xs, q, Nat.le_refl _⟩, hd σ H p⟩
theorem for_range {lo : Int} {n : Nat} {g : TG} {tb : TS} {D : Ends} {σ : St} {H : Hp} (Pv : Nat → St → Hp → Prop) (h0 : Pv 0 σ H)
    (hs : ∀ i σ H, i < n → Pv i σ H → g (.int (lo + i)) σ H fun σ2 H2 => tb { D with nx := Pv (i + 1), ct := Pv (i + 1), bk := D.nx } σ2 H2) (hd : ∀ σ H, Pv n σ H → D.nx σ H) :
    ∃ W : Nat → Nat → St → Hp → Prop, (∃ m, W 0 m σ H) ∧ ∀ i m σ H, W i m σ H →
      ((Itr lo n).stop i H ∧ D.nx σ H) ∨ ((Itr lo n).go i H ∧ ∃ N : St → Hp → Prop, (∀ σ' H', N σ' H' → ∃ m', m' < m ∧ W (i + 1) m' σ' H') ∧ ∀ x H', (Itr lo n).yld i H x H' → g x σ H' fun σ2 H2 => tb { D with nx := N, ct := N, bk := D.nx } σ2 H2) := by
  refine ⟨fun i m σ H => m = n - i ∧ i ≤ n ∧ Pv i σ H, ⟨n, by simp, Nat.zero_le _, h0⟩, ?_⟩
  rintro i m σ H ⟨rfl, hi, p⟩
  by_cases hlt : i < n
  · refine .inr ⟨hlt, Pv (i + 1), fun σ' H' p' => ⟨n - (i + 1), by (first | lia | omega), rfl, hlt, p'⟩, fun x H' y => ?_⟩
    obtain ⟨e, y⟩ := y
    subst e y
    exact hs i σ _ hlt p
  · have e : i = n := by (first | lia | omega)
    subst e
    exact .inl ⟨Nat.le_refl _, hd σ H p⟩
/-- while, by a word and a measure of the state -/
theorem while_by {c : TT} {tb : TS} {D : Ends} {σ : St} {H : Hp} (Pv : St → Hp → Prop) (μ : St → Hp → Nat) (h0 : Pv σ H)
    (hs : ∀ σ H, Pv σ H → c σ H fun b H1 => if b = true then tb { D with nx := fun σ' H' => Pv σ' H' ∧ μ σ' H' < μ σ H, ct := fun σ' H' => Pv σ' H' ∧ μ σ' H' < μ σ H, bk := D.nx } σ H1 else D.nx σ H1)
    (mono : ∀ σ H Q Q', (∀ b H1, Q b H1 → Q' b H1) → c σ H Q → c σ H Q') : tWhile c tb D σ H := by
  refine ⟨fun m σ H => m = μ σ H ∧ Pv σ H, ⟨_, rfl, h0⟩, ?_⟩
  rintro m σ H ⟨rfl, p⟩
  refine mono σ H _ _ (fun b H1 q => ?_) (hs σ H p)
  cases b with
  | true => exact ⟨_, fun σ' H' ⟨p', l⟩ => ⟨_, l, rfl, p'⟩, q⟩
  | false => exact q
end L2
namespace L2
open PySem PySem.Spec PyProof.Rows
abbrev R2 := V → V → Hp → VK → Prop
/-- a two-place operation on values: f is binaryOp op, inplaceOp op or compareOp op -/
def OpR (X : Cx) (f : Value → Value → Sem Value) (r : R2) : Prop :=
  ∀ (pins : List (Addr × Obj)) (s : Shared) (σ : St) (H : Hp) (x y : V) (v u : Value) (Q : VK), Inv X pins σ H s → RelV x v → RelV y u → r x y H Q →
    wpAny (model X.prog X.w) X.A (f v u) (EP X pins σ Q) X.xe s
/-- a one-place operation -/
def UnR (X : Cx) (f : Value → Sem Value) (r : V → Hp → VK → Prop) : Prop :=
  ∀ (pins : List (Addr × Obj)) (s : Shared) (σ : St) (H : Hp) (x : V) (v : Value) (Q : VK), Inv X pins σ H s → RelV x v → r x H Q →
    wpAny (model X.prog X.w) X.A (f v) (EP X pins σ Q) X.xe s
/-- a call of a value that is known (a builtin, a type) with values -/
def CallR (X : Cx) (f : Value) (r : List V → Hp → VK → Prop) : Prop :=
  ∀ (pins : List (Addr × Obj)) (s : Shared) (σ : St) (H : Hp) (xs : List V) (us : List Value) (Q : VK), Inv X pins σ H s → Vals xs us → r xs H Q →
    wpAny (model X.prog X.w) X.A (call f us) (EP X pins σ Q) X.xe s
def tOp (r : R2) (ta tb : TE) : TE := fun σ H Q => ta σ H fun x H1 => tb σ H1 fun y H2 => r x y H2 Q
def tUn (r : V → Hp → VK → Prop) (ta : TE) : TE := fun σ H Q => ta σ H fun x H1 => r x H1 Q
/-- ints in, under C, and a value out -/
inductive rI (C : Int → Int → Prop) (g : Int → Int → V) : V → V → Hp → VK → Prop
  | mk {x : V} {y : V} {H : Hp} {Q : VK} (i j) (z_0 : x = .int i) (z_1 : y = .int j) (z_2 : C i j) (z_3 : Q (g i j) H) : rI C g x y H Q
inductive rI0 (g : Int → Int → V) : V → V → Hp → VK → Prop
  | mk {x : V} {y : V} {H : Hp} {Q : VK} (i j) (z_0 : x = .int i) (z_1 : y = .int j) (z_2 : Q (g i j) H) : rI0 g x y H Q
inductive rU (g : Int → V) : V → Hp → VK → Prop
  | mk {x : V} {H : Hp} {Q : VK} (i) (z_0 : x = .int i) (z_1 : Q (g i) H) : rU g x H Q
section
variable {X : Cx} {a b c : Expr} {ta tb tc : TE} {pos : Pos}
theorem binT (ha : PE X a ta) (hb : PE X b tb) {pins : List (Addr × Obj)} {s : Shared} {σ : St} {H : Hp} {R : V → V → Hp → Prop} (I : Inv X pins σ H s)
    (h : ta σ H fun x H1 => tb σ H1 fun y H2 => R x y H2) {Q : Value → Shared → Prop} {f : Value → Value → Sem Value}
    (hf : ∀ v u s2 x y H2, Inv X pins σ H2 s2 → RelV x v → RelV y u → R x y H2 → wpAny (model X.prog X.w) X.A (f v u) Q X.xe s2) :
    wpAny (model X.prog X.w) X.A (eval a X.env) (fun v s₁ => wpAny (model X.prog X.w) X.A (eval b X.env) (fun u s₂ => wpAny (model X.prog X.w) X.A (f v u) Q X.xe s₂) X.xe s₁) X.xe s := by
  refine thn (ha pins s σ H _ I h) fun v s1 ⟨x, H1, I1, r1, q1⟩ => ?_
  refine thn (hb pins s1 σ H1 _ I1 q1) fun u s2 ⟨y, H2, I2, r2, q2⟩ => ?_
  exact hf v u s2 x y H2 I2 r1 r2 q2
theorem pe_op {op : Operator} {r : R2} (ho : OpR X (binaryOp op) r) (ha : PE X a ta) (hb : PE X b tb) : PE X (.BinOp a op b pos) (tOp r ta tb) := by
  intro pins s σ H Q I h
  exact wpAny_BinOp (binT ha hb I h fun v u s2 x y H2 I2 rx ry q => ho pins s2 σ H2 x y v u Q I2 rx ry q)
theorem pe_un {op : UnaryOp} {r : V → Hp → VK → Prop} (ho : UnR X (unaryOp op) r) (ha : PE X a ta) : PE X (.UnaryOp op a pos) (tUn r ta) := by
  intro pins s σ H Q I h
  exact UnaryOp_ (thn (ha pins s σ H _ I h) fun v s1 ⟨x, H1, I1, r1, q1⟩ => ho pins s1 σ H1 x v Q I1 r1 q1)
theorem opI {f : Value → Value → Sem Value} {C : Int → Int → Prop} {g : Int → Int → Int}
    (rule : ∀ (i j : Int) (t u : Tok) (s : Shared) (Q : Value → Shared → Prop) (E : Value → Shared → Prop), C i j → Q (.int (g i j) s.toks) { s with toks := s.toks + 1 } → wpAny (model X.prog X.w) X.A (f (.int i t) (.int j u)) Q E s) :
    OpR X f (rI C fun i j => .int (g i j)) := by
  intro pins s σ H x y v u Q I rx ry h
  obtain ⟨i, j, rfl, rfl, hc, q⟩ := h
  obtain ⟨t, rfl⟩ := rx
  obtain ⟨t', rfl⟩ := ry
  exact rule i j t t' s _ _ hc ⟨.int (g i j), H, I.tok _, ⟨_, rfl⟩, q⟩
theorem opI0 {f : Value → Value → Sem Value} {g : Int → Int → Int}
    (rule : ∀ (i j : Int) (t u : Tok) (s : Shared) (Q : Value → Shared → Prop) (E : Value → Shared → Prop), Q (.int (g i j) s.toks) { s with toks := s.toks + 1 } → wpAny (model X.prog X.w) X.A (f (.int i t) (.int j u)) Q E s) :
    OpR X f (rI0 fun i j => .int (g i j)) := by
  intro pins s σ H x y v u Q I rx ry h
  obtain ⟨i, j, rfl, rfl, q⟩ := h
  obtain ⟨t, rfl⟩ := rx
  obtain ⟨t', rfl⟩ := ry
  exact rule i j t t' s _ _ ⟨.int (g i j), H, I.tok _, ⟨_, rfl⟩, q⟩
theorem opB0 {f : Value → Value → Sem Value} {g : Int → Int → Bool}
    (rule : ∀ (i j : Int) (t u : Tok) (s : Shared) (Q : Value → Shared → Prop) (E : Value → Shared → Prop), Q (.bool (g i j)) s → wpAny (model X.prog X.w) X.A (f (.int i t) (.int j u)) Q E s) :
    OpR X f (rI0 fun i j => .bl (g i j)) := by
  intro pins s σ H x y v u Q I rx ry h
  obtain ⟨i, j, rfl, rfl, q⟩ := h
  obtain ⟨t, rfl⟩ := rx
  obtain ⟨t', rfl⟩ := ry
  exact rule i j t t' s _ _ ⟨.bl (g i j), H, I, rfl, q⟩
def CDiv (i j : Int) : Prop := 0 < j ∧ j < 1073741824
def CMul (i j : Int) : Prop := (-(2 ^ 64) < i ∧ i < 2 ^ 64) ∨ (-(2 ^ 64) < j ∧ j < 2 ^ 64)
theorem CMul.ok {i j : Int} (h : CMul i j) : IntMulOk i j := by
  rcases h with ⟨h1, h2⟩ | ⟨h1, h2⟩
  · exact .of_left (intBits_le_64 h1 h2)
  · exact .of_right (intBits_le_64 h1 h2)
theorem op_add : OpR X (binaryOp .Add) (rI0 fun i j => .int (i + j)) := opI0 fun _ _ _ _ _ _ _ q => add_int q
theorem op_sub : OpR X (binaryOp .Sub) (rI0 fun i j => .int (i - j)) := opI0 fun _ _ _ _ _ _ _ q => sub_int q
theorem op_mul : OpR X (binaryOp .Mult) (rI CMul fun i j => .int (i * j)) := opI fun _ _ _ _ _ _ _ hc q => mul_int q hc.ok
/-- // by a positive divisor -/
theorem op_fdiv : OpR X (binaryOp .FloorDiv) (rI CDiv fun i j => .int (i / j)) := opI fun i j _ _ _ _ _ hc q => by
  have h1 : (0 : Int) < j := hc.1
  have h2 : j < 1073741824 := hc.2
  exact floordiv_int (by (first | lia | omega)) (by rw [Int.fdiv_eq_ediv_of_nonneg i (by (first | lia | omega))]; exact q) (.inl (PyProof.noPylong_small (by (first | lia | omega))))
/-- % by a positive divisor of any size -/
theorem op_mod : OpR X (binaryOp .Mod) (rI (fun _ j => 0 < j) fun i j => .int (i % j)) := opI fun i j _ _ _ _ _ hc q => by
  have h1 : (0 : Int) < j := hc
  exact mod_int' (by (first | lia | omega)) (by rw [Int.fmod_eq_emod_of_nonneg i (by (first | lia | omega))]; exact q)
theorem unI {f : Value → Sem Value} {g : Int → Int}
    (rule : ∀ (i : Int) (t : Tok) (s : Shared) (Q : Value → Shared → Prop) (E : Value → Shared → Prop), Q (.int (g i) s.toks) { s with toks := s.toks + 1 } → wpAny (model X.prog X.w) X.A (f (.int i t)) Q E s) :
    UnR X f (rU fun i => .int (g i)) := by
  intro pins s σ H x v Q I rx h
  obtain ⟨i, rfl, q⟩ := h
  obtain ⟨t, rfl⟩ := rx
  exact rule i t s _ _ ⟨.int (g i), H, I.tok _, ⟨_, rfl⟩, q⟩
theorem un_neg : UnR X (unaryOp .USub) (rU fun i => .int (-i)) := unI fun _ _ _ _ _ q => neg_int q
end
/-- the scalars that == tells apart as data does -/
def scal : V → V → Bool
  | .non, .non => true | .non, .int _ => true | .int _, .non => true | .non, .bl _ => true | .bl _, .non => true | .non, .str _ => true | .str _, .non => true
  | .int _, .int _ => true | .bl _, .bl _ => true | .str _, .str _ => true | .byt _, .byt _ => true
  | .int _, .str _ => true | .str _, .int _ => true | .bl _, .str _ => true | .str _, .bl _ => true
  | _, _ => false
def rEq : R2 := fun x y H Q => scal x y = true ∧ Q (.bl (decide (x = y))) H
def rNe : R2 := fun x y H Q => scal x y = true ∧ Q (.bl (!decide (x = y))) H
theorem dec_int {i j : Int} : decide (V.int i = V.int j) = (i == j) := by
  rw [Bool.eq_iff_iff]
  simp
theorem dec_bl {i j : Bool} : decide (V.bl i = V.bl j) = (i == j) := by
  rw [Bool.eq_iff_iff]
  simp
theorem dec_str {i j : Str} : decide (V.str i = V.str j) = (i == j) := by
  rw [Bool.eq_iff_iff]
  simp
theorem dec_byt {i j : Array UInt8} : decide (V.byt i = V.byt j) = (i.toList == j.toList) := by
  rw [Bool.eq_iff_iff]
  cases i
  cases j
  simp
section
variable {X : Cx} {a b c : Expr} {ta tb tc : TE} {pos : Pos}
theorem fin_bl {pins : List (Addr × Obj)} {σ : St} {H : Hp} {s : Shared} {Q : VK} {k k' : Bool} (I : Inv X pins σ H s) (q : Q (.bl k) H) (e : k = k') : EP X pins σ Q (.bool k') s := by
  subst e
  exact ⟨.bl k, H, I, rfl, q⟩
theorem op_eq : OpR X (compareOp .Eq) rEq := by
  intro pins s σ H x y v u Q I rx ry h
  obtain ⟨hs, q⟩ := h
  cases x with
  | non =>
    cases rx
    cases y with
    | non => cases ry; exact PySem.EqNone.eq_none_none (fin_bl I q (by simp))
    | bl j => cases ry; exact PySem.EqNone.eq_none_bool (fin_bl I q (by simp))
    | int j => obtain ⟨t', rfl⟩ := ry; exact PySem.EqNone.eq_none_int (fin_bl I q (by simp))
    | str j => obtain ⟨t', rfl⟩ := ry; exact PySem.EqNone.eq_none_str (fin_bl I q (by simp))
    | _ => exact absurd (show false = true from hs) Bool.false_ne_true
  | bl i =>
    cases rx
    cases y with
    | non => cases ry; exact PySem.EqNone.eq_bool_none (fin_bl I q (by simp))
    | bl j => cases ry; exact eq_bool (fin_bl I q dec_bl)
    | str j => obtain ⟨t', rfl⟩ := ry; exact PySem.EqMixed.eq_bool_str (fin_bl I q (by simp))
    | _ => exact absurd (show false = true from hs) Bool.false_ne_true
  | int i =>
    obtain ⟨t, rfl⟩ := rx
    cases y with
    | non => cases ry; exact PySem.EqNone.eq_int_none (fin_bl I q (by simp))
    | int j => obtain ⟨t', rfl⟩ := ry; exact eq_int (fin_bl I q dec_int)
    | str j => obtain ⟨t', rfl⟩ := ry; exact PySem.EqMixed.eq_int_str (fin_bl I q (by simp))
    | _ => exact absurd (show false = true from hs) Bool.false_ne_true
  | str i =>
    obtain ⟨t, rfl⟩ := rx
    cases y with
    | non => cases ry; exact PySem.EqNone.eq_str_none (fin_bl I q (by simp))
    | bl j => cases ry; exact PySem.EqMixed.eq_str_bool (fin_bl I q (by simp))
    | int j => obtain ⟨t', rfl⟩ := ry; exact PySem.EqMixed.eq_str_int (fin_bl I q (by simp))
    | str j => obtain ⟨t', rfl⟩ := ry; exact eq_str (fin_bl I q dec_str)
    | _ => exact absurd (show false = true from hs) Bool.false_ne_true
  | byt i =>
    obtain ⟨t, rfl⟩ := rx
    cases y with
    | byt j => obtain ⟨t', rfl⟩ := ry; exact PySem.W.eq_bytes (fin_bl I q dec_byt)
    | _ => exact absurd (show false = true from hs) Bool.false_ne_true
  | _ => cases y <;> exact absurd (show false = true from hs) Bool.false_ne_true
theorem op_ne : OpR X (compareOp .NotEq) rNe := by
  intro pins s σ H x y v u Q I rx ry h
  obtain ⟨hs, q⟩ := h
  cases x with
  | non =>
    cases rx
    cases y with
    | non => cases ry; exact PySem.EqNone.ne_none_none (fin_bl I q (by simp))
    | bl j => cases ry; exact PySem.EqNone.ne_none_bool (fin_bl I q (by simp))
    | int j => obtain ⟨t', rfl⟩ := ry; exact PySem.EqNone.ne_none_int (fin_bl I q (by simp))
    | str j => obtain ⟨t', rfl⟩ := ry; exact PySem.EqNone.ne_none_str (fin_bl I q (by simp))
    | _ => exact absurd (show false = true from hs) Bool.false_ne_true
  | bl i =>
    cases rx
    cases y with
    | non => cases ry; exact PySem.EqNone.ne_bool_none (fin_bl I q (by simp))
    | bl j => cases ry; exact ne_bool (fin_bl I q (congrArg not dec_bl))
    | str j => obtain ⟨t', rfl⟩ := ry; exact PySem.EqMixed.ne_bool_str (fin_bl I q (by simp))
    | _ => exact absurd (show false = true from hs) Bool.false_ne_true
  | int i =>
    obtain ⟨t, rfl⟩ := rx
    cases y with
    | non => cases ry; exact PySem.EqNone.ne_int_none (fin_bl I q (by simp))
    | int j => obtain ⟨t', rfl⟩ := ry; exact ne_int (fin_bl I q (congrArg not dec_int))
    | str j => obtain ⟨t', rfl⟩ := ry; exact PySem.EqMixed.ne_int_str (fin_bl I q (by simp))
    | _ => exact absurd (show false = true from hs) Bool.false_ne_true
  | str i =>
    obtain ⟨t, rfl⟩ := rx
    cases y with
    | non => cases ry; exact PySem.EqNone.ne_str_none (fin_bl I q (by simp))
    | bl j => cases ry; exact PySem.EqMixed.ne_str_bool (fin_bl I q (by simp))
    | int j => obtain ⟨t', rfl⟩ := ry; exact PySem.EqMixed.ne_str_int (fin_bl I q (by simp))
    | str j => obtain ⟨t', rfl⟩ := ry; exact ne_str (fin_bl I q (congrArg not dec_str))
    | _ => exact absurd (show false = true from hs) Bool.false_ne_true
  | byt i =>
    obtain ⟨t, rfl⟩ := rx
    cases y with
    | byt j => obtain ⟨t', rfl⟩ := ry; exact PySem.W.ne_bytes (fin_bl I q (congrArg not dec_byt))
    | _ => exact absurd (show false = true from hs) Bool.false_ne_true
  | _ => cases y <;> exact absurd (show false = true from hs) Bool.false_ne_true
theorem op_lt : OpR X (compareOp .Lt) (rI0 fun i j => .bl (decide (i < j))) := opB0 fun _ _ _ _ _ _ _ q => lt_int q
theorem op_le : OpR X (compareOp .LtE) (rI0 fun i j => .bl (decide (i ≤ j))) := opB0 fun _ _ _ _ _ _ _ q => le_int q
theorem op_gt : OpR X (compareOp .Gt) (rI0 fun i j => .bl (decide (j < i))) := opB0 fun _ _ _ _ _ _ _ q => gt_int q
theorem op_ge : OpR X (compareOp .GtE) (rI0 fun i j => .bl (decide (j ≤ i))) := opB0 fun _ _ _ _ _ _ _ q => ge_int q
theorem op_notN : OpR X (compareOp .IsNot) (fun x y H Q => y = .non ∧ Q (.bl (!decide (x = .non))) H) := by
  intro pins s σ H x y v u Q I rx ry h
  obtain ⟨rfl, q⟩ := h
  cases ry
  refine isnot_none_gen (fin_bl I q ?_)
  cases x <;> first
    | (cases rx; rfl)
    | (obtain ⟨t, rfl⟩ := rx; rfl)
/-- is, is not of two objects that are tracked lists or instances -/
def isObj : HO → Bool
  | .lst _ => true
  | .ins _ _ _ => true
  | _ => false
theorem obj_there {pins : List (Addr × Obj)} {s : Shared} {σ : St} {H : Hp} {a : Addr} {o : HO} (I : Inv X pins σ H s) (h : H a = some o) (p : isObj o = true) : ∃ ob, s.heap.get? a = some ob ∧ ob.cls ≠ .type "tuple" := by
  cases o with
  | lst xs =>
    obtain ⟨_, its, n, _, e⟩ : xs.length ≤ sizeLine ∧ ∃ (its : List Value) (n : Nat), Vals xs its ∧ s.heap.get? a = some { cls := .type "list", data := .seq its.toArray n } := I.hok a _ h
    exact ⟨_, e, (by show Value.type "list" ≠ .type "tuple"; decide +kernel)⟩
  | ins C dx fs =>
    have x := I.hok a _ h
    obtain ⟨_, _, _, e, _⟩ := x
    exact ⟨_, e, (by show Value.ref C ≠ .type "tuple"; exact fun z => by cases z)⟩
  | _ => exact absurd (show false = true from p) Bool.false_ne_true
theorem nomark (b : Expr) {op : CmpOp} (h : op ≠ .In := by decide) (h2 : op ≠ .NotIn := by decide) : behindInMarks op b = false := by
  have e1 : (op == CmpOp.In) = false := by cases op <;> first | rfl | exact absurd rfl h
  have e2 : (op == CmpOp.NotIn) = false := by cases op <;> first | rfl | exact absurd rfl h2
  cases b <;> simp [behindInMarks, e1, e2]
/-- a comparison as a value; hm: nomark b, or (for in, not in) by with_unfolding_all rfl -/
theorem pe_cmpR {op : CmpOp} {r : R2} (ho : OpR X (compareOp op) r) (ha : PE X a ta) (hb : PE X b tb) (hm : behindInMarks op b = false) : PE X (.Compare a [op] [b] pos) (tOp r ta tb) := by
  intro pins s σ H Q I h
  exact wpAny_Compare1 (binT ha hb I h fun v u s2 x y H2 I2 rx ry q => ho pins s2 σ H2 x y v u Q I2 rx ry q) hm
/-- a reading of a value as a test -/
def tTest (t : TE) : TT := fun σ H Q => t σ H fun x H' => IsBl x H' Q
theorem pt_cmpR {op : CmpOp} {r : R2} (ho : OpR X (compareOp op) r) (ha : PE X a ta) (hb : PE X b tb) (hm : behindInMarks op b = false) : PT X (.Compare a [op] [b] pos) (tTest (tOp r ta tb)) := by
  intro pins s σ H Q I h
  refine wpAny_isTrue_Compare1 (thn (ha pins s σ H _ I h) fun v s1 ⟨x, H1, I1, r1, q1⟩ => thn (hb pins s1 σ H1 _ I1 q1) fun u s2 ⟨y, H2, I2, r2, q2⟩ =>
    thn (ho pins s2 σ H2 x y v u _ I2 r1 r2 q2) fun c s3 ⟨z, H3, I3, r3, k, e, q3⟩ => ?_) hm
  subst e
  cases r3
  exact wpAny_truthy_bool ⟨H3, I3, q3⟩
/-- a op1 b op2 c -/
def tChain (r r' : R2) (ta tb tc : TE) : TE := fun σ H Q => ta σ H fun x H1 => tb σ H1 fun y H2 => r x y H2 fun z H3 => ∃ k, z = .bl k ∧
  (if k = true then tc σ H3 fun w' H4 => r' y w' H4 Q else Q (.bl false) H3)
theorem line63 : (sizeLine : Nat) < 2 ^ 63 := by rw [sizeLine_eq]; decide
theorem vals1 {x : V} {us : List Value} (r : Vals [x] us) : ∃ u, us = [u] ∧ RelV x u := by
  cases r with
  | cons r1 r2 => cases r2; exact ⟨_, rfl, r1⟩
theorem vals2 {x y : V} {us : List Value} (r : Vals [x, y] us) : ∃ u w', us = [u, w'] ∧ RelV x u ∧ RelV y w' := by
  cases r with
  | cons r1 r2 =>
    cases r2 with
    | cons r3 r4 => cases r4; exact ⟨_, _, rfl, r1, r3⟩
theorem call_min2 (hc : X.calm = true) : CallR X (.builtin "min") (fun xs H Q => ∃ i j, xs = [.int i, .int j] ∧ Q (.int (if j < i then j else i)) H) := by
  intro pins s σ H xs us Q I r h
  obtain ⟨i, j, rfl, q⟩ := h
  obtain ⟨u, w', rfl, ⟨t, rfl⟩, ⟨t', rfl⟩⟩ := vals2 r
  refine min_two_ints (I.ok.hd hc) fun h' tk k => ⟨_, H, I.kept k, ?_, q⟩
  by_cases hj : j < i
  · rw [if_pos hj, if_pos hj]; exact ⟨_, rfl⟩
  · rw [if_neg hj, if_neg hj]; exact ⟨_, rfl⟩
theorem call_int1 : CallR X (.type "int") (fun xs H Q => (∃ i, xs = [.int i] ∧ Q (.int i) H) ∨ ∃ k, xs = [.bl k] ∧ Q (.int (if k then 1 else 0)) H) := by
  intro pins s σ H xs us Q I r h
  rcases h with ⟨i, rfl, q⟩ | ⟨k, rfl, q⟩
  · obtain ⟨u, rfl, t, rfl⟩ := vals1 r
    exact call_int_int ⟨.int i, H, I, ⟨_, rfl⟩, q⟩
  · obtain ⟨u, rfl, r1⟩ := vals1 r
    cases r1
    exact call_int_bool ⟨.int (if k then 1 else 0), H, I.tok _, ⟨_, rfl⟩, q⟩
end
end L2
namespace L2
open PySem PySem.Spec PyProof.Rows
section
variable {prog : Program} {w : World} {A : Around} {E : Value → Shared → Prop} {s : Shared} {K : PySem.W.Frag} {x dx C f : Addr} {mA : Str → Option Value} {name : Str} {v : Value}
end
section
variable {P : Program} {w : World} {H H' : Hp} {h h' : Heap} {a C dx : Addr} {fs fs' : List (Str × V)}
end
structure Cls (K : PySem.W.Frag) (C : Addr) : Prop where
  pg : PySem.W.plainGet K C Str.empty = true
  hd : PySem.W.hasDictIn K C = true
  po : PySem.W.plainOver K C = true
  sa : PySem.W.findIn K (.ref C) "__setattr__" = some (some (.builtin "object.__setattr__"))
section
variable {X : Cx} {pins : List (Addr × Obj)} {σ : St} {H : Hp} {s : Shared} {a C dx : Addr} {fs : List (Str × V)} {f : Str} {v : V} {A : Around} {E : Value → Shared → Prop}
end
section
variable {X : Cx} {o e value : Expr} {f : Str} {pos pos' tpos : Pos} {ta tv : TE}
end
section
variable {X : Cx} {pins : List (Addr × Obj)} {σ : St} {H : Hp} {s : Shared} {A : Around} {E : Value → Shared → Prop} {Q : Value → Shared → Prop} {c : Value} {b : Bool}
end
end L2
namespace L2
open PySem PySem.Spec PyProof.Rows
structure Room (k : Nat) (A : Around) : Prop where
  hd : A.handled = none
  dp : A.depth + 3 * k + 5 < recursionLimit
  un : A.units + 16 * k + 200 < cLine
theorem Room.mono {j k : Nat} {A : Around} (r : Room k A) (h : j ≤ k) : Room j A := ⟨r.hd, by have := r.dp; (first | lia | omega), by have := r.un; (first | lia | omega)⟩
theorem Room.deeper {k : Nat} {A : Around} (r : Room (k + 1) A) (env : Env) : Room k (A.deeper env) :=
  ⟨r.hd, by have := r.dp; show A.depth + 1 + 3 * k + 5 < _; (first | lia | omega), by have := r.un; show A.units + 3 + 16 * k + 200 < _; (first | lia | omega)⟩
theorem Room.depth {k : Nat} {A : Around} (r : Room k A) : A.depth < recursionLimit := by have := r.dp; (first | lia | omega)
theorem Room.units {k : Nat} {A : Around} (r : Room k A) : A.units + 64 < cLine := by have := r.un; (first | lia | omega)
def tNil : TA := fun _ H Q => Q [] H
def tCons (ta : TE) (tr : TA) : TA := fun σ H Q => ta σ H fun x H1 => tr σ H1 fun xs H2 => Q (x :: xs) H2
section
variable {X : Cx} {e : Expr} {es : List Expr} {te : TE} {t : TA} {pos : Pos}
theorem pa_nil : PA X [] tNil := fun _ _ _ _ H Q I h => Calls.spliced_nil ⟨[], H, I, .nil, h⟩
theorem pa_cons (ha : PE X e te) (hr : PA X es t) (hs : starEach (e :: es) X.env = (false, eval e X.env) :: starEach es X.env := by rfl) : PA X (e :: es) (tCons te t) := by
  intro pos pins s σ H Q I h
  rw [hs]
  show wpAny _ _ (spliced ((false, eval e X.env) :: backTo pos (starEach es X.env))) _ _ s
  refine Calls.spliced_cons (thn (ha pins s σ H _ I h) fun u s1 ⟨x, H1, I1, r1, q1⟩ => ?_)
  exact thn (hr pos pins s1 σ H1 _ I1 q1) fun us s2 ⟨xs, H2, I2, r2, q2⟩ => ⟨x :: xs, H2, I2, .cons r1 r2, q2⟩
/-- a tuple, a list of written items -/
def tTup (t : TA) : TE := fun σ H Q => t σ H fun xs H1 => xs.length ≤ sizeLine ∧ ∀ p, H1 p = none → Q (.ref p) (upd H1 p (.tup xs))
def tLst (t : TA) : TE := fun σ H Q => t σ H fun xs H1 => xs.length ≤ sizeLine ∧ ∀ p, H1 p = none → Q (.ref p) (upd H1 p (.lst xs))
theorem pe_tup {x1} (h : PA X es t) : PE X (.Tuple es x1 pos) (tTup t) := by
  intro pins s σ H Q I hq
  refine wpAny_Tuple_spliced (thn (h pos pins s σ H _ I hq) fun us s1 ⟨xs, H1, I1, r, z, q⟩ => ⟨by rw [← r.length]; exact z, ?_⟩)
  have hf : H1 s1.heap.objs.size = none := I1.hok.fresh (Nat.le_refl _)
  refine ⟨.ref s1.heap.objs.size, upd H1 s1.heap.objs.size (.tup xs), I1.laid (t' := s1.toks) (fun b u e => Heap.get?_push_of_some _ e) (Nat.le_refl _) ?_, rfl, q _ hf⟩
  exact ⟨z, us, r, ⟨_, Heap.get?_push_size _ rfl, rfl, _, rfl⟩⟩
theorem pe_lst (h : PA X es t) : PE X (.List es pos) (tLst t) := by
  intro pins s σ H Q I hq
  refine wpAny_List_spliced (thn (h pos pins s σ H _ I hq) fun us s1 ⟨xs, H1, I1, r, z, q⟩ => ⟨by rw [← r.length]; exact z, ?_⟩)
  have hf : H1 s1.heap.objs.size = none := I1.hok.fresh (Nat.le_refl _)
  refine ⟨.ref s1.heap.objs.size, upd H1 s1.heap.objs.size (.lst xs), I1.laid (t' := s1.toks) (fun b u e => Heap.get?_push_of_some _ e) (Nat.le_refl _) ?_, rfl, q _ hf⟩
  exact ⟨z, us, 0, r, Heap.get?_push_size _ rfl⟩
end
/-- a def's promise: the bound arguments in the parameters' order, the heap, the wanted end, the wanted exception -/
abbrev Sp := List V → Hp → VK → XK → Prop
/-- how an exception lies behind a call (file 08 gives it): the callers' frames, abstract heap and state ahead of the call, the wish, the exception, the state -/
abbrev CXT := List Env → Hp → Shared → XK → Value → Shared → Prop
/-- the state at a call -/
structure Env0 (P : Program) (w : World) (K : PySem.W.Frag) (mg : Str → Option Value) (base : Heap) (A : Around) (outer : List Env) (s : Shared) (H : Hp) : Prop where
  frames : A.frames = some outer
  mod : Mod K mg base
  bs : ∀ b o, base.get? b = some o → s.heap.get? b = some o ∧ H b = none
  bsz : base.objs.size ≤ s.heap.objs.size
  funs : s.heap.FunFrames base outer
  frf : ∀ b ∈ frs outer, H b = none
  hok : HOk P w H s.heap
  bare : AllBare s.gens
/-- a call's end -/
def CE (outer : List Env) (P : Program) (w : World) (H : Hp) (s : Shared) (Q : VK) (u : Value) (s' : Shared) : Prop :=
  ∃ v H', s'.os = s.os ∧ AllBare s'.gens ∧ Un (frs outer) [] H H' s.heap s'.heap ∧ HOk P w H' s'.heap ∧ RelV v u ∧ Q v H'
def CR (CX : CXT) (outer : List Env) (P : Program) (w : World) (H : Hp) (s : Shared) (Q : VK) (E : XK) (r : Result) (s' : Shared) : Prop :=
  match r with
  | .ok (.ret u) => CE outer P w H s Q u s'
  | .ok _ => False
  | .error e => CX outer H s E e s'
structure FnOk (P : Program) (w : World) (K : PySem.W.Frag) (mg : Str → Option Value) (base : Heap) (CX : CXT) (k : Nat) (f : Addr) (fd : FuncData) (ps : List Str) (sp : Sp) : Prop where
  len : ∀ vs H Q E, sp vs H Q E → vs.length = ps.length
  run : ∀ (A : Around) (outer : List Env) (s : Shared) (H : Hp) (args : Args) (us : List Value) (vs : List V) (Q : VK) (E : XK), Room k A → Env0 P w K mg base A outer s H → BindsTo s fd args (ps.zip us) → Vals vs us → sp vs H Q E →
    codeAny (model P w) A (.call (.ref f) args) (CR CX outer P w H s Q E) s
theorem FnOk.mono {P : Program} {w : World} {K : PySem.W.Frag} {mg : Str → Option Value} {base : Heap} {CX : CXT} {j k : Nat} {f : Addr} {fd : FuncData} {ps : List Str} {sp : Sp} (F : FnOk P w K mg base CX j f fd ps sp) (h : j ≤ k) :
    FnOk P w K mg base CX k f fd ps sp := ⟨F.len, fun A outer s H args us vs Q E hr => F.run A outer s H args us vs Q E (hr.mono h)⟩
section
variable {X : Cx} {pins : List (Addr × Obj)} {σ : St} {H : Hp} {s s' : Shared}
/-- from a body: what a callee wants -/
theorem Inv.env0 (I : Inv X pins σ H s) : Env0 X.prog X.w X.K X.mg X.base X.A X.stack s H :=
  ⟨I.ok.frames, I.ok.mod, I.bs, Nat.le_trans I.ok.bsz I.sz, I.stack, I.stkFree, I.hok, I.bare⟩
/-- behind a call -/
theorem Inv.after {Q : VK} {u : Value} (I : Inv X pins σ H s) (h : CE X.stack X.prog X.w H s Q u s') : EP X pins σ Q u s' := by
  obtain ⟨v, H', os, bare, un, hok, r, q⟩ := h
  obtain ⟨hh, g, d, t, os'⟩ := s'
  obtain rfl : os' = s.os := os
  exact ⟨v, H', I.call (h' := hh) (g' := g) (d' := d) (t' := t) (ch := []) un hok bare (fun b z => absurd z (by simp)), r, q⟩
end
/-- f(..): the written arguments, then the defaults dvs; E: what is wanted of an exception -/
def tCall (sp : Sp) (dvs : List V) (E : XK) (t : TA) : TE := fun σ H Q => t σ H fun vs H1 => sp (vs ++ dvs) H1 Q E
/-- how the parameters are bound: us the positional arguments, kw the keywords' values by name, ds the defaults that fill up -/
def Binds (K : PySem.W.Frag) (fd : FuncData) (ps : List Str) (ds : List Value) : Prop :=
  ∀ (s : Shared) (us : List Value), K.In s.heap → (us ++ ds).length = ps.length → BindsTo s fd ⟨us, []⟩ (ps.zip (us ++ ds))
/-- every parameter is given -/
theorem Binds.all {K : PySem.W.Frag} {fd : FuncData} {ps : List Str} (h : ∀ us : List Value, us.length = ps.length → bindArgs fd ⟨us, []⟩ = pure (ps.zip us)) : Binds K fd ps [] := fun s us _ hl => by
  rw [List.append_nil] at hl ⊢
  exact .of_eq (h us hl)
/-- an exception of a callee reaches what this body wants of exceptions -/
def Passes (CX : CXT) (X : Cx) (E : XK) : Prop := ∀ (pins : List (Addr × Obj)) (σ : St) (H : Hp) (s : Shared) (e : Value) (s' : Shared), Inv X pins σ H s → CX X.stack H s E e s' → X.xe e s'
section
variable {X : Cx} {CX : CXT} {k : Nat} {f C : Addr} {fd : FuncData} {ps : List Str} {sp : Sp} {dvs : List V} {ds : List Value} {E : XK} {x m : Str} {p pos apos : Pos} {e o : Expr} {es : List Expr} {ta : TE} {t : TA}
/-- the callee runs -/
theorem run_fn {pins : List (Addr × Obj)} {σ : St} {H : Hp} {s : Shared} {Q : VK} {us : List Value} {vs : List V} (F : FnOk X.prog X.w X.K X.mg X.base CX k f fd ps sp) (hr : Room k X.A) (hb : Binds X.K fd ps ds) (hd : Vals dvs ds) (hx : Passes CX X E)
    (I : Inv X pins σ H s) (r : Vals vs us) (h : sp (vs ++ dvs) H Q E) : wpAny (model X.prog X.w) X.A (call (.ref f) us) (EP X pins σ Q) X.xe s := by
  have r2 : Vals (vs ++ dvs) (us ++ ds) := r.append hd
  have hl : (us ++ ds).length = ps.length := by rw [← r2.length]; exact F.len _ _ _ _ h
  refine wpAny_call (codeAny_mono (F.run X.A X.stack s H ⟨us, []⟩ (us ++ ds) (vs ++ dvs) Q E hr I.env0 (hb s us I.kIn hl) r2 h) fun r s' hq => ?_)
  cases r with
  | error e => exact hx pins σ H s e s' I hq
  | ok fl =>
    cases fl with
    | ret u => exact I.after hq
    | next => exact False.elim hq
    | brk => exact False.elim hq
    | cont => exact False.elim hq
theorem pe_call (F : FnOk X.prog X.w X.K X.mg X.base CX k f fd ps sp) (hr : Room k X.A) (hg : Gl X x) (hm : X.mg x = some (.ref f)) (hk : PySem.W.keepIn X.K (.ref f) = true) (hb : Binds X.K fd ps ds) (hd : Vals dvs ds) (hx : Passes CX X E)
    (ha : PA X (e :: es) t) (hdb : (x == ("__debug__" : Str)) = false := by decide) (he : starEach (e :: es) X.env = (false, eval e X.env) :: starEach es X.env := by rfl) (hpl : (backTo pos (starEach es X.env)).any (·.1) = false := by rfl) :
    PE X (.Call (.Name x p) (e :: es) [] pos) (tCall sp dvs E t) := by
  intro pins s σ H Q I h
  refine wpAny_Call_Name_kw (ld_glob I hg hm ?_ hdb)
  refine PySem.W.callWith_K (h₀ := X.base) I.ok.mod.kin hk (thn (ha pos pins s σ H _ I h) fun us s1 ⟨vs, H1, I1, r, q⟩ => ⟨I1.kIn, ?_⟩) he hpl
  exact run_fn F hr hb hd hx I1 r q
end
section
variable {X : Cx} {CX : CXT} {k : Nat} {f C : Addr} {fd : FuncData} {ps ks : List Str} {sp : Sp} {E : XK} {x m : Str} {p pos apos kpos : Pos} {e o : Expr} {es : List Expr} {kws : List Keyword} {te ta : TE} {t tk : TA} {nm : Option Str}
variable {g : List Value → List Value → List Value} {gV : List V → List V → List V}
end
/-- names: the parameters first -/
structure FnScope (N P : List Str) (sc : Scope) : Prop where
  kind : sc.kind = .function
  co : sc.isCoroutine = false
  gen : sc.isGenerator = false
  nd : N.Nodup
  pre : N.take P.length = P
  par : ∀ x ∈ P, sc.names.lookup x = some .local ∨ sc.names.lookup x = some .cell
  nofree : ∀ y ∈ sc.names, y.2 ≠ .free
theorem bindL_out {kindOf : Str → Option NameKind} {x : Str} : ∀ {binds : List (Str × Value)} {m : Str → Option Value}, (∀ v, (x, v) ∉ binds) → bindL kindOf binds m x = m x
  | [], _, _ => rfl
  | (n, v) :: r, m, h => by
    unfold bindL
    rw [bindL_out fun w hw => h w (List.mem_cons_of_mem _ hw)]
    split
    · have : x ≠ n := by rintro rfl; exact h v List.mem_cons_self
      simp [this]
    · rfl
theorem bindC_out {kindOf : Str → Option NameKind} {x : Str} : ∀ {binds : List (Str × Value)} {m : Str → Option Value}, (∀ v, (x, v) ∉ binds) → bindC kindOf binds m x = m x
  | [], _, _ => rfl
  | (n, v) :: r, m, h => by
    unfold bindC
    rw [bindC_out fun w hw => h w (List.mem_cons_of_mem _ hw)]
    split
    · rfl
    · have : x ≠ n := by rintro rfl; exact h v List.mem_cons_self
      simp [this]
theorem bindL_get {kindOf : Str → Option NameKind} {x : Str} {v : Value} : ∀ {P : List Str} {vs : List Value} {i : Nat} {m : Str → Option Value}, P.Nodup → P[i]? = some x → vs[i]? = some v → kindOf x = some .local →
    bindL kindOf (P.zip vs) m x = some v
  | [], _, _, _, _, h, _, _ => by simp at h
  | _ :: _, [], _, _, _, _, h, _ => by simp at h
  | p :: P, w :: vs, 0, m, nd, h1, h2, hk => by
    simp at h1 h2; subst h1; subst h2
    show bindL kindOf ((p, w) :: P.zip vs) m p = _
    unfold bindL
    rw [bindL_out fun v hv => (List.nodup_cons.mp nd).1 (List.of_mem_zip hv).1, if_pos hk]
    simp
  | p :: P, w :: vs, i + 1, m, nd, h1, h2, hk => by
    show bindL kindOf ((p, w) :: P.zip vs) m x = _
    unfold bindL
    exact bindL_get (i := i) (List.nodup_cons.mp nd).2 (by simpa using h1) (by simpa using h2) hk
theorem bindC_get {kindOf : Str → Option NameKind} {x : Str} {v : Value} : ∀ {P : List Str} {vs : List Value} {i : Nat} {m : Str → Option Value}, P.Nodup → P[i]? = some x → vs[i]? = some v → kindOf x ≠ some .local →
    bindC kindOf (P.zip vs) m x = some v
  | [], _, _, _, _, h, _, _ => by simp at h
  | _ :: _, [], _, _, _, _, h, _ => by simp at h
  | p :: P, w :: vs, 0, m, nd, h1, h2, hk => by
    simp at h1 h2; subst h1; subst h2
    show bindC kindOf ((p, w) :: P.zip vs) m p = _
    unfold bindC
    rw [bindC_out fun v hv => (List.nodup_cons.mp nd).1 (List.of_mem_zip hv).1, if_neg hk]
    simp
  | p :: P, w :: vs, i + 1, m, nd, h1, h2, hk => by
    show bindC kindOf ((p, w) :: P.zip vs) m x = _
    unfold bindC
    exact bindC_get (i := i) (List.nodup_cons.mp nd).2 (by simpa using h1) (by simpa using h2) hk
/-- the names' values at the entry -/
def start (N : List Str) (vs : List V) : St := vs.map some ++ List.replicate (N.length - vs.length) none
/-- the context of a def's body, at its entry; an exception leaves the frame, then lies as CX says -/
def cxOf (CX : CXT) (P : Program) (w : World) (K : PySem.W.Frag) (mg : Str → Option Value) (base : Heap) (N : List Str) (qual : Str) (scope : Scope) (f : Addr) (cd : Value) (A : Around) (outer : List Env) (s : Shared) (H : Hp) (E : XK) : Cx where
  prog := P
  w := w
  K := K
  mg := mg
  base := base
  A := A.deeper (envOfC qual scope s.heap.objs.size f cd)
  N := N
  s₀ := s
  H₀ := H
  env := envOfC qual scope s.heap.objs.size f cd
  outer := outer
  stack := envOfC qual scope s.heap.objs.size f cd :: outer
  ex := []
  calm := true
  fn := fun _ => true
  pn := []
  xe := fun e s' => wpAny (model P w) (A.deeper (envOfC qual scope s.heap.objs.size f cd)) (leaving (envOfC qual scope s.heap.objs.size f cd) e) (fun _ s'' => CX outer H s E e s'') (fun e' s'' => CX outer H s E e' s'') s'
theorem cell_has {sc : Scope} {n : Nat} {x : Str} (h : sc.names.lookup x = some .cell) : ∃ c, (cellsFrom n sc.names []).lookup x = some c := by
  have q := PySem.W.cellsFrom_some sc.names n [] (.inl h)
  exact Option.isSome_iff_exists.mp q
theorem inv_start {CX : CXT} {P : Program} {w : World} {K : PySem.W.Frag} {mg : Str → Option Value} {base : Heap} {N ps : List Str} {qual : Str} {scope : Scope} {f : Addr} {cd : Value} {A : Around} {outer : List Env} {s s1 : Shared} {H : Hp} {E : XK} {us : List Value} {vs : List V}
    (S : FnScope N ps scope) (hd : A.handled = none) (e0 : Env0 P w K mg base A outer s H) (hl : vs.length = ps.length) (r : Vals vs us)
    (x : InCallC s s.heap.objs.size (bindL (envOfC qual scope s.heap.objs.size f cd).kindOf (ps.zip us) fun _ => none) (cellsFrom (s.heap.objs.size + 1) scope.names []) (bindC (envOfC qual scope s.heap.objs.size f cd).kindOf (ps.zip us) fun _ => none) s1) :
    Inv (cxOf CX P w K mg base N qual scope f cd A outer s H E) [] (start N vs) H s1 := by
  have hpl : ps.length ≤ N.length := by have := congrArg List.length S.pre; rw [List.length_take] at this; (first | lia | omega)
  obtain ⟨h1, tk, rfl, hk⟩ := x.done
  have noA : ∀ b : Addr, b ∉ (cxOf CX P w K mg base N qual scope f cd A outer s H E).ex := fun b z => absurd (show b ∈ ([] : List Addr) from z) (by simp)
  refine ⟨⟨e0.mod, S.kind, rfl, rfl, Nat.le_refl _, fun y z c h1 h2 => ?_, fun y hy => ?_, fun y c _ h => ?_, fun _ => hd, Around.frames_deeper e0.frames, .inr ⟨rfl, rfl⟩, fun b z => absurd z (noA b), e0.bs, e0.bsz, fun b _ _ => noA b, fun b z => absurd z (noA b), e0.funs, e0.frf⟩,
    rfl, e0.bare, Un.kept hk, ⟨_, x.toInCall.ns, fun i y v h1 h2 h3 => ?_⟩, fun y c h => ⟨_, x.cell y c h⟩, e0.hok.fresh (Nat.le_refl _), fun y c h => ?_, fun p hp => absurd (show p ∈ ([] : List (Addr × Obj)) from hp) (by simp), e0.hok.kept hk, ?_⟩
  · exact name_of_addr x.apart (PySem.mem_of_lookup h1) (PySem.mem_of_lookup h2)
  · have hy : scope.names.lookup y = some .cell ∨ scope.names.lookup y = some .free := hy
    rcases hy with hy | hy
    · exact cell_has hy
    · exact absurd rfl (S.nofree _ (PySem.mem_of_lookup hy))
  · exact Nat.le_of_lt (x.above y c (PySem.mem_of_lookup h))
  · have hi : i < vs.length := by
      unfold start at h2
      by_cases hi : i < vs.length
      · exact hi
      · rw [List.getElem?_append_right (by simpa using hi)] at h2
        rw [List.getElem?_replicate] at h2
        split at h2 <;> cases h2
    have ha : vs[i]? = some v := by
      unfold start at h2
      rw [List.getElem?_append_left (by simpa using hi), List.getElem?_map] at h2
      cases e : vs[i]? with
      | none => rw [e] at h2; cases h2
      | some a => rw [e] at h2; cases h2; rfl
    obtain ⟨u, hu, rv⟩ := r.get ha
    have hp : ps[i]? = some y := by
      rw [← S.pre, List.getElem?_take_of_lt (by (first | lia | omega))]; exact h1
    have ndP : ps.Nodup := by rw [← S.pre]; exact S.nd.sublist (List.take_sublist _ _)
    refine ⟨u, rv, ?_⟩
    rcases S.par y (List.mem_of_getElem? hp) with k | k
    · exact .inl ⟨k, bindL_get ndP hp hu k⟩
    · obtain ⟨c, e⟩ := cell_has (n := s.heap.objs.size + 1) k
      refine .inr ⟨.inl k, c, e, ?_⟩
      have q := x.cell y c e
      rw [bindC_get ndP hp hu (by show scope.names.lookup y ≠ _; rw [k]; decide)] at q
      exact q
  · exact e0.hok.fresh (Nat.le_of_lt (x.above y c (PySem.mem_of_lookup h)))
  · unfold start
    show _ = N.length
    rw [List.length_append, List.length_map, List.length_replicate]
    (first | lia | omega)
/-- THE RULE: a def (or a method) of the text, by its body. The body's reading t is chosen for each entry; it is run at the parameters' values -/
theorem fn_of {CX : CXT} {P : Program} {w : World} {K : PySem.W.Frag} {mg : Str → Option Value} {base : Heap} {k : Nat} {f : Addr} {name qual : Str} {params : Arguments} {body : List Stmt} {scope : Scope} {dV kV doc pm cdv ct oc : Value} {an od : Option Addr}
    {osl : Array (Option Value)} {N ps : List Str} {sp : Sp} (lk : K.lookup f = some ⟨oc, od, .func (PySem.W.fnOf name qual params body scope dV kV doc pm an cdv ct), osl⟩) (hcd : PySem.W.codeIn K cdv qual = true) (S : FnScope N ps scope)
    (len : ∀ vs H Q E, sp vs H Q E → vs.length = ps.length)
    (hbody : ∀ (A : Around) (outer : List Env) (s : Shared) (H : Hp) (vs : List V) (Q : VK) (E : XK), Room k (A.deeper (envOfC qual scope s.heap.objs.size f cdv)) → sp vs H Q E →
      ∃ t, PSs (cxOf CX P w K mg base N qual scope f cdv A outer s H E) body t ∧ t { nx := fun _ H' => Q .non H', rt := Q } (start N vs) H) :
    FnOk P w K mg base CX (k + 1) f (PySem.W.fnOf name qual params body scope dV kV doc pm an cdv ct) ps sp := by
  refine ⟨len, fun A outer s H args us vs Q E hr e0 hb r hsp => ?_⟩
  have hl := len _ _ _ _ hsp
  have KX : K.In s.heap := e0.mod.kin.keeps fun b o e => (e0.bs b o e).1
  have lim : s.heap.NoLimit := e0.mod.nolimit.keeps fun b o e => (e0.bs b o e).1
  have hkind : ∀ y ∈ ps.zip us, scope.names.lookup y.1 = some .local ∨ (scope.names.lookup y.1 = some .cell ∧ ((cellsFrom (s.heap.objs.size + 1) scope.names []).lookup y.1).isSome = true) := fun ⟨n, v⟩ hy => by
    rcases S.par n (List.of_mem_zip hy).1 with q | q
    · exact .inl q
    · exact .inr ⟨q, PySem.W.cellsFrom_some _ _ _ (.inl q)⟩
  refine codeAny_call_function hr.depth (KX _ _ lk) rfl S.co S.gen rfl (PySem.W.codeRec_of KX hcd) (hb _ _ _ _ ?_)
  refine wpAny_newFunctionEnv_cells S.kind hkind fun env he s1 x => ?_
  subst he
  refine ⟨lim.keeps x.toInCall.keep, codeAny_func ?_⟩
  obtain ⟨t, ht, hq⟩ := hbody A outer s H vs Q E (hr.deeper _) hsp
  have I : Inv (cxOf CX P w K mg base N qual scope f cdv A outer s H E) [] (start N vs) H s1 := inv_start S hr.hd e0 hl r x
  refine wpAny_mono (ht [] s1 (start N vs) H _ I hq) (fun fl s' hs => ?_) fun e s' hs => hs
  have fin : ∀ {σ' : St} {H' : Hp} {v : V} {u : Value}, Inv (cxOf CX P w K mg base N qual scope f cdv A outer s H E) [] σ' H' s' → RelV v u → Q v H' → CE outer P w H s Q u s' :=
    fun {σ' H' v u} J rv q => ⟨v, H', J.os, J.bare, J.base, J.hok, rv, q⟩
  cases fl with
  | ret u =>
    obtain ⟨v, σ', H', J, rv, q⟩ := hs
    exact fin J rv q
  | next =>
    obtain ⟨σ', H', J, q⟩ := hs
    exact fin (v := V.non) (u := Value.none) J rfl q
  | brk =>
    obtain ⟨_, _, _, q⟩ := hs
    exact False.elim q
  | cont =>
    obtain ⟨_, _, _, q⟩ := hs
    exact False.elim q
end L2
namespace L2
open PySem PySem.Spec PyProof.Rows
section
variable {X : Cx} {x : Str} {p pos : Pos} {e : Expr} {es : List Expr} {t : TA} {id T : String} {r : List V → Hp → VK → Prop}
def tCB (r : List V → Hp → VK → Prop) (t : TA) : TE := fun σ H Q => t σ H fun vs H1 => r vs H1 Q
/-- f(e, ..), f a built-in function -/
theorem pe_callB (hc : CallR X (.builtin id) r) (hg : Gl X x) (hm : X.mg x = none) (hv : bootBuiltins x = some (.builtin id)) (ha : PA X (e :: es) t) (hn : x ≠ "__name__" := by decide) (hdb : (x == ("__debug__" : Str)) = false := by decide)
    (he : starEach (e :: es) X.env = (false, eval e X.env) :: starEach es X.env := by rfl) (hpl : (backTo pos (starEach es X.env)).any (·.1) = false := by rfl) : PE X (.Call (.Name x p) (e :: es) [] pos) (tCB r t) := by
  intro pins s σ H Q I h
  refine wpAny_Call_Name_kw (ld_blt I hg hm hv ?_ hn hdb)
  exact PyProof.Rows.callWith_builtin1 (thn (ha pos pins s σ H _ I h) fun us s1 ⟨vs, H1, I1, r1, q1⟩ => hc pins s1 σ H1 vs us Q I1 r1 q1) he hpl
/-- T(e, ..), T a built-in type -/
theorem pe_callTy (hc : CallR X (.type T) r) (hg : Gl X x) (hm : X.mg x = none) (hv : bootBuiltins x = some (.type T)) (ha : PA X (e :: es) t) (hn : x ≠ "__name__" := by decide) (hdb : (x == ("__debug__" : Str)) = false := by decide)
    (he : starEach (e :: es) X.env = (false, eval e X.env) :: starEach es X.env := by rfl) (hpl : (backTo pos (starEach es X.env)).any (·.1) = false := by rfl) : PE X (.Call (.Name x p) (e :: es) [] pos) (tCB r t) := by
  intro pins s σ H Q I h
  refine wpAny_Call_Name_kw (ld_blt I hg hm hv ?_ hn hdb)
  exact PyProof.Rows.callWith_type1 (thn (ha pos pins s σ H _ I h) fun us s1 ⟨vs, H1, I1, r1, q1⟩ => hc pins s1 σ H1 vs us Q I1 r1 q1) he hpl
end
end L2
namespace HT
open PySem PyProof.Rows
section
open PySem.SeqAt
open PySem.AutoSeq1 (wpAny_loadPart')
open PySem.MeetsSeq PySem.MeetsSeq2 PySem.MeetsSeq3
end
section
variable {prog : Program} {w : World} {A : Around} {E : Value → Shared → Prop} {s : Shared}
/-- a slice's bound as a place among n (d where it is left out) -/
def sIx (n d : Nat) : Option Int → Nat
  | none => d
  | some v => if v < 0 then (v + (n : Int)).toNat else min v.toNat n
theorem sIx_none (n d : Nat) : sIx n d none = d := rfl
theorem sIx_nat (n d k : Nat) : sIx n d (some (k : Int)) = min k n := by
  show (if (k : Int) < 0 then ((k : Int) + (n : Int)).toNat else min (k : Int).toNat n) = min k n
  rw [if_neg (by (first | lia | omega)), Int.toNat_natCast]
end
end HT
namespace L2
open PySem PySem.Spec PyProof.Rows
abbrev TO := St → Hp → (Option Int → Hp → Prop) → Prop
/-- a slice's part (left out, or an int) -/
def PO (X : Cx) (e : Option Expr) (t : TO) : Prop :=
  ∀ (pins : List (Addr × Obj)) (s : Shared) (σ : St) (H : Hp) (Q : Option Int → Hp → Prop), Inv X pins σ H s → t σ H Q →
    wpAny (model X.prog X.w) X.A (evalPart e X.env) (fun u s' => ∃ o H', Inv X pins σ H' s' ∧ IsPart u o ∧ Q o H') X.xe s
def tNoPart : TO := fun _ H Q => Q none H
inductive IsPart' (x : V) (H : Hp) (Q : Option Int → Hp → Prop) : Prop
  | mk (i : Int) (z_0 : x = .int i) (z_1 : Q (some i) H) : IsPart' x H Q
def tPart (t : TE) : TO := fun σ H Q => t σ H fun x H1 => IsPart' x H1 Q
section
variable {X : Cx} {e : Expr} {te : TE} {lo hi : Option Expr} {tl th : TO} {pos p2 : Pos}
theorem po_none : PO X none tNoPart := by
  intro pins s σ H Q I h
  rw [evalPart_none]
  exact wpAny_pure ⟨none, H, I, .none, h⟩
theorem po_some (h : PE X e te) : PO X (some e) (tPart te) := by
  intro pins s σ H Q I hw
  rw [evalPart_some]
  refine thn (h pins s σ H _ I hw) fun u s1 ⟨x, H1, I1, r1, q1⟩ => ?_
  obtain ⟨i, rfl, q⟩ := q1
  obtain ⟨t, rfl⟩ := r1
  exact ⟨some i, H1, I1, .int i t, q⟩
/-- what a slice of a value is, by values: the slice object stands at sl -/
def SlR (X : Cx) (r : V → Option Int → Option Int → Hp → VK → Prop) : Prop :=
  ∀ (pins : List (Addr × Obj)) (s : Shared) (σ : St) (H : Hp) (x : V) (v vl vu : Value) (lo hi : Option Int) (sl : Addr) (Q : VK), Inv X pins σ H s → RelV x v → s.heap.IsSliceOf sl vl vu .none → IsPart vl lo → IsPart vu hi → r x lo hi H Q →
    ∃ T id, typeLookup (.type T) "__getitem__" = pure (some (.builtin id)) ∧ s.TypeIs v T ∧ wpAny (model X.prog X.w) X.A (getItem v (.ref sl)) (EP X pins σ Q) X.xe s
def tSl (r : V → Option Int → Option Int → Hp → VK → Prop) (te : TE) (tl th : TO) : TE := fun σ H Q => te σ H fun x H1 => tl σ H1 fun l H2 => th σ H2 fun u H3 => r x l u H3 Q
/-- a[lo:hi], any a -/
theorem pe_slice {r : V → Option Int → Option Int → Hp → VK → Prop} (hr : SlR X r) (he : PE X e te) (hl : PO X lo tl) (hu : PO X hi th) : PE X (.Subscript e (.Slice lo hi none p2) pos) (tSl r te tl th) := by
  intro pins s σ H Q I h
  refine Subscript_ (thn (he pins s σ H _ I h) fun v s1 ⟨x, H1, I1, r1, q1⟩ => ?_)
  refine wpAny_Slice (thn (hl pins s1 σ H1 _ I1 q1) fun vl s2 ⟨l, H2, I2, pl, q2⟩ => thn (hu pins s2 σ H2 _ I2 q2) fun vu s3 ⟨u, H3, I3, pu, q3⟩ => ?_)
  rw [evalPart_none]
  refine wpAny_pure ?_
  have I4 : Inv X pins σ H3 { s3 with heap := s3.heap.push { cls := .type "slice", data := .fields #[vl, vu, .none] } } := I3.kept (t' := s3.toks) fun b ob q => Heap.get?_push_of_some _ q
  obtain ⟨T, id, hT, ht, hg⟩ := hr pins { s3 with heap := s3.heap.push { cls := .type "slice", data := .fields #[vl, vu, .none] } } σ H3 x v vl vu l u s3.heap.objs.size Q I4 r1 (Heap.IsSliceOf.new ..) pl pu q3
  show wpAny (model X.prog X.w) X.A (subscriptTail e (.Slice lo hi none p2) v (.ref s3.heap.objs.size)) (EP X pins σ Q) X.xe { s3 with heap := s3.heap.push { cls := .type "slice", data := .fields #[vl, vu, .none] } }
  exact tail_any (ops := [.ref s3.heap.objs.size, v]) ht hT hg (by with_unfolding_all rfl)
/-- the items of xs[lo:hi] -/
def cutV (xs : List V) (lo hi : Option Int) : List V := (xs.drop (HT.sIx xs.length 0 lo)).take (HT.sIx xs.length xs.length hi - HT.sIx xs.length 0 lo)
theorem cutV_length (xs : List V) (lo hi : Option Int) : (cutV xs lo hi).length ≤ xs.length := by
  unfold cutV
  rw [List.length_take, List.length_drop]
  (first | lia | omega)
end
end L2
namespace L2
open PySem PySem.Spec PyProof.Rows
/-- the place that an index of any sign means -/
def ixN (n : Nat) (i : Int) : Option Nat := if 0 ≤ i then (if i < n then some i.toNat else none) else if -(n : Int) ≤ i then some (i + n).toNat else none
def atI {α : Type} (xs : List α) (i : Int) : Option α := (ixN xs.length i).bind fun j => xs[j]?
theorem ixN_seq {n : Nat} {i : Int} {j : Nat} (h : ixN n i = some j) : seqIndex? i n = some j ∧ j < n ∧ -(n : Int) ≤ i ∧ i < n := by
  unfold ixN at h
  by_cases h0 : 0 ≤ i
  · rw [if_pos h0] at h
    by_cases h1 : i < n
    · rw [if_pos h1] at h
      have e : i.toNat = j := Option.some.inj h
      exact ⟨by rw [seqIndex_of h0 h1, e], by (first | lia | omega), by (first | lia | omega), h1⟩
    · rw [if_neg h1] at h; cases h
  · rw [if_neg h0] at h
    by_cases h1 : -(n : Int) ≤ i
    · rw [if_pos h1] at h
      have e : (i + n).toNat = j := Option.some.inj h
      exact ⟨by rw [seqIndex_neg (by (first | lia | omega)) h1, e], by (first | lia | omega), h1, by (first | lia | omega)⟩
    · rw [if_neg h1] at h; cases h
theorem atI_get {α : Type} {xs : List α} {i : Int} {v : α} (h : atI xs i = some v) : ∃ j, seqIndex? i xs.length = some j ∧ xs[j]? = some v ∧ j < xs.length ∧ -(xs.length : Int) ≤ i ∧ i < xs.length := by
  unfold atI at h
  cases e : ixN xs.length i with
  | none => rw [e] at h; cases h
  | some j =>
    rw [e] at h
    obtain ⟨h1, h2, h3, h4⟩ := ixN_seq e
    exact ⟨j, h1, h, h2, h3, h4⟩
theorem atI_nat {α : Type} {xs : List α} {j : Nat} {v : α} (h : xs[j]? = some v) : atI xs (j : Int) = some v := by
  have hj : j < xs.length := (List.getElem?_eq_some_iff.mp h).1
  have e : ixN xs.length (j : Int) = some j := by
    unfold ixN
    rw [if_pos (by (first | lia | omega)), if_pos (by (first | lia | omega))]; simp
  unfold atI; rw [e]; exact h
/-- what stands as an index of a plain subscript -/
def PlainIx (b : Expr) : Prop := ∀ o i, subscripted b false o i = operate [o, i] (getItem o i)
/-- a subscript by values -/
def IxR (X : Cx) (r : R2) : Prop :=
  ∀ (value slice : Expr) (pins : List (Addr × Obj)) (s : Shared) (σ : St) (H : Hp) (x y : V) (v u : Value) (Q : VK), Inv X pins σ H s → RelV x v → RelV y u → r x y H Q →
    subscripted slice false v u = operate [v, u] (getItem v u) → wpAny (model X.prog X.w) X.A (subscriptTail value slice v u) (EP X pins σ Q) X.xe s
/-- a call of a builtin's method by values: the receiver, the arguments -/
def MtR (X : Cx) (id : String) (r : V → List V → Hp → VK → Prop) : Prop :=
  ∀ (pins : List (Addr × Obj)) (s : Shared) (σ : St) (H : Hp) (x : V) (xs : List V) (v : Value) (us : List Value) (Q : VK), Inv X pins σ H s → RelV x v → Vals xs us → r x xs H Q →
    wpAny (model X.prog X.w) X.A (call (.builtin id) (v :: us)) (EP X pins σ Q) X.xe s
section
variable {X : Cx} {a b : Expr} {ta tb : TE} {pos : Pos}
/-- a[b] -/
theorem pe_ix {r : R2} (hr : IxR X r) (ha : PE X a ta) (hb : PE X b tb) (hs : PlainIx b) : PE X (.Subscript a b pos) (tOp r ta tb) := by
  intro pins s σ H Q I h
  exact Subscript_ (binT ha hb I h fun v u s2 x y H2 I2 rx ry q => hr a b pins s2 σ H2 x y v u Q I2 rx ry q (hs _ _))
inductive rIxL (K : PySem.W.Frag) : V → V → Hp → VK → Prop
  | mk {x : V} {y : V} {H : Hp} {Q : VK} (p xs i v) (z_0 : x = .ref p) (z_1 : y = .int i) (z_2 : SqL K H p xs) (z_3 : atI xs i = some v) (z_4 : Q v H) : rIxL K x y H Q
inductive rIxT (K : PySem.W.Frag) : V → V → Hp → VK → Prop
  | mk {x : V} {y : V} {H : Hp} {Q : VK} (p xs i v) (z_0 : x = .ref p) (z_1 : y = .int i) (z_2 : SqT K H p xs) (z_3 : atI xs i = some v) (z_4 : Q v H) : rIxT K x y H Q
theorem ix_list : IxR X (rIxL X.K) := by
  intro value slice pins s σ H x y v u Q I rx ry h hs
  obtain ⟨p, xs, i, z, rfl, rfl, hq, he, q⟩ := h
  cases rx
  obtain ⟨t, rfl⟩ := ry
  obtain ⟨its, r, pl, hz⟩ := I.list hq
  obtain ⟨j, h1, h2, h3, h4, h5⟩ := atI_get he
  obtain ⟨w, ew, rw'⟩ := r.get h2
  have hl := r.length
  have hn := line63
  have fin : EP X pins σ Q w s := ⟨z, H, I, rw', q⟩
  by_cases h0 : 0 ≤ i
  · have hj : i.toNat = j := by
      rw [seqIndex_of h0 h5] at h1
      exact Option.some.inj h1
    exact item_listR pl.isList h0 (by (first | lia | omega)) (by rw [hj]; simpa using ew) fin hs
  · have hj : (i + (its.toArray.size : Int)).toNat = j := by
      rw [seqIndex_neg (by (first | lia | omega)) h4] at h1
      rw [List.size_toArray, ← hl]
      exact Option.some.inj h1
    exact subscriptTail_builtinR (x := w) pl.isList.typeIs slot_list_getitem.lookup
      (wpAny_getItem_list_neg (Q := fun r s' => r = w ∧ EP X pins σ Q r s') pl.isList (by (first | lia | omega)) (by rw [List.size_toArray] <;> (first | lia | omega)) (by (first | lia | omega)) (by rw [hj]; simpa using ew) ⟨rfl, fin⟩) hs
theorem ix_tup : IxR X (rIxT X.K) := by
  intro value slice pins s σ H x y v u Q I rx ry h hs
  obtain ⟨p, xs, i, z, rfl, rfl, hq, he, q⟩ := h
  cases rx
  obtain ⟨t, rfl⟩ := ry
  obtain ⟨its, r, pl, hz⟩ := I.tuple hq
  obtain ⟨j, h1, h2, h3, h4, h5⟩ := atI_get he
  obtain ⟨w, ew, rw'⟩ := r.get h2
  have hl := r.length
  have hn := line63
  have fin : EP X pins σ Q w s := ⟨z, H, I, rw', q⟩
  exact subscriptTail_builtinR (x := w) pl.typeIs slot_tuple_getitem.lookup
    (getItem_tuple (j := j) (Q := fun r s' => r = w ∧ EP X pins σ Q r s') pl (by (first | lia | omega)) (by (first | lia | omega)) (by rw [List.size_toArray, ← hl]; exact h1) (by simpa using ew) ⟨rfl, fin⟩) hs
/-- the list's object behind a store -/
theorem mapSeq_set (its : List Value) (n j : Nat) (u : Value) : Obj.mapSeq (·.setIfInBounds j u) { cls := .type "list", data := .seq its.toArray n } = { cls := .type "list", data := .seq (its.set j u).toArray n } := by
  simp [Obj.mapSeq]
theorem Inv.lst {pins : List (Addr × Obj)} {σ : St} {H : Hp} {s : Shared} {p : Addr} {xs : List V} (I : Inv X pins σ H s) (h : H p = some (.lst xs)) :
    ∃ (its : List Value) (n : Nat), Vals xs its ∧ s.heap.get? p = some { cls := .type "list", data := .seq its.toArray n } ∧ xs.length ≤ sizeLine := by
  obtain ⟨z, its, n, r, e⟩ := I.hok p _ h
  exact ⟨its, n, r, e, z⟩
/-- the list at p is written by an update of its object -/
theorem Inv.lstUpd {pins : List (Addr × Obj)} {σ : St} {H : Hp} {s : Shared} {p : Addr} {xs ys : List V} {its its' : List Value} {n n' : Nat} {f : Obj → Obj} (I : Inv X pins σ H s) (h : H p = some (.lst xs))
    (ho : s.heap.get? p = some { cls := .type "list", data := .seq its.toArray n }) (hf : f { cls := .type "list", data := .seq its.toArray n } = { cls := .type "list", data := .seq its'.toArray n' }) (r : Vals ys its') (hz : ys.length ≤ sizeLine) (t : Nat) :
    Inv X pins σ (upd H p (.lst ys)) { s with heap := s.heap.update p f, toks := t } := by
  have e : (s.heap.update p f).get? p = some { cls := .type "list", data := .seq its'.toArray n' } := by
    rw [Heap.get?_update_self f ho (by rw [hf] <;> rfl), hf]
  refine I.write (x := p) (e := p) (by rw [h]; trivial) (.inl rfl) (fun b u hb q => (Heap.get?_update_other _ _ (Ne.symm hb)).trans q) ⟨_, e⟩ ?_
  exact ⟨hz, its', n', r, e⟩
inductive rSetL : V → V → V → Hp → (Hp → Prop) → Prop
  | mk {o : V} {i : V} {v : V} {H : Hp} {Q : (Hp → Prop)} (p xs k j) (z_0 : o = .ref p) (z_1 : i = .int k) (z_2 : H p = some (.lst xs)) (z_3 : ixN xs.length k = some j) (z_4 : Q (upd H p (.lst (xs.set j v)))) : rSetL  o i v H Q
theorem set_list : PSet X rSetL := by
  intro pins s σ H o i v ov iv u Q I ro ri rv h
  obtain ⟨p, xs, k, j, rfl, rfl, hp, hj, q⟩ := h
  cases ro
  obtain ⟨t, rfl⟩ := ri
  obtain ⟨its, n, r, ho, hz⟩ := I.lst hp
  obtain ⟨h1, h2, h3, h4⟩ := ixN_seq hj
  have hl := r.length
  have hn := line63
  have I' : Inv X pins σ (upd H p (.lst (xs.set j v))) { s with heap := s.heap.update p (Obj.mapSeq (·.setIfInBounds j u)) } :=
    I.lstUpd hp ho (mapSeq_set its n j u) (r.set rv j) (by rw [List.length_set]; exact hz) s.toks
  by_cases h0 : 0 ≤ k
  · have hk : k.toNat = j := by
      rw [seqIndex_of h0 h4] at h1
      exact Option.some.inj h1
    exact PySem.W.ki_setAt ho h0 (by (first | lia | omega)) (by rw [List.size_toArray, ← hl]; exact h4) (by rw [hk]; exact ⟨_, I', q⟩)
  · have hk : (k + (its.toArray.size : Int)).toNat = j := by
      rw [seqIndex_neg (by (first | lia | omega)) h3] at h1
      rw [List.size_toArray, ← hl]
      exact Option.some.inj h1
    exact PySem.W.ki_setBack ho (by (first | lia | omega)) (by rw [List.size_toArray, ← hl]; exact h3) (by (first | lia | omega)) (by rw [hk]; exact ⟨_, I', q⟩)
theorem slice_bounds (lo hi : Option Int) (n : Nat) : (sliceBounds lo hi none n).1 = ((HT.sIx n 0 lo : Nat) : Int) ∧ (sliceBounds lo hi none n).2.1 = ((HT.sIx n n hi : Nat) : Int) ∧ (sliceBounds lo hi none n).2.2 = 1 := by
  refine ⟨?_, ?_, rfl⟩
  · cases lo with
    | none => simp [sliceBounds, HT.sIx]
    | some i =>
      simp only [sliceBounds, HT.sIx, Option.getD_none, show (1 : Int) > 0 by decide, if_true]
      by_cases h : i < 0
      · simp only [h, if_true] <;> (first | lia | omega)
      · simp only [h, if_false] <;> (first | lia | omega)
  · cases hi with
    | none => simp [sliceBounds, HT.sIx]
    | some i =>
      simp only [sliceBounds, HT.sIx, Option.getD_none, show (1 : Int) > 0 by decide, if_true]
      by_cases h : i < 0
      · simp only [h, if_true] <;> (first | lia | omega)
      · simp only [h, if_false] <;> (first | lia | omega)
theorem slicePick_cut (its : List Value) (lo hi : Option Int) : slicePick its.toArray lo hi none = ((its.drop (HT.sIx its.length 0 lo)).take (HT.sIx its.length its.length hi - HT.sIx its.length 0 lo)).toArray := by
  obtain ⟨h1, h2, h3⟩ := slice_bounds lo hi its.toArray.size
  unfold slicePick
  rw [h1, h2, h3]
  simp only [sliceRange_one, pick_run, List.size_toArray] <;> rfl
/-- xs[lo:hi] of a list: a new list -/
inductive rSlL (K : PySem.W.Frag) : V → Option Int → Option Int → Hp → VK → Prop
  | mk {x : V} {lo : Option Int} {hi : Option Int} {H : Hp} {Q : VK} (a xs) (z_0 : x = .ref a) (z_1 : SqL K H a xs) (z_2 : ∀ p, H p = none → Q (.ref p) (upd H p (.lst (cutV xs lo hi)))) : rSlL K x lo hi H Q
theorem sl_list : SlR X (rSlL X.K) := by
  intro pins s σ H x v vl vu lo hi sl Q I rx hs pl pu h
  obtain ⟨a, xs, rfl, hx, q⟩ := h
  cases rx
  obtain ⟨its, r, ht, hz⟩ := I.list hx
  have hlen := r.length
  refine ⟨"list", _, slot_list_getitem.lookup, ht.isList.typeIs, ?_⟩
  refine wpAny_getItem_list_slice ht.isList hs pl pu .none (by simp) ?_ (by rw [List.size_toArray] <;> (first | lia | omega))
  rw [slicePick_cut, ← hlen]
  refine ⟨.ref s.heap.objs.size, _, I.laid (t' := s.toks) (o := .lst (cutV xs lo hi)) (fun b ob q => Heap.get?_push_of_some _ q) (Nat.le_refl _) ?_, rfl, q _ (I.hok.fresh (Nat.le_refl _))⟩
  exact ⟨Nat.le_trans (cutV_length xs lo hi) hz, _, 0, (r.drop (HT.sIx xs.length 0 lo)).take (HT.sIx xs.length xs.length hi - HT.sIx xs.length 0 lo), Heap.get?_push_size _ rfl⟩
def flatV : V → Bool
  | .non => true
  | .bl _ => true
  | .int _ => true
  | .str _ => true
  | _ => false
/-- == of flat values -/
def eqV : V → V → Bool
  | .non, .non => true
  | .bl a, .bl b => a == b
  | .bl a, .int b => (if a then 1 else 0) == b
  | .int a, .bl b => a == (if b then 1 else 0)
  | .int a, .int b => a == b
  | .str a, .str b => a == b
  | _, _ => false
theorem eqAt_V {A : Around} {s : Shared} {y x : V} {u v : Value} (ry : RelV y u) (rx : RelV x v) (fy : flatV y = true) (fx : flatV x = true) : SeqAt.EqAt A s u v (eqV y x) := by
  cases y with
  | non =>
    cases ry
    cases x with
    | non => cases rx; exact SeqAt.EqAt.same _
    | bl b => cases rx; exact SeqAt.EqAt.none_bool b
    | int b => obtain ⟨t, rfl⟩ := rx; exact SeqAt.EqAt.none_int b t
    | str b => obtain ⟨t, rfl⟩ := rx; exact SeqAt.EqAt.none_str b t
    | _ => exact absurd (show false = true from fx) Bool.false_ne_true
  | bl a =>
    cases ry
    cases x with
    | non => cases rx; exact SeqAt.EqAt.bool_none a
    | bl b => cases rx; exact SeqAt.EqAt.bool_bool a b
    | int b => obtain ⟨t, rfl⟩ := rx; exact SeqAt.EqAt.bool_int a b t
    | str b => obtain ⟨t, rfl⟩ := rx; exact SeqAt.EqAt.bool_str a b t
    | _ => exact absurd (show false = true from fx) Bool.false_ne_true
  | int a =>
    obtain ⟨t', rfl⟩ := ry
    cases x with
    | non => cases rx; exact SeqAt.EqAt.int_none a t'
    | bl b => cases rx; exact SeqAt.EqAt.int_bool a t' b
    | int b => obtain ⟨t, rfl⟩ := rx; exact SeqAt.EqAt.int_int a t' b t
    | str b => obtain ⟨t, rfl⟩ := rx; exact SeqAt.EqAt.int_str a t' b t
    | _ => exact absurd (show false = true from fx) Bool.false_ne_true
  | str a =>
    obtain ⟨t', rfl⟩ := ry
    cases x with
    | non => cases rx; exact SeqAt.EqAt.str_none a t'
    | bl b => cases rx; exact SeqAt.EqAt.str_bool a t' b
    | int b => obtain ⟨t, rfl⟩ := rx; exact SeqAt.EqAt.str_int a t' b t
    | str b => obtain ⟨t, rfl⟩ := rx; exact SeqAt.EqAt.str_str a t' b t
    | _ => exact absurd (show false = true from fx) Bool.false_ne_true
  | _ => exact absurd (show false = true from fy) Bool.false_ne_true
/-- the items' answers, read off the values (a value's own answer does not lean on its token) -/
def eqU (x : V) (u : Value) : Bool := match u with
  | .none => eqV .non x
  | .bool b => eqV (.bl b) x
  | .int i _ => eqV (.int i) x
  | .str z _ => eqV (.str z) x
  | _ => false
theorem eqU_of {x y : V} {u : Value} (r : RelV y u) (f : flatV y = true) : eqU x u = eqV y x := by
  cases y with
  | non => cases r; rfl
  | bl b => cases r; rfl
  | int i => obtain ⟨t, rfl⟩ := r; rfl
  | str z => obtain ⟨t, rfl⟩ := r; rfl
  | _ => exact absurd (show false = true from f) Bool.false_ne_true
theorem any_eqU {x : V} : ∀ {xs : List V} {us : List Value}, Vals xs us → xs.all flatV = true → us.any (eqU x) = xs.any fun y => eqV y x
  | _, _, .nil, _ => rfl
  | y :: xs, u :: us, .cons r t, f => by
    rw [List.all_cons, Bool.and_eq_true] at f
    rw [List.any_cons, List.any_cons, eqU_of r f.1, any_eqU t f.2]
theorem mem_eqAt {A : Around} {s : Shared} {x : V} {v : Value} (rx : RelV x v) (fx : flatV x = true) : ∀ {xs : List V} {us : List Value}, Vals xs us → xs.all flatV = true → ∀ u ∈ us, SeqAt.EqAt A s u v (eqU x u)
  | _, _, .nil, _ => fun u hu => by cases hu
  | y :: xs, u :: us, .cons r t, f => fun u' hu => by
    rw [List.all_cons, Bool.and_eq_true] at f
    rcases List.mem_cons.mp hu with rfl | hu
    · rw [eqU_of r f.1]; exact eqAt_V r rx f.1 fx
    · exact mem_eqAt rx fx t f.2 u' hu
def inV (x : V) (xs : List V) : Bool := xs.any fun y => eqV y x
/-- x in a list or tuple of flat items -/
inductive rIn (K : PySem.W.Frag) (neg : Bool) : V → V → Hp → VK → Prop
  | mk {x : V} {y : V} {H : Hp} {Q : VK} (p xs) (z_0 : y = .ref p) (z_1 : (SqL K H p xs ∨ SqT K H p xs)) (z_2 : flatV x = true) (z_3 : xs.all flatV = true) (z_4 : Q (.bl (if neg then !inV x xs else inV x xs)) H) : rIn K neg x y H Q
theorem op_in_seq : OpR X (compareOp .In) (rIn X.K false) := by
  intro pins s σ H x y v u Q I rx ry h
  obtain ⟨p, xs, rfl, hq, fx, fs, q⟩ := h
  cases ry
  rcases hq with hq | hq
  · obtain ⟨its, r, pl, hz⟩ := I.list hq
    refine SeqAt.in_listAt (eqU x) pl.isList (fun w hw => mem_eqAt rx fx r fs w (by simpa using hw)) ⟨.bl _, H, I, rfl, ?_⟩
    rw [show its.toArray.any (eqU x) = its.any (eqU x) by simp, any_eqU r fs]
    exact q
  · obtain ⟨its, r, pl, hz⟩ := I.tuple hq
    refine SeqAt.in_tupleAt (eqU x) pl (fun w hw => mem_eqAt rx fx r fs w (by simpa using hw)) ⟨.bl _, H, I, rfl, ?_⟩
    rw [show its.toArray.any (eqU x) = its.any (eqU x) by simp, any_eqU r fs]
    exact q
theorem op_notIn_seq : OpR X (compareOp .NotIn) (rIn X.K true) := by
  intro pins s σ H x y v u Q I rx ry h
  obtain ⟨p, xs, rfl, hq, fx, fs, q⟩ := h
  cases ry
  rcases hq with hq | hq
  · obtain ⟨its, r, pl, hz⟩ := I.list hq
    refine SeqAt.notIn_listAt (eqU x) pl.isList (fun w hw => mem_eqAt rx fx r fs w (by simpa using hw)) ⟨.bl _, H, I, rfl, ?_⟩
    rw [show its.toArray.any (eqU x) = its.any (eqU x) by simp, any_eqU r fs]
    exact q
  · obtain ⟨its, r, pl, hz⟩ := I.tuple hq
    refine SeqAt.notIn_tupleAt (eqU x) pl (fun w hw => mem_eqAt rx fx r fs w (by simpa using hw)) ⟨.bl _, H, I, rfl, ?_⟩
    rw [show its.toArray.any (eqU x) = its.any (eqU x) by simp, any_eqU r fs]
    exact q
theorem call_len_seq : CallR X (.builtin "len") (fun xs H Q => ∃ p ys, xs = [.ref p] ∧ (SqL X.K H p ys ∨ SqT X.K H p ys) ∧ Q (.int ys.length) H) := by
  intro pins s σ H xs us Q I r h
  obtain ⟨p, ys, rfl, hq, q⟩ := h
  obtain ⟨u, rfl, rx⟩ := vals1 r
  cases rx
  have hn := line63
  rcases hq with hq | hq
  · obtain ⟨its, r', pl, hz⟩ := I.list hq
    have hlen := r'.length
    exact Calls.call_len_list pl.isList (by simp only [List.size_toArray] <;> (first | lia | omega)) ⟨.int ys.length, H, I.tok _, ⟨s.toks + 1, by rw [List.size_toArray, hlen]⟩, q⟩
  · obtain ⟨its, r', pl, hz⟩ := I.tuple hq
    have hlen := r'.length
    exact len_tuple pl (by simp only [List.size_toArray] <;> (first | lia | omega)) ⟨.int ys.length, H, I.tok _, ⟨s.toks + 1, by rw [List.size_toArray, hlen]⟩, q⟩
theorem call_list_of : CallR X (.type "list") (fun xs H Q => ∃ p ys, xs = [.ref p] ∧ (SqL X.K H p ys ∨ SqT X.K H p ys) ∧ ∀ l, H l = none → Q (.ref l) (upd H l (.lst ys))) := by
  intro pins s σ H xs us Q I r h
  obtain ⟨p, ys, rfl, hq, q⟩ := h
  obtain ⟨u, rfl, rx⟩ := vals1 r
  cases rx
  have fin : ∀ (its : List Value), Vals ys its → ys.length ≤ sizeLine → ∀ (h' : Heap) (c' : Nat), (∀ b o', s.heap.get? b = some o' → h'.get? b = some o') →
      h'.get? s.heap.objs.size = some { cls := .type "list", dict := none, data := .seq its.toArray c', slots := #[] } → EP X pins σ Q (.ref s.heap.objs.size) { s with heap := h' } := fun its r' hz h' c' kp e =>
    ⟨.ref s.heap.objs.size, _, I.laid (t' := s.toks) kp (Nat.le_refl _) (show ObjOk X.prog X.w _ h' _ (.lst ys) from ⟨hz, its, c', r', e⟩), rfl, q _ (I.hok.fresh (Nat.le_refl _))⟩
  rcases hq with hq | hq
  · obtain ⟨its, r', pl, hz⟩ := I.list hq
    have hlen := r'.length
    obtain ⟨o, ho, hc, n, hd⟩ := pl.isList
    exact call_list_seq p (.inl rfl) ho hc hd (fun h' c' kp e => fin its r' hz h' c' kp e) (by simp only [List.size_toArray] <;> (first | lia | omega))
  · obtain ⟨its, r', pl, hz⟩ := I.tuple hq
    have hlen := r'.length
    obtain ⟨o, ho, hc, n, hd⟩ := pl
    exact call_list_seq p (.inr rfl) ho hc hd (fun h' c' kp e => fin its r' hz h' c' kp e) (by simp only [List.size_toArray] <;> (first | lia | omega))
/-- the value is of that builtin type -/
def tyV (K : PySem.W.Frag) (T : String) (x : V) (H : Hp) : Prop := match x with
  | .str _ => T = "str"
  | .int _ => T = "int"
  | .ref p => (T = "list" ∧ ∃ xs, SqL K H p xs) ∨ (T = "tuple" ∧ ∃ o, K.lookup p = some o ∧ o.cls = .type "tuple" ∧ o.dict = none) ∨
      (T = "dict" ∧ ((∃ kvs, H p = some (.dK kvs)) ∨ ∃ kvs, H p = some (.dT kvs))) ∨ (T = "set" ∧ ∃ S n, H p = some (.set S n))
  | _ => False
theorem tyV_is {pins : List (Addr × Obj)} {σ : St} {H : Hp} {s : Shared} {T : String} {x : V} {v : Value} (I : Inv X pins σ H s) (r : RelV x v) (ty : tyV X.K T x H) :
    s.TypeIs v T ∧ ∀ a, v = .ref a → ∃ ob, s.heap.get? a = some ob ∧ ob.dict = none := by
  cases x with
  | str z =>
    obtain ⟨t, rfl⟩ := r
    cases (show T = "str" from ty)
    exact ⟨typeIs_str s z t, fun _ e => nomatch e⟩
  | int i =>
    obtain ⟨t, rfl⟩ := r
    cases (show T = "int" from ty)
    exact ⟨typeIs_int s i t, fun _ e => nomatch e⟩
  | ref p =>
    cases r
    rcases ty with ⟨rfl, xs, hq⟩ | ⟨rfl, o, hk, hc, hd⟩ | ⟨rfl, hk⟩ | ⟨rfl, S, n, hk⟩
    · obtain ⟨its, _, pl, _⟩ := I.list hq
      refine ⟨pl.isList.typeIs, fun a e => ?_⟩
      cases e
      obtain ⟨o, n, e, c, hd, _⟩ := pl
      exact ⟨o, e, hd⟩
    · refine ⟨⟨o, I.kIn p o hk, hc⟩, fun a e => ?_⟩
      cases e
      exact ⟨o, I.kIn _ o hk, hd⟩
    · have z : ∃ o, s.heap.get? p = some o ∧ o.ExactDict := by
        rcases hk with ⟨kvs, hk⟩ | ⟨kvs, hk⟩
        · obtain ⟨_, _, _, _, o, _, _, e, ex, _⟩ := I.hok p _ hk
          exact ⟨o, e, ex⟩
        · obtain ⟨_, _, _, _, o, _, _, e, ex, _⟩ := I.hok p _ hk
          exact ⟨o, e, ex⟩
      obtain ⟨o, e, ex⟩ := z
      refine ⟨⟨o, e, ex.1⟩, fun a e2 => ?_⟩
      cases e2
      exact ⟨o, e, ex.2.1⟩
    · obtain ⟨o, _, _, _, e, ex, _⟩ := I.hok p _ hk
      refine ⟨⟨o, e, ex.1⟩, fun a e2 => ?_⟩
      cases e2
      exact ⟨o, e, ex.2.1⟩
  | _ => exact False.elim ty
def tBM (K : PySem.W.Frag) (T : String) (r : V → List V → Hp → VK → Prop) (to : TE) (t : TA) : TE := fun σ H Q => to σ H fun x H1 => tyV K T x H1 ∧ t σ H1 fun xs H2 => r x xs H2 Q
variable {o e : Expr} {es : List Expr} {to : TE} {t : TA} {name : Str} {apos cpos : Pos} {T id : String} {r : V → List V → Hp → VK → Prop}
theorem pe_bm (pa : PlainAttrs T) (slot : Slot T name id) (hty : typeOf (.builtin id) = pure (.type "method_descriptor")) (hm : MtR X id r) (ho : PE X o to) (ha : PA X (e :: es) t)
    (hbase : attributeBase o name X.env (eval o X.env) = eval o X.env := by rfl)
    (hfew : ((backTo cpos (starEach (e :: es) X.env)).all (fun x => !x.1) && (backToKw cpos (keywordEach [] X.env)).all (fun x => x.1.isSome)
      && decide ((e :: es).length + ([] : List Keyword).length + (if ([] : List Keyword).isEmpty then 0 else 1) < 30)) = true := by rfl)
    (hline : (apos.endLine == cpos.line) = true := by rfl) (hs : starEach (e :: es) X.env = (false, eval e X.env) :: starEach es X.env := by rfl) (hplain : (backTo cpos (starEach es X.env)).any (·.1) = false := by rfl) :
    PE X (.Call (.Attribute o name apos) (e :: es) [] cpos) (tBM X.K T r to t) := by
  intro pins s σ H Q I h
  refine wpAny_Call_method_late hbase hfew hline rfl (thn (ho pins s σ H _ I h) fun v s1 ⟨x, H1, I1, r1, ty, q1⟩ => ?_)
  obtain ⟨h1, h2⟩ := tyV_is I1 r1 ty
  refine ⟨T, id, pa, slot, hty, h1, h2, ?_⟩
  have hA := ha cpos pins s1 σ H1 _ I1 q1
  rw [hs] at hA ⊢
  refine Calls.callWith_builtin (by show (false || (backTo cpos (starEach es X.env)).any (·.1)) = false; rw [hplain] <;> rfl) (Calls.evalArgs_plain ?_)
  exact thn hA fun us s2 ⟨vs, H2, I2, r2, q2⟩ => hm pins s2 σ H2 x vs v us Q I2 r1 r2 q2
/- xs.append(e), list.index on a module's tuple .. are MtR facts of 06m -/
end
end L2
namespace L2
open PySem PySem.Spec PyProof.Rows
def MtM (X : Cx) (id : String) (r : V → List V → Hp → VK → Prop) : Prop :=
  ∀ (pins : List (Addr × Obj)) (s : Shared) (σ : St) (H : Hp) (x : V) (xs : List V) (v : Value) (us : List Value) (Q : VK), Inv X pins σ H s → RelV x v → Vals xs us → r x xs H Q →
    wpAny (model X.prog X.w) X.A (call (.builtin id) (v :: us)) (EP X pins σ Q) X.xe s
theorem Vals.one : ∀ {x : V} {us : List Value}, Vals [x] us → ∃ u, us = [u] ∧ RelV x u
  | _, _, .cons r .nil => ⟨_, rfl, r⟩
theorem Vals.rep {xs : List V} {us : List Value} (h : Vals xs us) : ∀ k : Nat, Vals (List.replicate k xs).flatten (List.replicate k us).flatten
  | 0 => .nil
  | k + 1 => by
    rw [List.replicate_succ, List.replicate_succ, List.flatten_cons, List.flatten_cons]
    exact Vals.append h (Vals.rep h k)
theorem foldl_rep (its : List Value) : ∀ (k : Nat) (acc : List Value),
    List.foldl (fun x1 x2 => x1 ++ x2) acc.toArray (List.replicate k its.toArray) = (acc ++ (List.replicate k its).flatten).toArray
  | 0, acc => by simp
  | k + 1, acc => by
    have e : acc.toArray ++ its.toArray = (acc ++ its).toArray := by simp
    have e2 : (acc ++ its) ++ (List.replicate k its).flatten = acc ++ (List.replicate (k + 1) its).flatten := by
      rw [List.replicate_succ, List.flatten_cons, List.append_assoc]
    rw [← e2, ← foldl_rep its k (acc ++ its), ← e, List.replicate_succ, List.foldl_cons]
section
variable {X : Cx} {pins : List (Addr × Obj)} {σ : St} {H : Hp} {s : Shared} {l b : Addr} {xs ys zs : List V}
theorem Inv.lset {its its' : List Value} {n : Nat} {f : Array Value → Array Value} {t' : Nat} (I : Inv X pins σ H s) (hH : H l = some (.lst xs))
    (e : s.heap.get? l = some { cls := .type "list", data := .seq its.toArray n }) (hf : f its.toArray = its'.toArray) (hv : Vals ys its') (hz : ys.length ≤ sizeLine) :
    Inv X pins σ (upd H l (.lst ys)) { s with heap := s.heap.update l (Obj.mapSeq f), toks := t' } := by
  have q := PySem.IsL.update e f
  rw [hf] at q
  refine I.write (x := l) (e := l) (by rw [hH]; exact trivial) (.inl rfl) (fun b' u hb hu => (Heap.get?_update_other s.heap (Obj.mapSeq f) (Ne.symm hb)).trans hu) ⟨_, q⟩ ?_
  exact ⟨hz, its', _, hv, q⟩
theorem Inv.lnew {its : List Value} {t' : Nat} (I : Inv X pins σ H s) (hv : Vals ys its) (hz : ys.length ≤ sizeLine) :
    Inv X pins σ (upd H s.heap.objs.size (.lst ys)) { s with heap := s.heap.push { cls := .type "list", data := .seq its.toArray }, toks := t' } :=
  I.laid (fun _ _ q => Heap.get?_push_of_some _ q) (Nat.le_refl _) ⟨hz, its, 0, hv, Heap.get?_push_size _ rfl⟩
theorem Inv.fresh (I : Inv X pins σ H s) : H s.heap.objs.size = none := I.hok.fresh (Nat.le_refl _)
theorem Inv.lstM (I : Inv X pins σ H s) (hH : H l = some (.lst xs)) : xs.length ≤ sizeLine ∧ ∃ (its : List Value) (n : Nat), Vals xs its ∧ xs.length = its.length ∧ s.heap.get? l = some { cls := .type "list", data := .seq its.toArray n } := by
  obtain ⟨z, its, n, r, e⟩ := I.hok l _ hH
  exact ⟨z, its, n, r, r.length, e⟩
theorem notLongL {n : Nat} (h : n ≤ sizeLine) : Builtin.List.listTooLong n = false := by
  unfold Builtin.List.listTooLong
  exact decide_eq_false (by (first | lia | omega))
end
section
variable {X : Cx}
inductive rAppend : V → List V → Hp → VK → Prop
  | mk {x : V} {vs : List V} {H : Hp} {Q : VK} (l xs y) (z_0 : x = .ref l) (z_1 : vs = [y]) (z_2 : H l = some (.lst xs)) (z_3 : xs.length < sizeLine) (z_4 : Q .non (upd H l (.lst (xs ++ [y])))) : rAppend  x vs H Q
theorem mt_append : MtM X "list.append" rAppend := by
  intro pins s σ H x vs v us Q I rx rv h
  obtain ⟨l, xs, y, rfl, rfl, hH, hz, q⟩ := h
  cases rx
  obtain ⟨u, rfl, ru⟩ := rv.one
  obtain ⟨z, its, n, r, hl, e⟩ := I.lstM hH
  refine call_meets F.slot_list_append ⟨_, e, rfl⟩ F.entry_list_append (F.args_list_append_2 _ _) (PySem.list_append l its.toArray n u (by rw [List.size_toArray]; (first | lia | omega))) ⟨e, ?_⟩
  refine ⟨.non, _, I.lset (its' := its ++ [u]) hH e (by simp) (r.append (.cons ru .nil)) ?_, rfl, q⟩
  rw [List.length_append, List.length_singleton]
  (first | lia | omega)
inductive rExtend : V → List V → Hp → VK → Prop
  | mk {x : V} {vs : List V} {H : Hp} {Q : VK} (l b xs zs) (z_0 : x = .ref l) (z_1 : vs = [.ref b]) (z_2 : H l = some (.lst xs)) (z_3 : H b = some (.lst zs)) (z_4 : xs.length + zs.length ≤ sizeLine) (z_5 : Q .non (upd H l (.lst (xs ++ zs)))) : rExtend  x vs H Q
theorem mt_extend : MtM X "list.extend" rExtend := by
  intro pins s σ H x vs v us Q I rx rv h
  obtain ⟨l, b, xs, zs, rfl, rfl, hH, hB, hz, q⟩ := h
  cases rx
  obtain ⟨u, rfl, ru⟩ := rv.one
  cases ru
  obtain ⟨z, its, n, r, hl, e⟩ := I.lstM hH
  obtain ⟨z2, its2, n2, r2, hl2, e2⟩ := I.lstM hB
  have hsz : its.toArray.size + its2.toArray.size ≤ sizeLine := by rw [List.size_toArray, List.size_toArray]; (first | lia | omega)
  have hlong : ¬ (!its.toArray.isEmpty && Builtin.List.listTooLong (its.toArray.size + its2.toArray.size)) = true := by
    rw [notLongL hsz, Bool.and_false]
    exact Bool.false_ne_true
  refine call_meets F.slot_list_extend ⟨_, e, rfl⟩ F.entry_list_extend (F.args_list_extend_2 _ _)
    (AutoSeq1.list_extend_list_list_0 l its.toArray n b its2.toArray n2 hlong (by rw [List.size_toArray]; (first | lia | omega)) (by (first | lia | omega))) ⟨e, e2, ?_⟩
  refine ⟨.non, _, I.lset (its' := its ++ its2) hH e (by simp) (r.append r2) ?_, rfl, q⟩
  rw [List.length_append]
  (first | lia | omega)
inductive rCat : V → V → Hp → VK → Prop
  | mk {x : V} {y : V} {H : Hp} {Q : VK} (l b xs zs) (z_0 : x = .ref l) (z_1 : y = .ref b) (z_2 : H l = some (.lst xs)) (z_3 : H b = some (.lst zs)) (z_4 : xs.length + zs.length ≤ sizeLine) (z_5 : ∀ p, H p = none → Q (.ref p) (upd H p (.lst (xs ++ zs)))) : rCat  x y H Q
theorem op_cat : OpR X (binaryOp .Add) rCat := by
  intro pins s σ H x y v u Q I rx ry h
  obtain ⟨l, b, xs, zs, rfl, rfl, hH, hB, hz, q⟩ := h
  cases rx
  cases ry
  obtain ⟨z, its, n, r, hl, e⟩ := I.lstM hH
  obtain ⟨z2, its2, n2, r2, hl2, e2⟩ := I.lstM hB
  refine PySem.P.add_list e e2 ?_ (by rw [List.size_toArray, List.size_toArray]; (first | lia | omega))
  have ea : its.toArray ++ its2.toArray = (its ++ its2).toArray := by simp
  rw [ea]
  exact ⟨.ref _, _, I.lnew (t' := s.toks) (r.append r2) (by rw [List.length_append]; (first | lia | omega)), rfl, q _ I.fresh⟩
/-- a list times an int (a negative one is nothing) -/
inductive rRep : V → V → Hp → VK → Prop
  | mk {x : V} {y : V} {H : Hp} {Q : VK} (l k xs) (z_0 : x = .ref l) (z_1 : y = .int k) (z_2 : H l = some (.lst xs)) (z_3 : -(2 ^ 63) ≤ k) (z_4 : k < 2 ^ 63) (z_5 : xs.length * k.toNat ≤ sizeLine) (z_6 : ∀ p, H p = none → Q (.ref p) (upd H p (.lst (List.replicate k.toNat xs).flatten))) : rRep  x y H Q
theorem len_rep {α : Type} (xs : List α) (k : Nat) : (List.replicate k xs).flatten.length = k * xs.length := by
  induction k with
  | zero => simp
  | succ k ih => rw [List.replicate_succ, List.flatten_cons, List.length_append, ih, Nat.succ_mul, Nat.add_comm]
theorem op_rep : OpR X (binaryOp .Mult) rRep := by
  intro pins s σ H x y v u Q I rx ry h
  obtain ⟨l, k, xs, rfl, rfl, hH, h1, h2, hz, q⟩ := h
  cases rx
  obtain ⟨t, rfl⟩ := ry
  obtain ⟨z, its, n, r, hl, e⟩ := I.lstM hH
  have hlen : its.toArray.size * k.toNat ≤ sizeLine := by rw [List.size_toArray, ← hl]; exact hz
  have hcap : ¬ its.toArray.size * k.toNat > (2 ^ 63 - 1) / 8 := by
    have : (sizeLine : Nat) ≤ (2 ^ 63 - 1) / 8 := by decide
    (first | lia | omega)
  have hfit : ¬ (!Builtin.List.listFitsIndex k) = true := by
    rw [fitsIndex_both h1 h2]
    exact Bool.false_ne_true
  have hlong : ¬ Builtin.List.listTooLong (its.toArray.size * k.toNat) = true := by
    rw [notLongL hlen]
    exact Bool.false_ne_true
  have hnew : List.foldl (fun x1 x2 => x1 ++ x2) #[] (List.replicate (if its.toArray.isEmpty = true then 0 else k.toNat) its.toArray) = (List.replicate k.toNat its).flatten.toArray := by
    have f0 : ∀ m : Nat, List.foldl (fun x1 x2 => x1 ++ x2) #[] (List.replicate m its.toArray) = (List.replicate m its).flatten.toArray := fun m => by
      have := foldl_rep its m []
      rw [List.nil_append] at this
      exact this
    rw [f0]
    cases its with
    | nil => simp
    | cons a r' => rw [if_neg (by simp)]
  refine wpAny_binaryOp_repeat_ref (T := "list") (U := "int") (by decide) ⟨_, e, rfl⟩ (fun s' => typeIs_int s' k t) noFill_list_mul F.fills_int_mul F.slot_int_rmul repeat_list F.slot_int_index.lookup
    (call_meets F.slot_int_rmul (typeIs_int s k t) F.entry_int_rmul (F.args_int_rmul_2 _ _) (int___rmul___int_list k t l its.toArray n)
      ⟨e, rfl, ⟨_, e, rfl⟩, call_meets F.slot_list_mul ⟨_, e, rfl⟩ F.entry_list_mul (F.args_list_mul_2 _ _) (AutoListH.list___mul___list_int_3 l its.toArray n k t hfit hcap hlong) ⟨e, ?_⟩⟩)
  rw [hnew]
  exact ⟨.ref _, _, I.lnew (t' := s.toks) (r.rep k.toNat) (by rw [len_rep, Nat.mul_comm]; exact hz), rfl, q _ I.fresh⟩
end
section
variable {prog : Program} {w : World} {A : Around} {E : Value → Shared → Prop} {s : Shared}
end
section
variable {X : Cx}
end
end L2
namespace Att
open PySem PySem.W PySem.Calls PyProof.Rows
theorem ints_of_wellAll {P : Params} {h : Heap} : ∀ (ns : List Int) (vs : List Value), WellAll P h vs (ns.map WData.int) → IntsAre vs ns := by
  intro ns
  induction ns with
  | nil =>
    intro vs w
    rw [List.map_nil] at w
    cases w
    exact .nil
  | cons n ns ih =>
    intro vs w
    rw [List.map_cons] at w
    cases w with
    | cons a b =>
      cases a
      exact .cons _ _ (ih _ b)
theorem script_of {l : OpenLaw} {n : Nat} (hn : l.most = some n) {P : Params} {h : Heap} {args : List WData} {vals : List Value}
    (hpre : l.row.toRowW.claim.pre args = true) (hwl : WellAll P h vals args) :
    ∃ a vs ns, vals = [Value.ref a] ∧ args = [WData.list (ns.map WData.int)] ∧ h.get? a = some { cls := .type "list", data := .seq vs.toArray } ∧ IntsAre vs ns ∧ ns.length ≤ n := by
  have hsh : WShape.hasAll [] args [.list .int] = true := (pre_splitW hpre).1
  have hc : l.pre.holds [] { args := args } = true := (pre_splitW hpre).2
  obtain ⟨d, r, rfl, h1, h2⟩ := hasAllW_cons hsh
  obtain rfl := hasAllW_nil h2
  obtain ⟨xs, rfl, h3⟩ := hasW_list h1
  obtain ⟨ns, rfl⟩ := items_int h3
  have hlen : ns.length ≤ n := by
    unfold OpenLaw.pre at hc
    have h4 : (WTm.not (.lt (.lit (.int (n : Int))) (.len (.arg 0)))).holds [] { args := [.list (ns.map .int)] } = true := by
      have h4 := (holds_andW hc).1
      rw [hn] at h4
      exact h4
    have h5 := condW_of h4 (w_not (w_lt w_lit (w_len_list (w_arg rfl))))
    rw [List.length_map] at h5
    refine Nat.le_of_not_lt fun q => ?_
    have q' : (n : Int) < ((ns.length : Nat) : Int) := by (first | lia | omega)
    first
      | (rw [decide_eq_true q'] at h5; exact absurd h5 (by decide))
      | (simp at h5; (first | lia | omega))
  cases hwl with
  | cons w1 w2 =>
    cases w2
    cases w1 with
    | list ho hall => exact ⟨_, _, ns, rfl, rfl, ho, ints_of_wellAll ns _ hall, hlen⟩
theorem post_true (l : OpenLaw) (args : List WData) : l.row.toRowW.claim.post args (.bool true) args = true :=
  postW_of (r := l.row.toRowW) (X := (true == true))
    (show WShape.has [] (.bool true) .bool = true by first | rfl | decide | simp [WShape.has, WShape.arms, WShape.armsAll])
    (show (WTm.eq .res (.lit (.bool true))).value [] { args := args, res := some (.bool true), after := args } = some (.bool (true == true)) from w_eq_bool (w_res rfl) w_lit) rfl
/-- the same from a codeAny of the CALL (for a layer whose function contracts speak of calls) -/
theorem attach_call {l : OpenLaw} {n : Nat} {q : Program} {loose : List Str} {XP : (Str → Option Value) → Heap → Prop} {YP : World → Heap → Prop} {d : DefRec}
    (hn : l.most = some n) (hdf : d.params.defaults = [])
    (call : ∀ (w : World) (s₀ s₁ : Shared) (mg mb : Str → Option Value) (fa : Addr) (o : Obj) (pm cd doc : Value) (a : Addr) (vs : List Value) (ns : List Int),
      Ground q loose [] XP w s₀ mg mb s₁.heap → YP w s₁.heap →
      s₁.heap.get? fa = some o → o.data = .func (docDef d.name d.params d.body d.scope pm cd doc) → s₁.heap.CodeRec cd d.name → mg d.name = some (.ref fa) →
      s₁.heap.get? a = some { cls := .type "list", data := .seq vs.toArray } → IntsAre vs ns → ns.length ≤ n → s₁.gens = #[] →
      codeAny (model l.prog w) callerA (.call (.ref fa) ⟨[.ref a], []⟩) (fun r s' => r = .ok (.ret (.bool true)) ∧ OldK s₁.heap s'.heap ∧ s'.os = s₁.os ∧ AllBare s'.gens) s₁) :
    WalkO q loose XP YP l.row.toRowW d [] (fun f vs => PySem.call f vs) := by
  intro w s₀ s₁ mg mb G Y fa o pm cd doc dV kV ho hd hcd hD hmg hg args vals as hpre hlay hrd hwl hlo
  obtain rfl : dV = .none := Dflts.none hD hdf
  obtain rfl : kV = .none := Dflts.noKw hD
  obtain ⟨a, vs, ns, rfl, rfl, hobj, hints, hlen⟩ := script_of hn hpre hwl
  refine enter_call (codeAny_mono (call w s₀ s₁ mg mb fa o pm cd doc a vs ns G Y ho (fd_plain hd) hcd hmg hobj hints hlen hg) fun r s' hq => ?_)
  obtain ⟨rfl, h2, h3, h4⟩ := hq
  exact ⟨.inl ⟨.bool true, .bool true, [], rfl, fun _ => rfl, .bool true, post_true l _, fun _ => ⟨List.Pairwise.nil, fun _ hm => (nomatch hm)⟩⟩, h2, h3, h4⟩
section
variable {prog : Program} {w : World} {A : Around} {E : Value → Shared → Prop} {s : Shared} {K : Frag}
end
end Att
namespace L2
open PySem PySem.Spec PyProof.Rows
theorem vals_ints : ∀ {vs : List Value} {ns : List Int}, IntsAre vs ns → Vals (ns.map V.int) vs
  | _, _, .nil => .nil
  | _, _, .cons n t h => .cons ⟨t, rfl⟩ (vals_ints h)
/-- nothing is tracked but the script, known to the object (or it is an object of the module) -/
def Only (H : Hp) : Prop := ∀ b, H b = none ∨ ∃ o xs, H b = some (.frz o (.lst xs))
/-- THE HEAD: the law's promise, at the heap behind the top. F, the promise of the law's def, may use that base is part of the heap (so K.In base, base.Ns mainGlobals mg stand in Mod) -/
theorem law_call {P : Program} {w : World} {K : PySem.W.Frag} {mg mb : Str → Option Value} {CX : CXT} {k : Nat} {fa a : Addr} {fd : FuncData} {x : Str} {sp : Sp} {s₁ : Shared} {vs : List Value} {ns : List Int}
    (KX : K.In s₁.heap) (hns : s₁.heap.Ns mainGlobals mg) (hb : s₁.heap.Ns builtinsNs mb) (hbb : ∀ x : Str, x ≠ "__name__" → mb x = bootBuiltins x) (hlim : s₁.heap.NoLimit) (hg : s₁.gens = #[])
    (ha : s₁.heap.get? a = some { cls := .type "list", data := .seq vs.toArray }) (hi : IntsAre vs ns) (hl : ns.length ≤ sizeLine) (hr : Room k callerA)
    (F : ∀ base : Heap, K.In base → base.Ns mainGlobals mg → FnOk P w K mg base CX k fa fd [x] sp) (hbind : ∀ (s : Shared) (u : Value), BindsTo s fd ⟨[u], []⟩ [(x, u)])
    (hsp : ∀ H : Hp, Only H → SqL K H a (ns.map V.int) → sp [.ref a] H (fun v _ => v = .bl true) fun _ _ _ => False)
    (hCX : ∀ H e s', CX [] H s₁ (fun _ _ _ => False) e s' → False) :
    codeAny (model P w) callerA (.call (.ref fa) ⟨[.ref a], []⟩) (fun r s' => r = .ok (.ret (.bool true)) ∧ OldK s₁.heap s'.heap ∧ s'.os = s₁.os ∧ AllBare s'.gens) s₁ := by
  have rv := vals_ints hi
  have lenV := hi.length
  -- from an abstract heap in which nothing but the script may be tracked
  have core : ∀ H : Hp, Only H → SqL K H a (ns.map V.int) → HOk P w H s₁.heap → (∀ b, H b ≠ none → b = a) → (H a ≠ none → K.lookup a = none) →
      codeAny (model P w) callerA (.call (.ref fa) ⟨[.ref a], []⟩) (fun r s' => r = .ok (.ret (.bool true)) ∧ OldK s₁.heap s'.heap ∧ s'.os = s₁.os ∧ AllBare s'.gens) s₁ := by
    intro H hO hS hok hA hK
    have base_of : ∀ {b : Addr} {o : Obj}, s₁.heap.get? b = some o → H b = none → (hidT s₁.heap H).get? b = some o := fun e n => hidT_get e n
    have noA : ∀ {b : Addr} {o : Obj} {es : Array DictEntry} {ep : Nat}, s₁.heap.get? b = some o → o.data = .dict es ep → H b = none := fun {b o es ep} e d => by
      cases q : H b with
      | none => rfl
      | some u =>
        have e' : b = a := hA b (by rw [q]; simp)
        subst e'
        rw [ha] at e; cases e
        have d' : Data.seq vs.toArray _ = Data.dict es ep := d
        cases d'
    have nsK : ∀ {b : Addr} {m : Str → Option Value}, s₁.heap.Ns b m → (hidT s₁.heap H).Ns b m := fun {b m} ⟨o, es, ep, e, d, r⟩ => ⟨o, es, ep, base_of e (noA e d), d, r⟩
    have hKb : K.In (hidT s₁.heap H) := fun b o e => base_of (KX b o e) (by
      cases q : H b with
      | none => rfl
      | some u =>
        have e' : b = a := hA b (by rw [q]; simp)
        subst e'
        rw [hK (by rw [q]; simp)] at e; cases e)
    have hM : Mod K mg (hidT s₁.heap H) := ⟨hKb, nsK hns, ⟨mb, nsK hb, hbb⟩, let ⟨mc, h1, h2⟩ := hlim; ⟨mc, nsK h1, h2⟩⟩
    have e0 : Env0 P w K mg (hidT s₁.heap H) callerA [] s₁ H := ⟨rfl, hM, fun b o e => of_hidT e, Nat.le_of_eq (hidT_size _ _), trivial, fun b hb => absurd (show b ∈ ([] : List Addr) from hb) (by simp), hok, .of_eq hg⟩
    refine codeAny_mono ((F _ hKb (nsK hns)).run callerA [] s₁ H ⟨[.ref a], []⟩ [.ref a] [.ref a] _ _ hr e0 (hbind s₁ (.ref a)) (.cons rfl .nil) (hsp H hO hS)) fun r s' h => ?_
    cases r with
    | error e => exact (hCX H e s' h).elim
    | ok fl =>
      cases fl with
      | next => exact False.elim h
      | brk => exact False.elim h
      | cont => exact False.elim h
      | ret u =>
        obtain ⟨v, H', os, bare, un, hok', r', q⟩ := h
        have q' : v = .bl true := q
        subst q'
        obtain rfl : u = Value.bool true := r'
        refine ⟨rfl, OldK.of_keep fun b o e => ?_, os, bare⟩
        cases q : H b with
        | none => exact un.keep b o e q (by intro z; exact absurd (show b ∈ ([] : List Addr) from z) (by simp)) (by simp)
        | some u =>
          rcases hO b with z | ⟨ob, xs, z⟩
          · rw [q] at z; cases z
          · have z2 := un.frzs b ob _ z
            obtain ⟨e1, _⟩ := hok b _ z
            obtain ⟨e2, _⟩ := hok' b _ z2
            rw [e] at e1; cases e1
            exact e2
  cases hk : K.lookup a with
  | some o =>
    -- the script is one of the module's own objects
    have e := KX a o hk
    rw [ha] at e
    cases e
    refine core (fun _ => none) (fun _ => .inl rfl) (.inr ⟨_, vs.toArray, _, hk, rfl, rfl, rfl, by rw [List.size_toArray, lenV]; exact hl, by simpa using rv⟩) (fun b u z => by have z' : (none : Option HO) = some u := z; cases z') (fun b z => absurd rfl z) fun z => absurd rfl z
  | none =>
    refine core (fun b => if b = a then some (.frz { cls := .type "list", data := .seq vs.toArray } (.lst (ns.map V.int))) else none) (fun b => ?_) (.inl (.inr ⟨{ cls := .type "list", data := .seq vs.toArray }, if_pos rfl⟩)) (fun b u z => ?_) (fun b z => ?_) fun _ => hk
    · by_cases hb : b = a
      · exact .inr ⟨_, _, if_pos hb⟩
      · exact .inl (if_neg hb)
    · by_cases hb : b = a
      · have z' := (if_pos hb).symm.trans z
        cases z'
        subst hb
        exact ⟨ha, by rw [List.length_map]; exact hl, vs, _, rv, ha⟩
      · have z' := (if_neg hb).symm.trans z
        cases z'
    · by_cases hb : b = a
      · exact hb
      · exact absurd (if_neg hb) z
end L2
namespace L2
open PySem PySem.Spec PyProof.Rows
abbrev KOf {K : PySem.W.Frag} {h : Heap} (_ : K.In h) : PySem.W.Frag := K
/-- the goal that k_head leaves (case hc), from the law's promise. F gives the function object fd (K's own) once, then the promise over every base -/
theorem walk_of {l : PySem.W.OpenLaw} {n k : Nat} {q : Program} {loose : List Str} {XP : (Str → Option Value) → Heap → Prop} {YP : World → Heap → Prop} {d : DefRec} {K : Params → PySem.W.Frag} {CX : World → CXT} {sp : World → Sp} {x : Str}
    (hn : l.most = some n) (hn2 : n ≤ sizeLine) (hdf : d.params.defaults = []) (hr : Room k callerA)
    (hY : ∀ (w : World) (h : Heap), YP w h → (K w.params).In h)
    (F : ∀ (w : World) (mg : Str → Option Value) (fa : Addr) (h : Heap), (K w.params).In h → h.Ns mainGlobals mg → mg d.name = some (.ref fa) →
      ∃ fd : FuncData, (∀ (s : Shared) (u : Value), BindsTo s fd ⟨[u], []⟩ [(x, u)]) ∧
        ∀ base : Heap, (K w.params).In base → base.Ns mainGlobals mg → FnOk l.prog w (K w.params) mg base (CX w) k fa fd [x] (sp w))
    (hsp : ∀ (w : World) (H : Hp) (a : Addr) (ns : List Int), ns.length ≤ n → Only H → SqL (K w.params) H a (ns.map V.int) → sp w [.ref a] H (fun v _ => v = .bl true) fun _ _ _ => False)
    (hCX : ∀ (w : World) (H : Hp) (s : Shared) (e : Value) (s' : Shared), CX w [] H s (fun _ _ _ => False) e s' → False) :
    PySem.W.WalkO q loose XP YP l.row.toRowW d [] (fun f vs => PySem.call f vs) := by
  refine Att.attach_call hn hdf fun w s₀ s₁ mg mb fa o pm cd doc a vs ns G Y ho hd hcd hmg hobj hints hlen hg => ?_
  have KX := hY w _ Y
  obtain ⟨fd, hb, hF⟩ := F w mg fa _ KX G.T.g hmg
  exact law_call KX G.T.g G.T.b G.T.builtins G.T.nolimit hg hobj hints (Nat.le_trans hlen hn2) hr hF hb (fun H hO hS => hsp w H a ns hlen hO hS) fun H e s' => hCX w H s₁ e s'
/-- the same where the promise hangs on the written part alone: (sp := My.sp_law), no hole under a binder -/
theorem walk_ofK {l : PySem.W.OpenLaw} {n k : Nat} {q : Program} {loose : List Str} {XP : (Str → Option Value) → Heap → Prop} {YP : World → Heap → Prop} {d : DefRec} {K : Params → PySem.W.Frag} {CX : CXT} {sp : PySem.W.Frag → Sp} {x : Str}
    (hn : l.most = some n) (hn2 : n ≤ sizeLine) (hdf : d.params.defaults = []) (hr : Room k callerA)
    (hY : ∀ (w : World) (h : Heap), YP w h → (K w.params).In h)
    (F : ∀ (w : World) (mg : Str → Option Value) (fa : Addr) (h : Heap), (K w.params).In h → h.Ns mainGlobals mg → mg d.name = some (.ref fa) →
      ∃ fd : FuncData, (∀ (s : Shared) (u : Value), BindsTo s fd ⟨[u], []⟩ [(x, u)]) ∧
        ∀ base : Heap, (K w.params).In base → base.Ns mainGlobals mg → FnOk l.prog w (K w.params) mg base CX k fa fd [x] (sp (K w.params)))
    (hsp : ∀ (K : PySem.W.Frag) (H : Hp) (a : Addr) (ns : List Int), ns.length ≤ n → Only H → SqL K H a (ns.map V.int) → sp K [.ref a] H (fun v _ => v = .bl true) fun _ _ _ => False)
    (hCX : ∀ (H : Hp) (s : Shared) (e : Value) (s' : Shared), CX [] H s (fun _ _ _ => False) e s' → False) :
    PySem.W.WalkO q loose XP YP l.row.toRowW d [] (fun f vs => PySem.call f vs) :=
  walk_of (K := K) (CX := fun _ => CX) (sp := fun w => sp (K w.params)) hn hn2 hdf hr hY F (fun w H a ns h1 h2 h3 => hsp (K w.params) H a ns h1 h2 h3) fun _ H s e s' => hCX H s e s'
end L2
namespace L2
open PySem PySem.Spec PyProof.Rows
def defArgs (s : Stmt) : Arguments := match s with
  | .FunctionDef _ a _ _ _ _ _ _ _ _ => a
  | _ => { posonlyargs := [], args := [], vararg := none, kwonlyargs := [], kw_defaults := [], kwarg := none, defaults := [] }
def defBody (s : Stmt) : List Stmt := match s with
  | .FunctionDef _ _ b _ _ _ _ _ _ _ => b
  | _ => []
def defScope (s : Stmt) : Scope := match s with
  | .FunctionDef _ _ _ _ _ _ sc _ _ _ => sc
  | _ => { kind := .function, names := [], isGenerator := false, isCoroutine := false }
abbrev CX0 : CXT := fun _ _ _ _ _ _ => False
abbrev E0 : XK := fun _ _ _ => False
theorem pass0 {X : Cx} : Passes CX0 X E0 := fun _ _ _ _ _ _ _ h => h.elim
structure Fun (K : PySem.W.Frag) (x qual : Str) (st : Stmt) (f : Addr) (fd : FuncData) : Prop where
  ex : ∃ (oc : Value) (od : Option Addr) (kV doc pm : Value) (an : Option Addr) (cdv ct : Value) (osl : Array (Option Value)),
    fd = PySem.W.fnOf x qual (defArgs st) (defBody st) (defScope st) .none kV doc pm an cdv ct ∧ K.lookup f = some ⟨oc, od, .func fd, osl⟩ ∧ PySem.W.codeIn K cdv qual = true
  kp : PySem.W.keepIn K (.ref f) = true
section
variable {P : Program} {w : World} {K : PySem.W.Frag} {mg : Str → Option Value} {base : Heap}
/-- THE RULE for a def: its body as a term of rules, and the reading of that term -/
theorem Fun.ok {x qual : Str} {st : Stmt} {f : Addr} {fd : FuncData} {N ps : List Str} {k : Nat} {sp : Sp} (F : Fun K x qual st f fd) (S : FnScope N ps (defScope st)) (len : ∀ vs H Q E, sp vs H Q E → vs.length = ps.length)
    (hbody : ∀ (cdv : Value) (A : Around) (outer : List Env) (s : Shared) (H : Hp) (vs : List V) (Q : VK) (E : XK), Room k (A.deeper (envOfC qual (defScope st) s.heap.objs.size f cdv)) → sp vs H Q E →
      ∃ t, PSs (cxOf CX0 P w K mg base N qual (defScope st) f cdv A outer s H E).nox (defBody st) t ∧ t { nx := fun _ H' => Q .non H', rt := Q } (start N vs) H) : FnOk P w K mg base CX0 (k + 1) f fd ps sp := by
  obtain ⟨oc, od, kV, doc, pm, an, cdv, ct, osl, rfl, lk, hcd⟩ := F.ex
  refine fn_of lk hcd S len fun A outer s H vs Q E hr hsp => ?_
  obtain ⟨t, h, q⟩ := hbody cdv A outer s H vs Q E hr hsp
  exact ⟨t, h.nox, q⟩
/-- how its arguments bind (no defaults): h is «fun _ _ _ _ _ _ us hl => match us, hl with | [_, _], _ => rfl», one _ a parameter -/
theorem Fun.binds {x qual : Str} {st : Stmt} {f : Addr} {fd : FuncData} {ps : List Str} (F : Fun K x qual st f fd)
    (h : ∀ (kV doc pm : Value) (an : Option Addr) (cdv ct : Value) (us : List Value), us.length = ps.length → bindArgs (PySem.W.fnOf x qual (defArgs st) (defBody st) (defScope st) .none kV doc pm an cdv ct) ⟨us, []⟩ = pure (ps.zip us)) : Binds K fd ps [] := by
  obtain ⟨oc, od, kV, doc, pm, an, cdv, ct, osl, rfl, lk, hcd⟩ := F.ex
  exact .all (h kV doc pm an cdv ct)
theorem fun_mk {x qual : Str} {st : Stmt} {f : Addr} {oc : Value} {od an : Option Addr} {osl : Array (Option Value)} {kV doc pm cdv ct : Value} (l : K.lookup f = some ⟨oc, od, .func (PySem.W.fnOf x qual (defArgs st) (defBody st) (defScope st) .none kV doc pm an cdv ct), osl⟩)
    (c : PySem.W.codeIn K cdv qual = true) (k : PySem.W.keepIn K (.ref f) = true) : Fun K x qual st f (PySem.W.fnOf x qual (defArgs st) (defBody st) (defScope st) .none kV doc pm an cdv ct) := ⟨⟨oc, od, kV, doc, pm, an, cdv, ct, osl, rfl, l, c⟩, k⟩
end
theorem small1000 {n : Nat} (h : n ≤ 1000) : n < sizeLine := Nat.lt_of_le_of_lt h (by decide)
section
variable {X : Cx}
theorem pv (i : Nat) {x : Str} {pos : Pos} (hN : X.N[i]? = some x := by rfl) (hv : Vis X.env.scope x := by first | exact Or.inl rfl | exact Or.inr (Or.inl rfl) | exact Or.inr (Or.inr rfl)) (hd : (x == ("__debug__" : Str)) = false := by decide)
    (hcd : (x == ("__classdict__" : Str)) = false := by decide) : PE X (.Name x pos) (tVar i) := pe_var hN hv hd hcd
end
theorem iteF {A B : Prop} (h : B) : if false = true then A else B := by
  rw [if_neg Bool.false_ne_true]
  exact h
theorem iteT {A B : Prop} (h : A) : if true = true then A else B := by
  rw [if_pos rfl]
  exact h
theorem ite2 {c A B : Prop} [Decidable c] (h1 : c → A) (h2 : ¬ c → B) : if c then A else B := by
  by_cases h : c
  · rw [if_pos h]
    exact h1 h
  · rw [if_neg h]
    exact h2 h
theorem iteNS {c A B : Prop} [Decidable c] (hc : c) (h : B) : if (!decide c) = true then A else B := by
  rw [decide_eq_true hc]
  exact iteF h
/-- all that was tracked is as it was -/
def Same (H H' : Hp) : Prop := ∀ b o, H b = some o → H' b = some o
theorem Same.refl (H : Hp) : Same H H := fun _ _ h => h
theorem Same.trans {H H1 H2 : Hp} (a : Same H H1) (b : Same H1 H2) : Same H H2 := fun c o h => b c o (a c o h)
theorem Same.free {H H' : Hp} (e : Same H H') {l : Addr} (h : H' l = Option.none) : H l = Option.none := by
  cases q : H l with
  | none => rfl
  | some o =>
    rw [e l o q] at h
    cases h
theorem Same.seq {K : PySem.W.Frag} {H H' : Hp} {a : Addr} {xs : List V} (e : Same H H') (h : SqL K H a xs) : SqL K H' a xs := by
  rcases h with (h | ⟨o, h⟩) | h
  · exact .inl (.inl (e _ _ h))
  · exact .inl (.inr ⟨o, e _ _ h⟩)
  · exact .inr h
end L2
namespace SM
def Cg (p a b : Int) : Prop := ∃ k, a = b + p * k
theorem Cg.refl (p a : Int) : Cg p a a := ⟨0, by grind⟩
theorem Cg.symm {p a b : Int} (h : Cg p a b) : Cg p b a := by obtain ⟨k, h⟩ := h; exact ⟨-k, by grind⟩
theorem Cg.trans {p a b c : Int} (h : Cg p a b) (g : Cg p b c) : Cg p a c := by
  obtain ⟨k, h⟩ := h; obtain ⟨m, g⟩ := g; exact ⟨k + m, by grind⟩
theorem Cg.add {p a b c d : Int} (h : Cg p a b) (g : Cg p c d) : Cg p (a + c) (b + d) := by
  obtain ⟨k, h⟩ := h; obtain ⟨m, g⟩ := g; exact ⟨k + m, by grind⟩
theorem Cg.sub {p a b c d : Int} (h : Cg p a b) (g : Cg p c d) : Cg p (a - c) (b - d) := by
  obtain ⟨k, h⟩ := h; obtain ⟨m, g⟩ := g; exact ⟨k - m, by grind⟩
theorem Cg.mul {p a b c d : Int} (h : Cg p a b) (g : Cg p c d) : Cg p (a * c) (b * d) := by
  obtain ⟨k, h⟩ := h; obtain ⟨m, g⟩ := g; exact ⟨b * m + k * d + p * k * m, by grind⟩
theorem Cg.of_eq {p a b : Int} (h : a = b) : Cg p a b := h ▸ Cg.refl p a
theorem Cg.mod (p a : Int) : Cg p (a % p) a := ⟨-(a / p), by have := Int.mul_ediv_add_emod a p; grind⟩
theorem Cg.emod {p a b : Int} (h : Cg p a b) : a % p = b % p := by
  obtain ⟨k, h⟩ := h
  rw [h, Int.add_mul_emod_self_left]
theorem Cg.of_emod {p a b : Int} (h : a % p = b % p) : Cg p a b := (Cg.mod p a).symm.trans ((Cg.of_eq h).trans (Cg.mod p b))
theorem Cg.small {p a b : Int} (h : Cg p a b) (a0 : 0 ≤ a) (a1 : a < p) (b0 : 0 ≤ b) (b1 : b < p) : a = b := by
  have := h.emod
  rwa [Int.emod_eq_of_lt a0 a1, Int.emod_eq_of_lt b0 b1] at this
def ev (c : List Int) (x : Int) : Int := c.foldr (fun a t => t * x + a) 0
theorem ev_cons (a : Int) (c : List Int) (x : Int) : ev (a :: c) x = ev c x * x + a := rfl
theorem ev_snoc0 : ∀ (c : List Int) (x : Int), ev (c ++ [0]) x = ev c x
  | [], x => by simp [ev]
  | a :: c, x => by rw [List.cons_append, ev_cons, ev_cons, ev_snoc0 c x]
def signAt (p : Int) (c : List Int) (x : Int) : Int := c.foldr (fun a t => ((t * x) % p + a) % p) 0
def along (p : Int) (c : List Int) (n : Nat) : List Int := (List.range n).map fun (k : Nat) => signAt p c (k : Int)
def sumC (p : Int) (a b : List Int) : List Int := List.zipWith (fun l r => (l + r) % p) a b
def scal (p : Int) (c : List Int) (f : Int) : List Int := c.map fun a => (a * f) % p
def woN (p : Int) (c : List Int) (x : Int) : List Int := List.zipWith (fun u d => (u - d) % p) (0 :: c) (scal p (c ++ [0]) x)
/-- power's loop: result, square, left -/
def powGo (p : Int) : Nat → Int → Int → Nat → Int
  | 0, r, _, _ => r
  | f + 1, r, q, n => if n = 0 then r else powGo p f (if n % 2 = 1 then (r * q) % p else r) ((q * q) % p) (n / 2)
def pow (p s : Int) (n : Nat) : Int := powGo p (n + 1) 1 s n
def inv (p s : Int) : Int := pow p s (p - 2).toNat
/-- a turn of curve_through -/
def ctTurn (p : Int) (st : List Int × List Int) (xs : Int × Int) : List Int × List Int :=
  let missing := (xs.2 - signAt p st.1 xs.1) % p
  let height := signAt p st.2 xs.1
  let share := (missing * inv p height) % p
  (sumC p (st.1 ++ [0]) (scal p st.2 share), woN p st.2 xs.1)
def ct (p : Int) (places signs : List Int) : List Int := ((places.zip signs).foldl (ctTurn p) ([], [1])).1
def lengthened (p : Int) (word : List Int) (n : Nat) : List Int := along p (ct p ((List.range word.length).map (fun (k : Nat) => (k : Int))) word) n
theorem signAt_ev {p : Int} : ∀ (c : List Int) (x : Int), signAt p c x = ev c x % p
  | [], x => by simp [signAt, ev]
  | a :: c, x => by
    show ((signAt p c x * x) % p + a) % p = (ev c x * x + a) % p
    rw [signAt_ev c x]
    exact (((Cg.mod p _).trans ((Cg.mod p _).mul (Cg.refl p x))).add (Cg.refl p a)).emod
theorem scal_len (p : Int) (c : List Int) (f : Int) : (scal p c f).length = c.length := by simp [scal]
theorem sumC_len (p : Int) (a b : List Int) (h : a.length = b.length) : (sumC p a b).length = a.length := by simp [sumC, h]
theorem woN_len (p : Int) (c : List Int) (x : Int) : (woN p c x).length = c.length + 1 := by simp [woN, scal]
theorem sumC_ev {p : Int} : ∀ (a b : List Int) (x : Int), a.length = b.length → Cg p (ev (sumC p a b) x) (ev a x + ev b x)
  | [], [], x, _ => Cg.of_eq (by simp [sumC, ev])
  | a :: as, b :: bs, x, h => by
    have ih := sumC_ev (p := p) as bs x (by simpa using h)
    show Cg p (ev (sumC p as bs) x * x + (a + b) % p) ((ev as x * x + a) + (ev bs x * x + b))
    refine ((ih.mul (Cg.refl p x)).add (Cg.mod p (a + b))).trans (Cg.of_eq ?_)
    grind
  | [], _ :: _, _, h => by simp at h
  | _ :: _, [], _, h => by simp at h
theorem scal_ev {p : Int} : ∀ (c : List Int) (f x : Int), Cg p (ev (scal p c f) x) (f * ev c x)
  | [], f, x => Cg.of_eq (by simp [scal, ev])
  | a :: c, f, x => by
    have ih := scal_ev (p := p) c f x
    show Cg p (ev (scal p c f) x * x + (a * f) % p) (f * (ev c x * x + a))
    refine ((ih.mul (Cg.refl p x)).add (Cg.mod p (a * f))).trans (Cg.of_eq ?_)
    grind
theorem zipSub_ev {p : Int} : ∀ (a b : List Int) (x : Int), a.length = b.length → Cg p (ev (List.zipWith (fun u d => (u - d) % p) a b) x) (ev a x - ev b x)
  | [], [], x, _ => Cg.of_eq (by simp [ev])
  | a :: as, b :: bs, x, h => by
    have ih := zipSub_ev (p := p) as bs x (by simpa using h)
    show Cg p (ev (List.zipWith (fun u d => (u - d) % p) as bs) x * x + (a - b) % p) ((ev as x * x + a) - (ev bs x * x + b))
    refine ((ih.mul (Cg.refl p x)).add (Cg.mod p (a - b))).trans (Cg.of_eq ?_)
    grind
  | [], _ :: _, _, h => by simp at h
  | _ :: _, [], _, h => by simp at h
theorem woN_ev {p : Int} (c : List Int) (r x : Int) : Cg p (ev (woN p c r) x) ((x - r) * ev c x) := by
  have h1 := zipSub_ev (p := p) (0 :: c) (scal p (c ++ [0]) r) x (by simp [scal])
  have h2 := scal_ev (p := p) (c ++ [0]) r x
  rw [ev_snoc0] at h2
  refine h1.trans (((Cg.refl p (ev (0 :: c) x)).sub h2).trans (Cg.of_eq ?_))
  rw [ev_cons]
  grind
/-- what is asked of the prime: the program's inverse is one -/
structure Fld (p : Int) : Prop where
  two : 2 ≤ p
  inv : ∀ a : Int, 0 < a → a < p → Cg p (inv p a * a) 1
theorem Fld.pos {p : Int} (F : Fld p) : 0 < p := by have := F.two; (first | lia | omega)
theorem Fld.zero {p a b : Int} (F : Fld p) (h : Cg p (a * b) 0) (ha : ¬ Cg p a 0) : Cg p b 0 := by
  have hp := F.pos
  have e := Cg.mod p a
  have a0 : 0 ≤ a % p := Int.emod_nonneg a (by (first | lia | omega))
  have a1 : a % p < p := Int.emod_lt_of_pos a hp
  have ne : a % p ≠ 0 := fun z => ha (e.symm.trans (Cg.of_eq z))
  have i := F.inv (a % p) (by (first | lia | omega)) a1
  have s1 : Cg p b ((SM.inv p (a % p) * (a % p)) * b) := by
    have := (i.symm).mul (Cg.refl p b)
    exact (Cg.of_eq (by grind)).trans this
  refine s1.trans ?_
  have s2 : Cg p ((SM.inv p (a % p) * (a % p)) * b) (SM.inv p (a % p) * (a * b)) := by
    refine (Cg.of_eq (b := SM.inv p (a % p) * ((a % p) * b)) (by grind)).trans ?_
    exact (Cg.refl p _).mul (e.mul (Cg.refl p b))
  exact (s2.trans ((Cg.refl p _).mul h)).trans (Cg.of_eq (by grind))
def quot (c : List Int) (r : Int) : List Int := match c with
  | [] => []
  | _ :: c => go c
where go : List Int → List Int
  | [] => []
  | a :: c => ev (a :: c) r :: go c
theorem go_len (r : Int) : ∀ c : List Int, (quot.go r c).length = c.length
  | [] => rfl
  | _ :: c => by simp [quot.go, go_len r c]
theorem go_ev (r x : Int) : ∀ c : List Int, ∀ a : Int, ev (a :: c) x - ev (a :: c) r = (x - r) * ev (quot.go r c) x
  | [], a => by simp [quot.go, ev]
  | b :: c, a => by
    have ih := go_ev r x c b
    rw [ev_cons, ev_cons (a := a) (x := r)]
    show _ = (x - r) * (ev (quot.go r c) x * x + ev (b :: c) r)
    grind
theorem roots {p : Int} (F : Fld p) : ∀ (n : Nat) (c xs : List Int), c.length = n → xs.length = n → xs.Pairwise (fun a b => ¬ Cg p (b - a) 0) → (∀ x ∈ xs, Cg p (ev c x) 0) → ∀ x, Cg p (ev c x) 0
  | 0, c, xs, hc, _, _, _, x => by
    have : c = [] := List.length_eq_zero_iff.mp hc
    subst this; exact Cg.of_eq rfl
  | n + 1, c, xs, hc, hx, hd, hr, x => by
    match c, xs, hc, hx with
    | a :: c, r :: xs, hc, hx =>
      have hd' := List.pairwise_cons.mp hd
      have hr0 := hr r (List.mem_cons_self ..)
      have h : ∀ y ∈ xs, Cg p (ev (quot.go r c) y) 0 := fun y hy => by
        have e := go_ev r y c a
        have h1 := (hr y (List.mem_cons_of_mem _ hy)).sub hr0
        have h2 : Cg p ((y - r) * ev (quot.go r c) y) 0 := by rw [← e]; exact h1.trans (Cg.of_eq (by (first | lia | omega)))
        exact F.zero h2 (hd'.1 y hy)
      have q := roots F n (quot.go r c) xs (by rw [go_len]; simpa using hc) (by simpa using hx) hd'.2 h x
      have e := go_ev r x c a
      have e2 : ev (a :: c) x = (x - r) * ev (quot.go r c) x + ev (a :: c) r := by (first | lia | omega)
      rw [e2]
      exact (((Cg.refl p _).mul q).add hr0).trans (Cg.of_eq (by grind))
theorem sub_curves (p : Int) (a b : List Int) (h : a.length = b.length) : ∃ c : List Int, c.length = a.length ∧ ∀ x, Cg p (ev c x) (ev a x - ev b x) :=
  ⟨List.zipWith (fun u d => (u - d) % p) a b, by simp [h], fun x => zipSub_ev a b x h⟩
/-- two curves of one size that are the same at as many different places are the same -/
theorem same_curve {p : Int} (F : Fld p) {a b xs : List Int} (hab : a.length = b.length) (hx : xs.length = a.length) (hd : xs.Pairwise (fun a b => ¬ Cg p (b - a) 0)) (h : ∀ x ∈ xs, Cg p (ev a x) (ev b x)) (x : Int) : Cg p (ev a x) (ev b x) := by
  obtain ⟨c, hc, e⟩ := sub_curves p a b hab
  have q := roots F a.length c xs hc hx hd (fun y hy => (e y).trans (((h y hy).sub (Cg.refl p _)).trans (Cg.of_eq (by (first | lia | omega))))) x
  have e2 := (e x).symm.trans q
  have := e2.add (Cg.refl p (ev b x))
  exact ((Cg.of_eq (by (first | lia | omega))).trans this).trans (Cg.of_eq (by (first | lia | omega)))
/-- the invariant of curve_through: behind the places xs with the signs ss -/
structure CtI (p : Int) (xs ss : List Int) (st : List Int × List Int) : Prop where
  len1 : st.1.length = xs.length
  len2 : st.2.length = xs.length + 1
  has : ∀ (i : Nat) (x s : Int), xs[i]? = some x → ss[i]? = some s → Cg p (ev st.1 x) s
  nought : ∀ x ∈ xs, Cg p (ev st.2 x) 0
  other : ∀ x, (∀ y ∈ xs, ¬ Cg p (x - y) 0) → ¬ Cg p (ev st.2 x) 0
theorem CtI.start {p : Int} (F : Fld p) : CtI p [] [] ([], [1]) := by
  refine ⟨rfl, rfl, fun i x s h => by simp at h, fun x h => by simp at h, fun x _ h => ?_⟩
  have hp := F.two
  have e : ev [1] x = 1 := by simp [ev]
  rw [show (([], [1]) : List Int × List Int).2 = [1] from rfl, e] at h
  have := h.emod
  rw [Int.emod_eq_of_lt (by (first | lia | omega)) (by (first | lia | omega)), Int.zero_emod] at this
  (first | lia | omega)
theorem CtI.turn {p : Int} (F : Fld p) {xs ss : List Int} {st : List Int × List Int} {x s : Int} (I : CtI p xs ss st) (hl : xs.length = ss.length) (hd : ∀ y ∈ xs, ¬ Cg p (x - y) 0) :
    CtI p (xs ++ [x]) (ss ++ [s]) (ctTurn p st (x, s)) := by
  have l1 := I.len1
  have l2 := I.len2
  have hp := F.pos
  have nz := I.other x hd
  have h0 : 0 ≤ ev st.2 x % p := Int.emod_nonneg _ (by (first | lia | omega))
  have h1 : ev st.2 x % p < p := Int.emod_lt_of_pos _ hp
  have h2 : ev st.2 x % p ≠ 0 := fun z => nz ((Cg.mod p _).symm.trans (Cg.of_eq z))
  have hi := F.inv (ev st.2 x % p) (by (first | lia | omega)) h1
  have hlen : (st.1 ++ [0]).length = (scal p st.2 (((s - signAt p st.1 x) % p * inv p (signAt p st.2 x)) % p)).length := by rw [scal_len]; simp; (first | lia | omega)
  have evc : ∀ y, Cg p (ev (ctTurn p st (x, s)).1 y) (ev st.1 y + (((s - signAt p st.1 x) % p * inv p (signAt p st.2 x)) % p) * ev st.2 y) := fun y => by
    have a := sumC_ev (p := p) (st.1 ++ [0]) (scal p st.2 (((s - signAt p st.1 x) % p * inv p (signAt p st.2 x)) % p)) y hlen
    rw [ev_snoc0] at a
    exact a.trans ((Cg.refl p _).add (scal_ev st.2 _ y))
  have evn : ∀ y, Cg p (ev (ctTurn p st (x, s)).2 y) ((y - x) * ev st.2 y) := fun y => woN_ev st.2 x y
  refine ⟨?_, ?_, ?_, ?_, ?_⟩
  · show (sumC p (st.1 ++ [0]) _).length = _
    rw [sumC_len p _ _ hlen]; simp; (first | lia | omega)
  · show (woN p st.2 x).length = _
    rw [woN_len]; simp; (first | lia | omega)
  · intro i y t hy ht
    by_cases hlt : i < xs.length
    · have hy' : xs[i]? = some y := by rwa [List.getElem?_append_left hlt] at hy
      have ht' : ss[i]? = some t := by rwa [List.getElem?_append_left (by (first | lia | omega))] at ht
      have n0 := I.nought y (List.mem_of_getElem? hy')
      refine (evc y).trans (((I.has i y t hy' ht').add ((Cg.refl p _).mul n0)).trans (Cg.of_eq (by grind)))
    · by_cases he : i = xs.length
      · subst he
        have ey : y = x := by simpa [eq_comm] using hy
        have et : t = s := by rw [hl] at ht; simpa [eq_comm] using ht
        subst ey; subst et
        refine (evc y).trans ?_
        rw [signAt_ev, signAt_ev]
        have m1 : Cg p ((t - ev st.1 y % p) % p) (t - ev st.1 y) := (Cg.mod p _).trans ((Cg.refl p t).sub (Cg.mod p _))
        have m2 : Cg p (((t - ev st.1 y % p) % p * inv p (ev st.2 y % p)) % p * ev st.2 y) ((t - ev st.1 y) * (inv p (ev st.2 y % p) * (ev st.2 y % p))) := by
          refine (((Cg.mod p _).trans (m1.mul (Cg.refl p _))).mul (Cg.mod p (ev st.2 y)).symm).trans (Cg.of_eq ?_)
          grind
        have m3 := m2.trans ((Cg.refl p (t - ev st.1 y)).mul hi)
        exact ((Cg.refl p (ev st.1 y)).add m3).trans (Cg.of_eq (by grind))
      · have : (xs ++ [x])[i]? = none := List.getElem?_eq_none (by simp; (first | lia | omega))
        rw [this] at hy; cases hy
  · intro y hy
    refine (evn y).trans ?_
    rcases List.mem_append.mp hy with hy | hy
    · exact ((Cg.refl p _).mul (I.nought y hy)).trans (Cg.of_eq (by grind))
    · have : y = x := by simpa using hy
      subst this
      exact Cg.of_eq (by grind)
  · intro y hy h
    have h' := (evn y).symm.trans h
    have hyx : ¬ Cg p (y - x) 0 := hy x (by simp)
    exact I.other y (fun z hz => hy z (by simp [hz])) (F.zero h' hyx)
theorem ct_fold {p : Int} (F : Fld p) : ∀ (xs' ss' xs ss : List Int) (st : List Int × List Int), CtI p xs ss st → xs.length = ss.length → xs'.length = ss'.length → (xs ++ xs').Pairwise (fun a b => ¬ Cg p (b - a) 0) →
    CtI p (xs ++ xs') (ss ++ ss') ((xs'.zip ss').foldl (ctTurn p) st)
  | [], [], xs, ss, st, I, _, _, _ => by simpa using I
  | x :: xs', s :: ss', xs, ss, st, I, hl, hl', hd => by
    have hd' : ((xs ++ [x]) ++ xs').Pairwise (fun a b => ¬ Cg p (b - a) 0) := by simpa using hd
    have hx : ∀ y ∈ xs, ¬ Cg p (x - y) 0 := fun y hy => (List.pairwise_append.mp hd).2.2 y hy x (List.mem_cons_self ..)
    have := ct_fold F xs' ss' (xs ++ [x]) (ss ++ [s]) (ctTurn p st (x, s)) (I.turn F hl hx) (by simp [hl]) (by simpa using hl') hd'
    simpa using this
  | [], _ :: _, _, _, _, _, _, h, _ => by simp at h
  | _ :: _, [], _, _, _, _, _, h, _ => by simp at h
theorem ct_ok {p : Int} (F : Fld p) {xs ss : List Int} (hl : xs.length = ss.length) (hd : xs.Pairwise (fun a b => ¬ Cg p (b - a) 0)) :
    (ct p xs ss).length = xs.length ∧ ∀ (i : Nat) (x s : Int), xs[i]? = some x → ss[i]? = some s → Cg p (ev (ct p xs ss) x) s := by
  have I := ct_fold F xs ss [] [] ([], [1]) (CtI.start F) rfl hl (by simpa using hd)
  simp only [List.nil_append] at I
  exact ⟨I.len1, I.has⟩
/-- places 0 .. n - 1 are different where n is at most the prime -/
theorem range_apart {p : Int} {n : Nat} (h : (n : Int) ≤ p) : ((List.range n).map (fun (k : Nat) => (k : Int))).Pairwise (fun a b => ¬ Cg p (b - a) 0) := by
  rw [List.pairwise_map]
  have := List.pairwise_lt_range (n := n)
  refine (List.Pairwise.and_mem.mp this).imp ?_
  rintro a b ⟨ha, hb, hab⟩ hc
  have ha' := List.mem_range.mp ha
  have hb' := List.mem_range.mp hb
  have := hc.emod
  rw [Int.emod_eq_of_lt (by (first | lia | omega)) (by (first | lia | omega)), Int.zero_emod] at this
  (first | lia | omega)
end SM
namespace SM
def pts (p : Int) (c : List Int) (n : Nat) : List Int := (List.range n).map fun (k : Nat) => ev c (k : Int) % p
theorem along_pts (p : Int) (c : List Int) (n : Nat) : along p c n = pts p c n := by
  unfold along pts
  exact List.map_congr_left fun k _ => signAt_ev c k
theorem pts_len (p : Int) (c : List Int) (n : Nat) : (pts p c n).length = n := by simp [pts]
theorem pts_get {p : Int} {c : List Int} {n i : Nat} (h : i < n) : (pts p c n)[i]? = some (ev c (i : Int) % p) := by simp [pts, h]
abbrev rng (n : Nat) : List Int := (List.range n).map fun (k : Nat) => (k : Int)
theorem lengthened_pts (p : Int) (word : List Int) (n : Nat) : lengthened p word n = pts p (ct p (rng word.length) word) n := along_pts ..
theorem lengthened_len (p : Int) (word : List Int) (n : Nat) : (lengthened p word n).length = n := by rw [lengthened_pts, pts_len]
theorem addC_ev : ∀ (a b : List Int) (x : Int), a.length = b.length → ev (List.zipWith (· + ·) a b) x = ev a x + ev b x
  | [], [], _, _ => by simp [ev]
  | a :: as, b :: bs, x, h => by
    show ev (List.zipWith (· + ·) as bs) x * x + (a + b) = (ev as x * x + a) + (ev bs x * x + b)
    rw [addC_ev as bs x (by simpa using h)]; grind
  | [], _ :: _, _, h => by simp at h
  | _ :: _, [], _, h => by simp at h
def dif (p : Int) (row : List Int) : List Int := (List.range (row.length - 1)).map fun (k : Nat) => (row.getD (k + 1) 0 - row.getD k 0) % p
def difN (p : Int) (row : List Int) : Nat → List Int
  | 0 => row
  | n + 1 => dif p (difN p row n)
theorem powGo_fuel {p : Int} : ∀ (f g : Nat) (r q : Int) (n : Nat), n < 2 ^ f → n < 2 ^ g → powGo p f r q n = powGo p g r q n
  | 0, 0, _, _, _, _, _ => rfl
  | 0, g + 1, r, q, n, h, _ => by
    have : n = 0 := by simpa using h
    subst this; simp [powGo]
  | f + 1, 0, r, q, n, _, h => by
    have : n = 0 := by simpa using h
    subst this; simp [powGo]
  | f + 1, g + 1, r, q, n, h, h' => by
    show (if n = 0 then r else _) = (if n = 0 then r else _)
    by_cases hn : n = 0
    · rw [if_pos hn, if_pos hn]
    · rw [if_neg hn, if_neg hn]
      exact powGo_fuel f g _ _ _ (by rw [Nat.pow_succ] at h; (first | lia | omega)) (by rw [Nat.pow_succ] at h'; (first | lia | omega))
def powN (p : Nat) : Nat → Nat → Nat → Nat → Nat
  | 0, r, _, _ => r
  | f + 1, r, q, n => bif n.beq 0 then r else powN p f (bif (n % 2).beq 1 then (r * q) % p else r) ((q * q) % p) (n / 2)
theorem powN_eq (p : Nat) : ∀ (f r q n : Nat), powGo (p : Int) f (r : Int) (q : Int) n = ((powN p f r q n : Nat) : Int)
  | 0, _, _, _ => rfl
  | f + 1, r, q, n => by
    show (if n = 0 then (r : Int) else powGo p f (if n % 2 = 1 then ((r : Int) * q) % p else r) (((q : Int) * q) % p) (n / 2)) = _
    unfold powN
    by_cases hn : n = 0
    · subst hn; rfl
    · have hb : (n.beq 0) = false := by
        cases h : n.beq 0 with
        | false => rfl
        | true => exact absurd (Nat.eq_of_beq_eq_true h) hn
      rw [if_neg hn, hb, cond_false]
      by_cases h2 : n % 2 = 1
      · have hb2 : (n % 2).beq 1 = true := by rw [h2]; rfl
        rw [if_pos h2, hb2, cond_true]
        exact powN_eq p f ((r * q) % p) ((q * q) % p) (n / 2)
      · have hb2 : (n % 2).beq 1 = false := by
          cases h : (n % 2).beq 1 with
          | false => rfl
          | true => exact absurd (Nat.eq_of_beq_eq_true h) h2
        rw [if_neg h2, hb2, cond_false]
        exact powN_eq p f r ((q * q) % p) (n / 2)
def allB (f : Nat → Bool) : Nat → Bool
  | 0 => true
  | n + 1 => f n && allB f n
theorem allB_get {f : Nat → Bool} : ∀ {n : Nat}, allB f n = true → ∀ k, k < n → f k = true
  | n + 1, h, k, hk => by
    have h' : (f n && allB f n) = true := h
    rw [Bool.and_eq_true] at h'
    by_cases e : k = n
    · subst e; exact h'.1
    · exact allB_get h'.2 k (by (first | lia | omega))
def fldB (p : Nat) : Bool := allB (fun a => a.beq 0 || ((powN p 10 1 a (p - 2) * a) % p).beq 1) p
theorem fld_of {p : Nat} (h2 : 2 ≤ p) (hb : p ≤ 1000) (h : fldB p = true) : Fld (p : Int) := by
  refine ⟨by (first | lia | omega), fun a a0 a1 => ?_⟩
  obtain ⟨k, rfl⟩ : ∃ k : Nat, a = (k : Int) := ⟨a.toNat, by (first | lia | omega)⟩
  have q := allB_get h k (by (first | lia | omega))
  have hk : (k.beq 0) = false := by
    cases e : k.beq 0 with
    | false => rfl
    | true => have := Nat.eq_of_beq_eq_true e; (first | lia | omega)
  rw [hk, Bool.false_or] at q
  have q := Nat.eq_of_beq_eq_true q
  have e : SM.inv (p : Int) (k : Int) = ((powN p 10 1 k (p - 2) : Nat) : Int) := by
    unfold SM.inv SM.pow
    have e1 : ((p : Int) - 2).toNat = p - 2 := by (first | lia | omega)
    rw [e1, powGo_fuel (p - 2 + 1) 10 1 (k : Int) (p - 2) (Nat.lt_trans (by (first | lia | omega)) (Nat.lt_two_pow_self (n := p - 2 + 1))) (by (first | lia | omega))]
    exact powN_eq p 10 1 k (p - 2)
  rw [e]
  refine Cg.of_emod ?_
  have q' : (((powN p 10 1 k (p - 2) * k) % p : Nat) : Int) = ((1 : Nat) : Int) := congrArg _ q
  rw [Int.natCast_emod, Int.natCast_mul] at q'
  rw [q', Int.emod_eq_of_lt (by (first | lia | omega)) (by (first | lia | omega))]
  rfl
/-- no number from 2 to 20 that is less divides it -/
def noDiv (q : Nat) : Bool := allB (fun d => !((d + 2).blt q && (q % (d + 2)).beq 0)) 19
theorem all_fld : allB (fun q => !(noDiv (q + 2)) || fldB (q + 2)) 408 = true := by decide +kernel
theorem fld_997 : fldB 997 = true := by decide +kernel
end SM
namespace SM
theorem filter_split {α : Type} (p : α → Bool) (l : List α) : (l.filter p).length + (l.filter fun x => !p x).length = l.length := by
  induction l with
  | nil => rfl
  | cons a l ih =>
    rw [List.filter_cons, List.filter_cons]
    cases h : p a <;> simp <;> (first | lia | omega)
/-- how many are known; the places where a known sign is not the word's -/
def knownN (os : List (Option Int)) : Nat := (os.filter Option.isSome).length
def isW (os : List (Option Int)) (w : List Int) (k : Nat) : Bool := match os.getD k none with
  | none => false
  | some s => s != w.getD k 0
def wrongs (os : List (Option Int)) (w : List Int) : List Int := ((List.range os.length).filter (isW os w)).map fun (k : Nat) => (k : Int)
theorem mem_wrongs {os : List (Option Int)} {w : List Int} {x : Int} : x ∈ wrongs os w ↔ ∃ k s : _, x = ((k : Nat) : Int) ∧ k < os.length ∧ os.getD k none = some s ∧ s ≠ w.getD k 0 := by
  unfold wrongs
  constructor
  · intro h
    obtain ⟨k, hk, rfl⟩ := List.mem_map.mp h
    obtain ⟨hk1, hk2⟩ := List.mem_filter.mp hk
    unfold isW at hk2
    cases e : os.getD k none with
    | none => rw [e] at hk2; cases hk2
    | some s => rw [e] at hk2; exact ⟨k, s, rfl, List.mem_range.mp hk1, e, by simpa using hk2⟩
  · rintro ⟨k, s, rfl, hk, e, hne⟩
    exact List.mem_map.mpr ⟨k, List.mem_filter.mpr ⟨List.mem_range.mpr hk, by unfold isW; rw [e]; simpa using hne⟩, rfl⟩
/-- a made word that is near enough -/
structure Near (p : Int) (n : Nat) (os : List (Option Int)) (w : List Int) : Prop where
  made : ∃ c : List Int, c.length = n ∧ w = pts p c os.length
  near : 2 * (wrongs os w).length + n ≤ knownN os
theorem knownN_range (os : List (Option Int)) : knownN os = ((List.range os.length).filter fun k => (os.getD k none).isSome).length := by
  unfold knownN
  have : ∀ (l : List (Option Int)), (l.filter Option.isSome).length = ((List.range l.length).filter fun k => (l.getD k none).isSome).length := by
    intro l
    induction l with
    | nil => rfl
    | cons a l ih =>
      rw [List.length_cons, List.range_succ_eq_map, List.filter_cons, List.filter_cons, List.filter_map]
      have e : ((fun k => ((a :: l).getD k none).isSome) ∘ Nat.succ) = fun k => (l.getD k none).isSome := by
        funext k; simp
      rw [e]
      have e0 : (a :: l).getD 0 none = a := rfl
      rw [e0]
      cases a <;> simp [ih]
  exact this os
theorem take_apart {p : Int} {xs : List Int} {L : Nat} (h1 : xs.Pairwise (· < ·)) (h2 : ∀ x ∈ xs, 0 ≤ x ∧ x < (L : Int)) (hL : (L : Int) ≤ p) : xs.Pairwise (fun a b => ¬ Cg p (b - a) 0) := by
  refine (List.pairwise_iff_forall_sublist.mpr fun {a b} hs => ?_)
  have hab : a < b := by
    have := List.pairwise_iff_forall_sublist.mp h1 hs
    exact this
  have ha := h2 a (hs.subset (by simp))
  have hb := h2 b (hs.subset (by simp))
  intro hc
  have := Cg.small (p := p) (a := b - a) (b := 0) hc (by (first | lia | omega)) (by (first | lia | omega)) (by (first | lia | omega)) (by (first | lia | omega))
  (first | lia | omega)
end SM
namespace SM
/-- the signs of one word of a sheet -/
def col (os : List (Option Int)) (m L j : Nat) : List (Option Int) := (List.range L).map fun i => os.getD (i * m + j) none
theorem col_len (os : List (Option Int)) (m L j : Nat) : (col os m L j).length = L := by simp [col]
end SM
namespace SM
def pwI (p x : Int) : Nat → Int
  | 0 => 1
  | i + 1 => (pwI p x i * x) % p
def powersOf (p x : Int) (k : Nat) : List Int := (List.range k).map (pwI p x)
def without (p : Int) (row : List Int) (c : Nat) (o : List Int) : List Int := if row.getD c 0 = 0 then row else List.zipWith (fun n t => (n - row.getD c 0 * t) % p) row o
/-- the first place that is not nought, from i on -/
def fnn (row : List Int) : Nat → Nat → Option Nat
  | 0, _ => none
  | f + 1, i => if row.getD i 0 = 0 then fnn row f (i + 1) else some i
def firstNot (row : List Int) : Option Nat := fnn row row.length 0
abbrev Kp := List (Nat × List Int)
def restB (p : Int) (row : List Int) (kept : Kp) : List Int := kept.foldl (fun r q => without p r q.1 q.2) row
def fresh (p : Int) (rest : List Int) (l : Nat) : List Int := scal p rest (inv p (rest.getD l 0))
def keptN (p : Int) (kept : Kp) (rest : List Int) (l : Nat) : Kp := kept.map (fun q => (q.1, without p q.2 l (fresh p rest l))) ++ [(l, fresh p rest l)]
def slTurn (p : Int) (u : Nat) (kept : Kp) (row : List Int) : Option Kp := match firstNot (restB p row kept) with
  | none => some kept
  | some l => if l = u then none else some (keptN p kept (restB p row kept) l)
def slGo (p : Int) (u : Nat) : List (List Int) → Kp → Option Kp
  | [], kept => some kept
  | row :: rows, kept => match slTurn p u kept row with
    | none => none
    | some k => slGo p u rows k
def answer (u : Nat) (kept : Kp) : List Int := kept.foldl (fun a q => a.set q.1 (q.2.getD u 0)) (List.replicate u 0)
def solved (p : Int) (rows : List (List Int)) (u : Nat) : Option (List Int) := (slGo p u rows []).map (answer u)
def equation (p x s : Int) (n room : Nat) : List Int := powersOf p x (n + room) ++ ((scal p (powersOf p x (n + room)) s).take room).map (fun m => (0 - m) % p) ++ [(scal p (powersOf p x (n + room)) s).getD room 0]
def divStep (p : Int) (un left : List Int) : List Int :=
  left.take (left.length - un.length) ++ (List.zipWith (fun m d => (m - (left.getLastD 0 * d) % p) % p) (left.drop (left.length - un.length)) un).dropLast
def divGo (p : Int) (un : List Int) : Nat → List Int → List Int
  | 0, _ => []
  | k + 1, left => left.getLastD 0 :: divGo p un k (divStep p un left)
def divided (p : Int) (ov un : List Int) : List Int := (divGo p un (ov.length + 1 - un.length) ov).reverse
def onlyC (p : Int) (places signs : List Int) (n room : Nat) : Option (List Int) :=
  (solved p (List.zipWith (fun x s => equation p x s n room) places signs) (n + 2 * room)).map fun a => divided p (a.take (n + room)) (a.drop (n + room) ++ [1])
def dt : Nat → (Nat → Int) → (Nat → Int) → Int
  | 0, _, _ => 0
  | n + 1, f, g => dt n f g + f n * g n
theorem dt_cg {p : Int} : ∀ (n : Nat) {f f' f'' : Nat → Int} (g : Nat → Int) (t : Int), (∀ i, i < n → Cg p (f i) (f' i - t * f'' i)) → Cg p (dt n f g) (dt n f' g - t * dt n f'' g)
  | 0, _, _, _, _, _, _ => Cg.of_eq (by simp [dt])
  | n + 1, f, f', f'', g, t, h => by
    have ih := dt_cg n (f := f) (f' := f') (f'' := f'') g t fun i hi => h i (by (first | lia | omega))
    refine (ih.add ((h n (by (first | lia | omega))).mul (Cg.refl p (g n)))).trans (Cg.of_eq ?_)
    show _ = (dt n f' g + f' n * g n) - t * (dt n f'' g + f'' n * g n)
    grind
theorem dt_single {f g : Nat → Int} {c : Nat} : ∀ (n : Nat), c < n → (∀ j, j < n → j ≠ c → f j * g j = 0) → dt n f g = f c * g c
  | 0, h, _ => absurd h (Nat.not_lt_zero _)
  | n + 1, h, hz => by
    by_cases e : c = n
    · subst e
      have z : ∀ m, m ≤ c → dt m f g = 0 := fun m => by
        induction m with
        | zero => intro _; rfl
        | succ m ih =>
          intro hm
          show dt m f g + f m * g m = 0
          rw [ih (by (first | lia | omega)), hz m (by (first | lia | omega)) (by (first | lia | omega))]; rfl
      show dt c f g + f c * g c = _
      rw [z c (Nat.le_refl _)]; (first | lia | omega)
    · show dt n f g + f n * g n = _
      rw [dt_single n (by (first | lia | omega)) fun j hj => hz j (by (first | lia | omega)), hz n (by (first | lia | omega)) (fun q => e q.symm)]; (first | lia | omega)
theorem dt_congr {f f' g g' : Nat → Int} : ∀ (n : Nat), (∀ j, j < n → f j = f' j) → (∀ j, j < n → g j = g' j) → dt n f g = dt n f' g'
  | 0, _, _ => rfl
  | n + 1, h, h' => by
    show dt n f g + f n * g n = dt n f' g' + f' n * g' n
    rw [dt_congr n (fun j hj => h j (by (first | lia | omega))) (fun j hj => h' j (by (first | lia | omega))), h n (by (first | lia | omega)), h' n (by (first | lia | omega))]
/-- a row holds at v -/
def Hol (p : Int) (u : Nat) (row : List Int) (v : Nat → Int) : Prop := Cg p (dt (u + 1) (fun i => row.getD i 0) v) 0
/-- a row of signs -/
structure Rw (p : Int) (u : Nat) (row : List Int) : Prop where
  len : row.length = u + 1
  sg : ∀ s ∈ row, 0 ≤ s ∧ s < p
theorem Rw.get {p : Int} {u : Nat} {row : List Int} (h : Rw p u row) (hp : 0 < p) (i : Nat) : 0 ≤ row.getD i 0 ∧ row.getD i 0 < p := by
  rw [List.getD_eq_getElem?_getD]
  by_cases hi : i < row.length
  · rw [List.getElem?_eq_getElem hi]; exact h.sg _ (List.getElem_mem hi)
  · rw [List.getElem?_eq_none (by (first | lia | omega))]; exact ⟨Int.le_refl _, hp⟩
theorem zw_get {f : Int → Int → Int} {a b : List Int} {i : Nat} (h1 : i < a.length) (h2 : i < b.length) : (List.zipWith f a b).getD i 0 = f (a.getD i 0) (b.getD i 0) := by
  simp [List.getD_eq_getElem?_getD, List.getElem?_zipWith, List.getElem?_eq_getElem h1, List.getElem?_eq_getElem h2]
theorem zw_mem {p : Int} (hp : 0 < p) {f : Int → Int → Int} {a b : List Int} : ∀ s ∈ List.zipWith (fun x y => f x y % p) a b, 0 ≤ s ∧ s < p := by
  intro s hs
  rw [← List.map_uncurry_zip_eq_zipWith] at hs
  obtain ⟨q, _, rfl⟩ := List.mem_map.mp hs
  exact ⟨Int.emod_nonneg _ (by (first | lia | omega)), Int.emod_lt_of_pos _ hp⟩
theorem without_rw {p : Int} {u c : Nat} {row o : List Int} (hp : 0 < p) (h : Rw p u row) (ho : Rw p u o) : Rw p u (without p row c o) := by
  unfold without
  split
  · exact h
  · exact ⟨by simp [h.len, ho.len], zw_mem hp⟩
theorem without_get {p : Int} {u c : Nat} {row o : List Int} (h : Rw p u row) (ho : Rw p u o) {i : Nat} (hi : i < u + 1) : Cg p ((without p row c o).getD i 0) (row.getD i 0 - row.getD c 0 * o.getD i 0) := by
  unfold without
  split
  · rename_i e
    rw [e]; exact Cg.of_eq (by (first | lia | omega))
  · rw [zw_get (by rw [h.len]; exact hi) (by rw [ho.len]; exact hi)]
    exact Cg.mod p _
theorem without_hol {p : Int} {u c : Nat} {row o : List Int} (h : Rw p u row) (ho : Rw p u o) (v : Nat → Int) : Cg p (dt (u + 1) (fun i => (without p row c o).getD i 0) v) (dt (u + 1) (fun i => row.getD i 0) v - row.getD c 0 * dt (u + 1) (fun i => o.getD i 0) v) :=
  dt_cg (u + 1) v _ fun i hi => without_get h ho hi
theorem hol_without {p : Int} {u c : Nat} {row o : List Int} {v : Nat → Int} (h : Rw p u row) (ho : Rw p u o) (h2 : Hol p u o v) : Hol p u (without p row c o) v ↔ Hol p u row v := by
  have e := without_hol (c := c) h ho v
  have e2 : Cg p (dt (u + 1) (fun i => row.getD i 0) v - row.getD c 0 * dt (u + 1) (fun i => o.getD i 0) v) (dt (u + 1) (fun i => row.getD i 0) v) :=
    ((Cg.refl p _).sub ((Cg.refl p _).mul h2)).trans (Cg.of_eq (by grind))
  exact ⟨fun q => (e.trans e2).symm.trans q, fun q => (e.trans e2).trans q⟩
/-- the kept rows -/
structure KI (p : Int) (u : Nat) (kept : Kp) : Prop where
  rw : ∀ q ∈ kept, Rw p u q.2
  lt : ∀ q ∈ kept, q.1 < u
  one : ∀ q ∈ kept, q.2.getD q.1 0 = 1
  nou : kept.Pairwise fun q r => q.1 ≠ r.1 ∧ q.2.getD r.1 0 = 0 ∧ r.2.getD q.1 0 = 0
theorem restB_rw {p : Int} {u : Nat} (hp : 0 < p) : ∀ {kept : Kp} {row : List Int}, (∀ q ∈ kept, Rw p u q.2) → Rw p u row → Rw p u (restB p row kept)
  | [], _, _, h => h
  | q :: kept, row, hk, h => restB_rw hp (kept := kept) (row := without p row q.1 q.2) (fun r hr => hk r (List.mem_cons_of_mem _ hr)) (without_rw hp h (hk q (List.mem_cons_self ..)))
theorem restB_hol {p : Int} {u : Nat} {v : Nat → Int} (hp : 0 < p) : ∀ {kept : Kp} {row : List Int}, (∀ q ∈ kept, Rw p u q.2) → (∀ q ∈ kept, Hol p u q.2 v) → Rw p u row → (Hol p u (restB p row kept) v ↔ Hol p u row v)
  | [], _, _, _, _ => Iff.rfl
  | q :: kept, row, hk, hh, h => by
    have hq := hk q (List.mem_cons_self ..)
    exact (restB_hol hp (kept := kept) (row := without p row q.1 q.2) (fun r hr => hk r (List.mem_cons_of_mem _ hr)) (fun r hr => hh r (List.mem_cons_of_mem _ hr)) (without_rw hp h hq)).trans
      (hol_without h hq (hh q (List.mem_cons_self ..)))
theorem cg_zero {p a : Int} (h : Cg p a 0) (h0 : 0 ≤ a) (h1 : a < p) : a = 0 := h.small h0 h1 (Int.le_refl 0) (by (first | lia | omega))
/-- nought stays nought -/
theorem restB_keep {p : Int} {u c : Nat} (hp : 0 < p) (hc : c < u + 1) : ∀ {kept : Kp} {row : List Int}, (∀ q ∈ kept, Rw p u q.2) → (∀ q ∈ kept, q.2.getD c 0 = 0) → Rw p u row → row.getD c 0 = 0 → (restB p row kept).getD c 0 = 0
  | [], _, _, _, _, h => h
  | q :: kept, row, hk, hz, hr, h => by
    have hq := hk q (List.mem_cons_self ..)
    have hw := without_rw (c := q.1) hp hr hq
    refine restB_keep hp hc (kept := kept) (row := without p row q.1 q.2) (fun r hr => hk r (List.mem_cons_of_mem _ hr)) (fun r hr => hz r (List.mem_cons_of_mem _ hr)) hw ?_
    have e := without_get (c := q.1) hr hq hc
    rw [h, hz q (List.mem_cons_self ..)] at e
    have b := hw.get hp c
    exact cg_zero (e.trans (Cg.of_eq (by (first | lia | omega)))) b.1 b.2
theorem restB_nought {p : Int} {u : Nat} (hp : 0 < p) : ∀ {kept : Kp} {row : List Int}, KI p u kept → Rw p u row → ∀ q ∈ kept, (restB p row kept).getD q.1 0 = 0
  | [], _, _, _, q, h => absurd h (by simp)
  | a :: kept, row, K, hr, q, h => by
    have ha := K.rw a (List.mem_cons_self ..)
    have hp' := List.pairwise_cons.mp K.nou
    have K' : KI p u kept := ⟨fun r hr => K.rw r (List.mem_cons_of_mem _ hr), fun r hr => K.lt r (List.mem_cons_of_mem _ hr), fun r hr => K.one r (List.mem_cons_of_mem _ hr), hp'.2⟩
    have hw := without_rw (c := a.1) hp hr ha
    rcases List.mem_cons.mp h with e | h'
    · subst e
      have hl := K.lt q (List.mem_cons_self ..)
      refine restB_keep (row := without p row q.1 q.2) hp (by (first | lia | omega)) K'.rw (fun r hr => (hp'.1 r hr).2.2) hw ?_
      have e := without_get (c := q.1) (i := q.1) hr ha (by (first | lia | omega))
      rw [K.one q (List.mem_cons_self ..)] at e
      have b := hw.get hp q.1
      exact cg_zero (e.trans (Cg.of_eq (by (first | lia | omega)))) b.1 b.2
    · exact restB_nought hp (row := without p row a.1 a.2) K' hw q h'
theorem fnn_none {row : List Int} : ∀ {f i : Nat}, fnn row f i = none → ∀ j, i ≤ j → j < i + f → row.getD j 0 = 0
  | 0, _, _, j, h1, h2 => by (first | lia | omega)
  | f + 1, i, h, j, h1, h2 => by
    unfold fnn at h
    split at h
    · rename_i e
      by_cases hj : j = i
      · subst hj; exact e
      · exact fnn_none h j (by (first | lia | omega)) (by (first | lia | omega))
    · cases h
theorem fnn_some {row : List Int} : ∀ {f i l : Nat}, fnn row f i = some l → i ≤ l ∧ l < i + f ∧ row.getD l 0 ≠ 0 ∧ ∀ j, i ≤ j → j < l → row.getD j 0 = 0
  | 0, _, _, h => by cases h
  | f + 1, i, l, h => by
    unfold fnn at h
    split at h
    · rename_i e
      obtain ⟨h1, h2, h3, h4⟩ := fnn_some h
      refine ⟨by (first | lia | omega), by (first | lia | omega), h3, fun j hj hl => ?_⟩
      by_cases hji : j = i
      · subst hji; exact e
      · exact h4 j (by (first | lia | omega)) hl
    · rename_i e
      cases h
      exact ⟨Nat.le_refl _, by (first | lia | omega), e, fun j h1 h2 => by (first | lia | omega)⟩
theorem firstNot_none {row : List Int} (h : firstNot row = none) (j : Nat) : row.getD j 0 = 0 := by
  by_cases hj : j < row.length
  · exact fnn_none h j (by (first | lia | omega)) (by (first | lia | omega))
  · rw [List.getD_eq_getElem?_getD, List.getElem?_eq_none (by (first | lia | omega))]; rfl
theorem firstNot_some {row : List Int} {l : Nat} (h : firstNot row = some l) : l < row.length ∧ row.getD l 0 ≠ 0 ∧ ∀ j, j < l → row.getD j 0 = 0 := by
  obtain ⟨_, h2, h3, h4⟩ := fnn_some h
  exact ⟨by (first | lia | omega), h3, fun j hj => h4 j (by (first | lia | omega)) hj⟩
theorem map_get {f : Int → Int} (hf : f 0 = 0) (row : List Int) (i : Nat) : (row.map f).getD i 0 = f (row.getD i 0) := by
  rw [List.getD_eq_getElem?_getD, List.getElem?_map, List.getD_eq_getElem?_getD]
  cases row[i]? with
  | none => simp [hf]
  | some a => rfl
theorem fresh_rw {p : Int} {u l : Nat} {rest : List Int} (hp : 0 < p) (h : Rw p u rest) : Rw p u (fresh p rest l) := by
  refine ⟨by unfold fresh; rw [scal_len]; exact h.len, fun s hs => ?_⟩
  obtain ⟨q, _, rfl⟩ := List.mem_map.mp hs
  exact ⟨Int.emod_nonneg _ (by (first | lia | omega)), Int.emod_lt_of_pos _ hp⟩
theorem fresh_get {p : Int} {l : Nat} {rest : List Int} (i : Nat) : Cg p ((fresh p rest l).getD i 0) (rest.getD i 0 * inv p (rest.getD l 0)) := by
  unfold fresh scal
  rw [map_get (by simp)]
  exact Cg.mod p _
theorem fresh_hol {p : Int} (F : Fld p) {u l : Nat} {rest : List Int} {v : Nat → Int} (h : Rw p u rest) (hl : rest.getD l 0 ≠ 0) : Hol p u (fresh p rest l) v ↔ Hol p u rest v := by
  have b := h.get F.pos l
  have hi := F.inv (rest.getD l 0) (by (first | lia | omega)) b.2
  have e : Cg p (dt (u + 1) (fun i => (fresh p rest l).getD i 0) v) (inv p (rest.getD l 0) * dt (u + 1) (fun i => rest.getD i 0) v) := by
    have := dt_cg (p := p) (u + 1) (f := fun i => (fresh p rest l).getD i 0) (f' := fun _ => 0) (f'' := fun i => rest.getD i 0) v (-(inv p (rest.getD l 0))) fun i _ => (fresh_get i).trans (Cg.of_eq (by grind))
    have z : ∀ m, dt m (fun _ => 0) v = 0 := fun m => by
      induction m with
      | zero => rfl
      | succ m ih => show dt m _ v + 0 * v m = 0; rw [ih]; (first | lia | omega)
    rw [z] at this
    exact this.trans (Cg.of_eq (by grind))
  constructor
  · intro q
    have q' := e.symm.trans q
    have := (Cg.refl p (rest.getD l 0)).mul q'
    have e3 : Cg p (rest.getD l 0 * (inv p (rest.getD l 0) * dt (u + 1) (fun i => rest.getD i 0) v)) (dt (u + 1) (fun i => rest.getD i 0) v) := by
      refine (Cg.of_eq (b := (inv p (rest.getD l 0) * rest.getD l 0) * dt (u + 1) (fun i => rest.getD i 0) v) (by grind)).trans ((hi.mul (Cg.refl p _)).trans (Cg.of_eq (by grind)))
    exact (e3.symm.trans this).trans (Cg.of_eq (by grind))
  · intro q
    exact e.trans (((Cg.refl p _).mul q).trans (Cg.of_eq (by grind)))
theorem keptN_ok {p : Int} (F : Fld p) {u l : Nat} {kept : Kp} {row : List Int} (K : KI p u kept) (hr : Rw p u row) (h : firstNot (restB p row kept) = some l) (hl : l ≠ u) : KI p u (keptN p kept (restB p row kept) l) := by
  have hp := F.pos
  have hp2 := F.two
  have hR := restB_rw hp K.rw hr
  obtain ⟨h1, h2, h3⟩ := firstNot_some h
  rw [hR.len] at h1
  have hF := fresh_rw (l := l) hp hR
  have bl := hR.get hp l
  have hi := F.inv ((restB p row kept).getD l 0) (by (first | lia | omega)) bl.2
  have f1 : (fresh p (restB p row kept) l).getD l 0 = 1 := by
    have b := hF.get hp l
    exact ((fresh_get l).trans ((Cg.of_eq (Int.mul_comm ..)).trans hi)).small b.1 b.2 (by (first | lia | omega)) (by (first | lia | omega))
  have f0 : ∀ q ∈ kept, (fresh p (restB p row kept) l).getD q.1 0 = 0 := fun q hq => by
    have b := hF.get hp q.1
    have e := fresh_get (p := p) (l := l) (rest := restB p row kept) q.1
    rw [restB_nought hp K hr q hq] at e
    exact cg_zero (e.trans (Cg.of_eq (by (first | lia | omega)))) b.1 b.2
  have ne : ∀ q ∈ kept, q.1 ≠ l := fun q hq e => h2 (by rw [← e]; exact restB_nought hp K hr q hq)
  have wr : ∀ q ∈ kept, Rw p u (without p q.2 l (fresh p (restB p row kept) l)) := fun q hq => without_rw hp (K.rw q hq) hF
  have wl : ∀ q ∈ kept, (without p q.2 l (fresh p (restB p row kept) l)).getD l 0 = 0 := fun q hq => by
    have b := (wr q hq).get hp l
    have e := without_get (c := l) (i := l) (K.rw q hq) hF (by (first | lia | omega))
    rw [f1] at e
    exact cg_zero (e.trans (Cg.of_eq (by (first | lia | omega)))) b.1 b.2
  have wo : ∀ q ∈ kept, ∀ r ∈ kept, (without p q.2 l (fresh p (restB p row kept) l)).getD r.1 0 = q.2.getD r.1 0 := fun q hq r hr' => by
    have b := (wr q hq).get hp r.1
    have b2 := (K.rw q hq).get hp r.1
    have hlt := K.lt r hr'
    have e := without_get (c := l) (i := r.1) (K.rw q hq) hF (by (first | lia | omega))
    rw [f0 r hr'] at e
    exact (e.trans (Cg.of_eq (by (first | lia | omega)))).small b.1 b.2 b2.1 b2.2
  refine ⟨fun q hq => ?_, fun q hq => ?_, fun q hq => ?_, ?_⟩
  · rcases List.mem_append.mp hq with hq | hq
    · obtain ⟨r, hr', rfl⟩ := List.mem_map.mp hq
      exact wr r hr'
    · have := List.mem_singleton.mp hq
      rw [this]; exact hF
  · rcases List.mem_append.mp hq with hq | hq
    · obtain ⟨r, hr', rfl⟩ := List.mem_map.mp hq
      exact K.lt r hr'
    · have := List.mem_singleton.mp hq
      rw [this]
      show l < u
      (first | lia | omega)
  · rcases List.mem_append.mp hq with hq | hq
    · obtain ⟨r, hr', rfl⟩ := List.mem_map.mp hq
      show (without p r.2 l _).getD r.1 0 = 1
      rw [wo r hr' r hr']; exact K.one r hr'
    · have := List.mem_singleton.mp hq
      rw [this]; exact f1
  · refine List.pairwise_append.mpr ⟨?_, by simp, fun q hq r hr' => ?_⟩
    · rw [List.pairwise_map]
      refine (List.Pairwise.and_mem.mp K.nou).imp ?_
      rintro q r ⟨hq, hr', h1, h2, h3⟩
      exact ⟨h1, by show (without p q.2 l _).getD r.1 0 = 0; rw [wo q hq r hr']; exact h2, by show (without p r.2 l _).getD q.1 0 = 0; rw [wo r hr' q hq]; exact h3⟩
    · obtain ⟨q', hq', rfl⟩ := List.mem_map.mp hq
      have := List.mem_singleton.mp hr'
      rw [this]
      exact ⟨ne q' hq', wl q' hq', f0 q' hq'⟩
theorem keptN_back {p : Int} (F : Fld p) {u l : Nat} {kept : Kp} {row : List Int} {v : Nat → Int} (K : KI p u kept) (hr : Rw p u row) (h : firstNot (restB p row kept) = some l)
    (hv : ∀ q ∈ keptN p kept (restB p row kept) l, Hol p u q.2 v) : (∀ q ∈ kept, Hol p u q.2 v) ∧ Hol p u row v := by
  have hp := F.pos
  have hR := restB_rw hp K.rw hr
  obtain ⟨_, h2, _⟩ := firstNot_some h
  have hF := fresh_rw (l := l) hp hR
  have hf : Hol p u (fresh p (restB p row kept) l) v := hv (l, fresh p (restB p row kept) l) (List.mem_append.mpr (.inr (by simp)))
  have hk : ∀ q ∈ kept, Hol p u q.2 v := fun q hq =>
    (hol_without (K.rw q hq) hF hf).mp (hv (q.1, without p q.2 l (fresh p (restB p row kept) l)) (List.mem_append.mpr (.inl (List.mem_map.mpr ⟨q, hq, rfl⟩))))
  exact ⟨hk, (restB_hol hp K.rw hk hr).mp ((fresh_hol F hR h2).mp hf)⟩
theorem keptN_on {p : Int} (F : Fld p) {u l : Nat} {kept : Kp} {row : List Int} {v : Nat → Int} (K : KI p u kept) (hr : Rw p u row) (h : firstNot (restB p row kept) = some l)
    (hk : ∀ q ∈ kept, Hol p u q.2 v) (hh : Hol p u row v) : ∀ q ∈ keptN p kept (restB p row kept) l, Hol p u q.2 v := fun q hq => by
  have hp := F.pos
  have hR := restB_rw hp K.rw hr
  obtain ⟨_, h2, _⟩ := firstNot_some h
  have hF := fresh_rw (l := l) hp hR
  have hf : Hol p u (fresh p (restB p row kept) l) v := (fresh_hol F hR h2).mpr ((restB_hol hp K.rw hk hr).mpr hh)
  rcases List.mem_append.mp hq with hq | hq
  · obtain ⟨r, hr', rfl⟩ := List.mem_map.mp hq
    exact (hol_without (K.rw r hr') hF hf).mpr (hk r hr')
  · have := List.mem_singleton.mp hq
    rw [this]; exact hf
/-- what comes out holds at every row -/
theorem slGo_ok {p : Int} (F : Fld p) {u : Nat} : ∀ {rows : List (List Int)} {kept k' : Kp}, KI p u kept → (∀ r ∈ rows, Rw p u r) → slGo p u rows kept = some k' →
    KI p u k' ∧ ∀ v, (∀ q ∈ k', Hol p u q.2 v) → (∀ q ∈ kept, Hol p u q.2 v) ∧ ∀ r ∈ rows, Hol p u r v
  | [], kept, k', K, _, h => by
    cases h
    exact ⟨K, fun v hv => ⟨hv, fun r hr => absurd hr (by simp)⟩⟩
  | row :: rows, kept, k', K, hr, h => by
    have hp := F.pos
    have h0 := hr row (List.mem_cons_self ..)
    have hr' : ∀ r ∈ rows, Rw p u r := fun r h => hr r (List.mem_cons_of_mem _ h)
    unfold slGo at h
    cases e : firstNot (restB p row kept) with
    | none =>
      have et : slTurn p u kept row = some kept := by unfold slTurn; rw [e]
      rw [et] at h
      obtain ⟨K', hv⟩ := slGo_ok F K hr' h
      refine ⟨K', fun v hq => ?_⟩
      obtain ⟨a, b⟩ := hv v hq
      refine ⟨a, fun r hm => ?_⟩
      rcases List.mem_cons.mp hm with z | z
      · subst z
        refine (restB_hol hp K.rw a h0).mp ?_
        refine Cg.of_eq ?_
        have z : ∀ m, dt m (fun i => (restB p r kept).getD i 0) v = 0 := fun m => by
          induction m with
          | zero => rfl
          | succ m ih => show dt m _ v + (restB p r kept).getD m 0 * v m = 0; rw [ih, firstNot_none e m]; (first | lia | omega)
        exact z _
      · exact b r z
    | some l =>
      by_cases hl : l = u
      · have et : slTurn p u kept row = none := by unfold slTurn; rw [e]; exact if_pos hl
        rw [et] at h; cases h
      · have et : slTurn p u kept row = some (keptN p kept (restB p row kept) l) := by unfold slTurn; rw [e]; exact if_neg hl
        rw [et] at h
        obtain ⟨K', hv⟩ := slGo_ok F (keptN_ok F K h0 e hl) hr' h
        refine ⟨K', fun v hq => ?_⟩
        obtain ⟨a, b⟩ := hv v hq
        obtain ⟨c, d⟩ := keptN_back F K h0 e a
        refine ⟨c, fun r hm => ?_⟩
        rcases List.mem_cons.mp hm with z | z
        · subst z; exact d
        · exact b r z
/-- where something holds at every row, something comes out -/
theorem slGo_some {p : Int} (F : Fld p) {u : Nat} {v : Nat → Int} (hv : v u = -1) : ∀ {rows : List (List Int)} {kept : Kp}, KI p u kept → (∀ q ∈ kept, Hol p u q.2 v) → (∀ r ∈ rows, Rw p u r) → (∀ r ∈ rows, Hol p u r v) → ∃ k', slGo p u rows kept = some k'
  | [], kept, _, _, _, _ => ⟨kept, rfl⟩
  | row :: rows, kept, K, hk, hr, hh => by
    have hp := F.pos
    have h0 := hr row (List.mem_cons_self ..)
    have g0 := hh row (List.mem_cons_self ..)
    have hr' : ∀ r ∈ rows, Rw p u r := fun r h => hr r (List.mem_cons_of_mem _ h)
    have hh' : ∀ r ∈ rows, Hol p u r v := fun r h => hh r (List.mem_cons_of_mem _ h)
    unfold slGo
    cases e : firstNot (restB p row kept) with
    | none =>
      have et : slTurn p u kept row = some kept := by unfold slTurn; rw [e]
      rw [et]
      exact slGo_some F hv K hk hr' hh'
    | some l =>
      by_cases hl : l = u
      · exfalso
        subst hl
        obtain ⟨_, h2, h3⟩ := firstNot_some e
        have q := (restB_hol hp K.rw hk h0).mpr g0
        unfold Hol at q
        rw [dt_single (c := l) (l + 1) (by (first | lia | omega)) (fun j hj hne => by show (restB p row kept).getD j 0 * v j = 0; rw [h3 j (by (first | lia | omega))]; (first | lia | omega))] at q
        have b := (restB_rw hp K.rw h0).get hp l
        have q2 : Cg p ((restB p row kept).getD l 0) 0 := by
          have := q.mul (Cg.refl p (-1))
          refine (Cg.of_eq ?_).trans (this.trans (Cg.of_eq (by (first | lia | omega))))
          rw [hv]; (first | lia | omega)
        exact h2 (cg_zero q2 b.1 b.2)
      · have et : slTurn p u kept row = some (keptN p kept (restB p row kept) l) := by unfold slTurn; rw [e]; exact if_neg hl
        rw [et]
        exact slGo_some F hv (keptN_ok F K h0 e hl) (keptN_on F K h0 e hk g0) hr' hh'
theorem set_get {a : List Int} {i j : Nat} {x : Int} (hi : i < a.length) : (a.set i x).getD j 0 = if j = i then x else a.getD j 0 := by
  rw [List.getD_eq_getElem?_getD, List.getElem?_set]
  by_cases h : j = i
  · subst h; simp [hi]
  · rw [if_neg (fun z => h z.symm), if_neg h, List.getD_eq_getElem?_getD]
theorem ans_go {p : Int} {u : Nat} : ∀ {kept : Kp} {a : List Int}, a.length = u → KI p u kept → ((kept.foldl (fun a q => a.set q.1 (q.2.getD u 0)) a).length = u ∧ (∀ q ∈ kept, (kept.foldl (fun a q => a.set q.1 (q.2.getD u 0)) a).getD q.1 0 = q.2.getD u 0) ∧
    ∀ j, (∀ q ∈ kept, q.1 ≠ j) → (kept.foldl (fun a q => a.set q.1 (q.2.getD u 0)) a).getD j 0 = a.getD j 0)
  | [], a, h, _ => ⟨h, fun q hq => absurd hq (by simp), fun _ _ => rfl⟩
  | r :: kept, a, h, K => by
    have hp' := List.pairwise_cons.mp K.nou
    have K' : KI p u kept := ⟨fun r hr => K.rw r (List.mem_cons_of_mem _ hr), fun r hr => K.lt r (List.mem_cons_of_mem _ hr), fun r hr => K.one r (List.mem_cons_of_mem _ hr), hp'.2⟩
    have hl := K.lt r (List.mem_cons_self ..)
    obtain ⟨h1, h2, h3⟩ := ans_go (p := p) (u := u) (kept := kept) (a := a.set r.1 (r.2.getD u 0)) (by rw [List.length_set]; exact h) K'
    rw [List.foldl_cons]
    refine ⟨h1, fun q hq => ?_, fun j hj => ?_⟩
    · rcases List.mem_cons.mp hq with e | hq'
      · subst e
        rw [h3 q.1 fun s hs => fun z => (hp'.1 s hs).1 z.symm, set_get (by rw [h]; exact hl), if_pos rfl]
      · exact h2 q hq'
    · rw [h3 j fun s hs => hj s (List.mem_cons_of_mem _ hs), set_get (by rw [h]; exact hl), if_neg fun z => hj r (List.mem_cons_self ..) z.symm]
def vecOf (a : List Int) (u : Nat) : Nat → Int := fun i => if i = u then -1 else a.getD i 0
theorem answer_hol {p : Int} {u : Nat} {kept : Kp} (K : KI p u kept) : ∀ q ∈ kept, Hol p u q.2 (vecOf (answer u kept) u) := fun q hq => by
  obtain ⟨h1, h2, h3⟩ := ans_go (p := p) (u := u) (kept := kept) (a := List.replicate u 0) (by simp) K
  have hl := K.lt q hq
  have rep : ∀ j, (List.replicate u (0 : Int)).getD j 0 = 0 := fun j => by
    rw [List.getD_eq_getElem?_getD, List.getElem?_replicate]
    split <;> rfl
  have e : dt u (fun i => q.2.getD i 0) (vecOf (answer u kept) u) = q.2.getD u 0 := by
    rw [dt_single (c := q.1) u hl fun j hj hne => ?_]
    · show q.2.getD q.1 0 * vecOf (answer u kept) u q.1 = _
      unfold vecOf answer
      rw [if_neg (by (first | lia | omega)), h2 q hq, K.one q hq]; (first | lia | omega)
    · show q.2.getD j 0 * vecOf (answer u kept) u j = 0
      unfold vecOf answer
      rw [if_neg (by (first | lia | omega))]
      by_cases hm : ∃ r ∈ kept, r.1 = j
      · obtain ⟨r, hr, rfl⟩ := hm
        have : q.2.getD r.1 0 = 0 := by
          rcases List.mem_iff_getElem.mp hq with ⟨i1, hi1, e1⟩
          rcases List.mem_iff_getElem.mp hr with ⟨i2, hi2, e2⟩
          have pw := List.pairwise_iff_getElem.mp K.nou
          rcases Nat.lt_trichotomy i1 i2 with z | z | z
          · have := (pw i1 i2 hi1 hi2 z).2.1
            rw [e1, e2] at this; exact this
          · subst z
            rw [e1] at e2
            exact absurd (by rw [e2]) hne
          · have := (pw i2 i1 hi2 hi1 z).2.2
            rw [e1, e2] at this; exact this
        rw [this]; (first | lia | omega)
      · rw [h3 j fun r hr z => hm ⟨r, hr, z⟩, rep]; (first | lia | omega)
  unfold Hol
  show Cg p (dt u (fun i => q.2.getD i 0) (vecOf (answer u kept) u) + q.2.getD u 0 * vecOf (answer u kept) u u) 0
  rw [e]
  refine Cg.of_eq ?_
  unfold vecOf
  rw [if_pos rfl]; (first | lia | omega)
theorem answer_len {p : Int} {u : Nat} {kept : Kp} (K : KI p u kept) : (answer u kept).length = u := (ans_go (p := p) (u := u) (kept := kept) (a := List.replicate u 0) (by simp) K).1
theorem KI.nil {p : Int} {u : Nat} : KI p u [] := ⟨fun q h => absurd h (by simp), fun q h => absurd h (by simp), fun q h => absurd h (by simp), .nil⟩
theorem solved_ok {p : Int} (F : Fld p) {u : Nat} {rows : List (List Int)} {a : List Int} (hr : ∀ r ∈ rows, Rw p u r) (h : solved p rows u = some a) : a.length = u ∧ ∀ r ∈ rows, Hol p u r (vecOf a u) := by
  unfold solved at h
  cases e : slGo p u rows [] with
  | none => rw [e] at h; cases h
  | some k =>
    rw [e] at h
    cases h
    obtain ⟨K, hv⟩ := slGo_ok F KI.nil hr e
    exact ⟨answer_len K, (hv _ (answer_hol K)).2⟩
theorem solved_some {p : Int} (F : Fld p) {u : Nat} {rows : List (List Int)} {v : Nat → Int} (hv : v u = -1) (hr : ∀ r ∈ rows, Rw p u r) (hh : ∀ r ∈ rows, Hol p u r v) : ∃ a, solved p rows u = some a := by
  obtain ⟨k, e⟩ := slGo_some F hv KI.nil (fun q h => absurd h (by simp)) hr hh
  exact ⟨answer u k, by unfold solved; rw [e]; rfl⟩
end SM
namespace SM
theorem ev_app (x : Int) : ∀ (a b : List Int), ev (a ++ b) x = ev a x + x ^ a.length * ev b x
  | [], b => by simp [ev]
  | a :: as, b => by
    rw [List.cons_append, ev_cons, ev_app x as b, ev_cons, List.length_cons, Int.pow_succ]
    grind
theorem ev_one (a x : Int) : ev [a] x = a := by simp [ev]
theorem ev_snoc (c : List Int) (a x : Int) : ev (c ++ [a]) x = ev c x + x ^ c.length * a := by rw [ev_app, ev_one]
theorem ev_map_mod {p : Int} (x : Int) : ∀ (c : List Int), Cg p (ev (c.map fun a => a % p) x) (ev c x)
  | [] => Cg.refl p _
  | a :: c => by
    show Cg p (ev (c.map fun a => a % p) x * x + a % p) (ev c x * x + a)
    exact ((ev_map_mod x c).mul (Cg.refl p x)).add (Cg.mod p a)
theorem pwI_cg {p x : Int} : ∀ i, Cg p (pwI p x i) (x ^ i)
  | 0 => Cg.of_eq (by simp [pwI])
  | i + 1 => by
    rw [Int.pow_succ]
    exact (Cg.mod p _).trans ((pwI_cg i).mul (Cg.refl p x))
/-- no numbers but noughts, where as many different places as numbers have nought -/
theorem roots_coef {p : Int} (F : Fld p) {c xs : List Int} (hx : xs.length = c.length) (hd : xs.Pairwise (fun a b => ¬ Cg p (b - a) 0)) (hr : ∀ x ∈ xs, Cg p (ev c x) 0) : ∀ a ∈ c, Cg p a 0 := by
  have go : ∀ (n : Nat) (c xs : List Int), c.length = n → xs.length = n → xs.Pairwise (fun a b => ¬ Cg p (b - a) 0) → (∀ x ∈ xs, Cg p (ev c x) 0) → ∀ a ∈ c, Cg p a 0 := by
    intro n
    induction n with
    | zero =>
      intro c xs hc _ _ _ a ha
      rw [List.length_eq_zero_iff.mp hc] at ha
      simp at ha
    | succ n ih =>
      intro c xs hc hx hd hr
      match c, xs, hc, hx with
      | a :: c, r :: xs, hc, hx =>
        have hd' := List.pairwise_cons.mp hd
        have hr0 := hr r (List.mem_cons_self ..)
        have h : ∀ y ∈ xs, Cg p (ev (quot.go r c) y) 0 := fun y hy => by
          have e := go_ev r y c a
          have h1 := (hr y (List.mem_cons_of_mem _ hy)).sub hr0
          have h2 : Cg p ((y - r) * ev (quot.go r c) y) 0 := by rw [← e]; exact h1.trans (Cg.of_eq (by (first | lia | omega)))
          exact F.zero h2 (hd'.1 y hy)
        have q := ih (quot.go r c) xs (by rw [go_len]; simpa using hc) (by simpa using hx) hd'.2 h
        have back : ∀ (c : List Int), (∀ b ∈ quot.go r c, Cg p b 0) → Cg p (ev c r) 0 ∧ ∀ b ∈ c, Cg p b 0 := by
          intro c
          induction c with
          | nil => intro _; exact ⟨Cg.refl p _, fun b hb => absurd hb (by simp)⟩
          | cons b c ihc =>
            intro hb
            have h1 : Cg p (ev (b :: c) r) 0 := hb _ (List.mem_cons_self ..)
            obtain ⟨h2, h3⟩ := ihc fun z hz => hb z (List.mem_cons_of_mem _ hz)
            refine ⟨h1, fun z hz => ?_⟩
            rcases List.mem_cons.mp hz with e | e
            · subst e
              have := h1.sub (h2.mul (Cg.refl p r))
              exact (Cg.of_eq (by rw [ev_cons]; (first | lia | omega))).trans (this.trans (Cg.of_eq (by (first | lia | omega))))
            · exact h3 z e
        obtain ⟨b1, b2⟩ := back c q
        intro z hz
        rcases List.mem_cons.mp hz with e | e
        · subst e
          have := hr0.sub (b1.mul (Cg.refl p r))
          exact (Cg.of_eq (by rw [ev_cons]; (first | lia | omega))).trans (this.trans (Cg.of_eq (by (first | lia | omega))))
        · exact b2 z e
  exact go c.length c xs rfl hx hd hr
/-- two curves of one size that are the same at as many different places have the same numbers -/
theorem same_coef {p : Int} (F : Fld p) {a b xs : List Int} (hab : a.length = b.length) (hx : xs.length = a.length) (hd : xs.Pairwise (fun a b => ¬ Cg p (b - a) 0)) (h : ∀ x ∈ xs, Cg p (ev a x) (ev b x)) (i : Nat) : Cg p (a.getD i 0) (b.getD i 0) := by
  have q := roots_coef F (c := List.zipWith (fun u d => (u - d) % p) a b) (xs := xs) (by simp [hab, hx]) hd fun y hy => (zipSub_ev a b y hab).trans (((h y hy).sub (Cg.refl p _)).trans (Cg.of_eq (by (first | lia | omega))))
  by_cases hi : i < a.length
  · have hz := zw_get (f := fun u d => (u - d) % p) (a := a) (b := b) (i := i) hi (by (first | lia | omega))
    have hm : (List.zipWith (fun u d => (u - d) % p) a b).getD i 0 ∈ List.zipWith (fun u d => (u - d) % p) a b := by
      rw [List.getD_eq_getElem?_getD, List.getElem?_eq_getElem (show i < _ by simp; (first | lia | omega))]
      exact List.getElem_mem _
    have e := q _ hm
    rw [hz] at e
    have e2 := (Cg.mod p _).symm.trans e
    have := e2.add (Cg.refl p (b.getD i 0))
    exact ((Cg.of_eq (by (first | lia | omega))).trans this).trans (Cg.of_eq (by (first | lia | omega)))
  · rw [List.getD_eq_getElem?_getD, List.getD_eq_getElem?_getD, List.getElem?_eq_none (by (first | lia | omega)), List.getElem?_eq_none (by (first | lia | omega))]
    exact Cg.refl p _
theorem ev_noughts (x : Int) : ∀ k, ev (List.replicate k 0) x = 0
  | 0 => rfl
  | k + 1 => by rw [List.replicate_succ, ev_cons, ev_noughts x k]; (first | lia | omega)
theorem ev_mulBy (a x : Int) : ∀ c : List Int, ev (c.map (a * ·)) x = a * ev c x
  | [] => by simp [ev]
  | b :: c => by
    show ev (c.map (a * ·)) x * x + a * b = a * (ev c x * x + b)
    rw [ev_mulBy a x c]; grind
/-- a curve times a curve -/
theorem mul_ex {m : Nat} {u : List Int} (hu : u.length = m + 1) : ∀ c : List Int, ∃ M : List Int, M.length = c.length + m ∧ ∀ x, ev M x = ev c x * ev u x
  | [] => ⟨List.replicate m 0, by simp, fun x => by rw [ev_noughts]; simp [ev]⟩
  | a :: c => by
    obtain ⟨M, hM, e⟩ := mul_ex hu c
    refine ⟨List.zipWith (· + ·) (u.map (a * ·) ++ List.replicate c.length 0) (0 :: M), by simp [hM, hu]; (first | lia | omega), fun x => ?_⟩
    rw [addC_ev _ _ x (by simp [hM, hu]; (first | lia | omega)), ev_app, ev_noughts, ev_mulBy, ev_cons, e x, ev_cons]
    grind
/-- .. the greatest number of which is the greatest's, where what is taken times has one there -/
theorem mul_top {m : Nat} {u0 : List Int} (hu : u0.length = m) (c : List Int) (a : Int) : ∃ M : List Int, M.length = c.length + m ∧ ∀ x, ev (M ++ [a]) x = ev (c ++ [a]) x * ev (u0 ++ [1]) x := by
  obtain ⟨M, hM, e⟩ := mul_ex (m := m) (u := u0 ++ [1]) (by simp [hu]) c
  refine ⟨List.zipWith (· + ·) M (List.replicate c.length 0 ++ u0.map (a * ·)), by simp [hM, hu], fun x => ?_⟩
  have e3 : ev (List.replicate c.length 0 ++ u0.map (a * ·)) x = x ^ c.length * (a * ev u0 x) := by rw [ev_app, ev_noughts, ev_mulBy, List.length_replicate]; (first | lia | omega)
  rw [ev_snoc, addC_ev _ _ x (by simp [hM, hu]), e x, e3, ev_snoc, ev_snoc]
  have hl : (List.zipWith (· + ·) M (List.replicate c.length 0 ++ u0.map (a * ·))).length = c.length + m := by simp [hM, hu]
  rw [hl, Int.pow_add, hu]
  grind
theorem last_get (l : List Int) : l.getLastD 0 = l.getD (l.length - 1) 0 := by
  rw [List.getD_eq_getElem?_getD, List.getLastD_eq_getLast?, List.getLast?_eq_getElem?]
theorem ev_dropLast {p x : Int} {l : List Int} (h : Cg p (l.getLastD 0) 0) : Cg p (ev l.dropLast x) (ev l x) := by
  cases e : l.getLast? with
  | none =>
    have : l = [] := List.getLast?_eq_none_iff.mp e
    subst this
    exact Cg.refl p _
  | some a =>
    obtain ⟨l', rfl⟩ := List.getLast?_eq_some_iff.mp e
    rw [List.dropLast_concat, ev_snoc]
    have ha : (l' ++ [a]).getLastD 0 = a := by simp
    rw [ha] at h
    exact ((((Cg.refl p _).add ((Cg.refl p _).mul h))).trans (Cg.of_eq (by grind))).symm
theorem zipDiv_ev {p s : Int} : ∀ (a b : List Int) (x : Int), a.length = b.length → Cg p (ev (List.zipWith (fun m d => (m - (s * d) % p) % p) a b) x) (ev a x - s * ev b x)
  | [], [], x, _ => Cg.of_eq (by simp [ev])
  | a :: as, b :: bs, x, h => by
    have ih := zipDiv_ev (p := p) (s := s) as bs x (by simpa using h)
    show Cg p (ev (List.zipWith (fun m d => (m - (s * d) % p) % p) as bs) x * x + (a - (s * b) % p) % p) ((ev as x * x + a) - s * (ev bs x * x + b))
    refine ((ih.mul (Cg.refl p x)).add ((Cg.mod p _).trans ((Cg.refl p a).sub (Cg.mod p _)))).trans (Cg.of_eq ?_)
    grind
  | [], _ :: _, _, h => by simp at h
  | _ :: _, [], _, h => by simp at h
theorem divStep_len {p : Int} {un left : List Int} (h : un.length ≤ left.length) (h1 : 1 ≤ un.length) : (divStep p un left).length = left.length - 1 := by
  unfold divStep
  simp
  (first | lia | omega)
theorem divStep_sg {p : Int} (hp : 0 < p) {un left : List Int} (h : ∀ s ∈ left, 0 ≤ s ∧ s < p) : ∀ s ∈ divStep p un left, 0 ≤ s ∧ s < p := fun s hs => by
  unfold divStep at hs
  rcases List.mem_append.mp hs with hs | hs
  · exact h s (List.mem_of_mem_take hs)
  · exact zw_mem (f := fun m d => m - (left.getLastD 0 * d) % p) hp s (List.dropLast_subset _ hs)
theorem divStep_ev {p : Int} {u0 left : List Int} (h : u0.length + 1 ≤ left.length) (x : Int) : Cg p (ev (divStep p (u0 ++ [1]) left) x) (ev left x - x ^ (left.length - (u0.length + 1)) * (left.getLastD 0 * ev (u0 ++ [1]) x)) := by
  have hl : (u0 ++ [(1 : Int)]).length = u0.length + 1 := by simp
  have hd : (left.drop (left.length - (u0 ++ [(1 : Int)]).length)).length = (u0 ++ [(1 : Int)]).length := by rw [List.length_drop, hl]; (first | lia | omega)
  unfold divStep
  generalize hs : left.getLastD 0 = sh
  generalize hT : List.zipWith (fun m d => (m - (sh * d) % p) % p) (left.drop (left.length - (u0 ++ [(1 : Int)]).length)) (u0 ++ [1]) = T
  have hTl : T.length = u0.length + 1 := by rw [← hT, List.length_zipWith, hd, hl]; (first | lia | omega)
  have hlast : Cg p (T.getLastD 0) 0 := by
    rw [last_get, hTl, ← hT, zw_get (by rw [hd, hl]; (first | lia | omega)) (by rw [hl]; (first | lia | omega))]
    have e1 : (u0 ++ [(1 : Int)]).getD (u0.length + 1 - 1) 0 = 1 := by simp [List.getD_eq_getElem?_getD]
    have e2 : (left.drop (left.length - (u0 ++ [(1 : Int)]).length)).getD (u0.length + 1 - 1) 0 = sh := by
      rw [← hs, last_get, List.getD_eq_getElem?_getD, List.getElem?_drop, List.getD_eq_getElem?_getD, hl]
      congr 2; (first | lia | omega)
    rw [e1, e2]
    exact (Cg.mod p _).trans (((Cg.refl p _).sub (Cg.mod p _)).trans (Cg.of_eq (by (first | lia | omega))))
  have hTe : Cg p (ev T x) (ev (left.drop (left.length - (u0 ++ [(1 : Int)]).length)) x - sh * ev (u0 ++ [1]) x) := by rw [← hT]; exact zipDiv_ev _ _ x hd
  rw [ev_app]
  have hk : (left.take (left.length - (u0 ++ [(1 : Int)]).length)).length = left.length - (u0.length + 1) := by rw [List.length_take, hl]; (first | lia | omega)
  refine ((Cg.refl p _).add ((Cg.refl p _).mul ((ev_dropLast hlast).trans hTe))).trans (Cg.of_eq ?_)
  have hsp : ev left x = ev (left.take (left.length - (u0 ++ [(1 : Int)]).length)) x + x ^ (left.take (left.length - (u0 ++ [(1 : Int)]).length)).length * ev (left.drop (left.length - (u0 ++ [(1 : Int)]).length)) x := by
    rw [← ev_app, List.take_append_drop]
  rw [hsp, hk]
  grind
/-- dividing what is a curve times the other gives the curve -/
theorem divGo_ok {p : Int} (F : Fld p) {u0 : List Int} : ∀ (n : Nat) (c left : List Int), c.length = n → left.length = n + u0.length → ((n + u0.length : Nat) : Int) ≤ p → (∀ s ∈ left, 0 ≤ s ∧ s < p) → (∀ x, Cg p (ev left x) (ev c x * ev (u0 ++ [1]) x)) →
    divGo p (u0 ++ [1]) n left = (c.map fun a => a % p).reverse
  | 0, c, left, hc, _, _, _, _ => by
    rw [List.length_eq_zero_iff.mp hc]; rfl
  | n + 1, c, left, hc, hl, hp, hs, h => by
    obtain ⟨c', a, rfl⟩ : ∃ c' a, c = c' ++ [a] := by
      cases e : c.getLast? with
      | none =>
        rw [List.getLast?_eq_none_iff.mp e] at hc
        simp at hc
      | some a =>
        obtain ⟨l', rfl⟩ := List.getLast?_eq_some_iff.mp e
        exact ⟨l', a, rfl⟩
    have hc' : c'.length = n := by simpa using hc
    obtain ⟨M, hM, eM⟩ := mul_top (m := u0.length) (u0 := u0) rfl c' a
    have hlast : left.getLastD 0 = a % p := by
      have q := same_coef F (a := left) (b := M ++ [a]) (xs := rng left.length) (by simp [hM, hl, hc']; (first | lia | omega)) (by simp [rng]) (range_apart (by rw [hl]; (first | lia | omega))) (fun x _ => (h x).trans (Cg.of_eq (eM x).symm)) (left.length - 1)
      rw [← last_get] at q
      have e : (M ++ [a]).getD (left.length - 1) 0 = a := by
        rw [List.getD_eq_getElem?_getD, hl, show n + 1 + u0.length - 1 = M.length by rw [hM, hc']; (first | lia | omega)]
        simp
      rw [e] at q
      have b : 0 ≤ left.getLastD 0 ∧ left.getLastD 0 < p := by
        cases e : left.getLast? with
        | none =>
          rw [List.getLast?_eq_none_iff.mp e] at hl
          simp at hl
          (first | lia | omega)
        | some b =>
          obtain ⟨l', rfl⟩ := List.getLast?_eq_some_iff.mp e
          rw [show (l' ++ [b]).getLastD 0 = b by simp]
          exact hs b (by simp)
      have := q.emod
      rwa [Int.emod_eq_of_lt b.1 b.2] at this
    have ih := divGo_ok F (u0 := u0) n c' (divStep p (u0 ++ [1]) left) hc' (by rw [divStep_len (by simp; (first | lia | omega)) (by simp)]; (first | lia | omega)) (by (first | lia | omega)) (divStep_sg F.pos hs) fun x => by
      refine (divStep_ev (by (first | lia | omega)) x).trans ?_
      rw [hlast]
      refine (((h x).sub ((Cg.refl p _).mul ((Cg.mod p a).mul (Cg.refl p _))))).trans (Cg.of_eq ?_)
      rw [ev_snoc c', show left.length - (u0.length + 1) = c'.length by (first | lia | omega)]
      grind
    show left.getLastD 0 :: divGo p (u0 ++ [1]) n (divStep p (u0 ++ [1]) left) = _
    rw [ih, hlast, List.map_append, List.reverse_append]
    rfl
theorem dt_add {f g : Nat → Int} (m : Nat) : ∀ n, dt (m + n) f g = dt m f g + dt n (fun i => f (m + i)) (fun i => g (m + i))
  | 0 => by simp [dt]
  | n + 1 => by
    show dt (m + n) f g + f (m + n) * g (m + n) = dt m f g + (dt n (fun i => f (m + i)) (fun i => g (m + i)) + f (m + n) * g (m + n))
    rw [dt_add m n]; (first | lia | omega)
/-- by powers -/
theorem dt_ev {p x : Int} {f : Nat → Int} : ∀ (c : List Int) (n : Nat), c.length = n → (∀ i, i < n → Cg p (f i) (x ^ i)) → Cg p (dt n f (fun i => c.getD i 0)) (ev c x) := by
  intro c n
  induction n generalizing c with
  | zero =>
    intro hc _
    rw [List.length_eq_zero_iff.mp hc]; exact Cg.refl p _
  | succ n ih =>
    intro hc hf
    obtain ⟨c', a, rfl⟩ : ∃ c' a, c = c' ++ [a] := by
      cases e : c.getLast? with
      | none =>
        rw [List.getLast?_eq_none_iff.mp e] at hc
        simp at hc
      | some a =>
        obtain ⟨l', rfl⟩ := List.getLast?_eq_some_iff.mp e
        exact ⟨l', a, rfl⟩
    have hc' : c'.length = n := by simpa using hc
    have q := ih c' hc' fun i hi => hf i (by (first | lia | omega))
    rw [ev_snoc, hc']
    have e1 : dt n f (fun i => (c' ++ [a]).getD i 0) = dt n f (fun i => c'.getD i 0) := dt_congr n (fun _ _ => rfl) fun j hj => by
      show (c' ++ [a]).getD j 0 = c'.getD j 0
      rw [List.getD_eq_getElem?_getD, List.getElem?_append_left (by (first | lia | omega)), List.getD_eq_getElem?_getD]
    show Cg p (dt n f (fun i => (c' ++ [a]).getD i 0) + f n * (c' ++ [a]).getD n 0) _
    rw [e1]
    have e2 : (c' ++ [a]).getD n 0 = a := by simp [List.getD_eq_getElem?_getD, ← hc']
    rw [e2]
    exact q.add ((hf n (by (first | lia | omega))).mul (Cg.refl p a))
theorem powersOf_len (p x : Int) (k : Nat) : (powersOf p x k).length = k := by simp [powersOf]
theorem powersOf_get {p x : Int} {k i : Nat} (h : i < k) : (powersOf p x k).getD i 0 = pwI p x i := by
  unfold powersOf
  rw [List.getD_eq_getElem?_getD, List.getElem?_map, List.getElem?_range h]; rfl
theorem equation_len (p x s : Int) (n room : Nat) : (equation p x s n room).length = n + 2 * room + 1 := by
  unfold equation
  simp [powersOf_len, scal_len]
  (first | lia | omega)
theorem equation_rw {p x s : Int} (hp : 2 ≤ p) {n room : Nat} (hn : 1 ≤ n) : Rw p (n + 2 * room) (equation p x s n room) := by
  refine ⟨equation_len .., fun m hm => ?_⟩
  have pw : ∀ i, 0 ≤ pwI p x i ∧ pwI p x i < p := fun i => by
    cases i with
    | zero => exact ⟨by show (0 : Int) ≤ 1; (first | lia | omega), by show (1 : Int) < p; (first | lia | omega)⟩
    | succ i => exact ⟨Int.emod_nonneg _ (by (first | lia | omega)), Int.emod_lt_of_pos _ (by (first | lia | omega))⟩
  have md : ∀ a : Int, 0 ≤ a % p ∧ a % p < p := fun a => ⟨Int.emod_nonneg _ (by (first | lia | omega)), Int.emod_lt_of_pos _ (by (first | lia | omega))⟩
  unfold equation at hm
  rcases List.mem_append.mp hm with hm | hm
  · rcases List.mem_append.mp hm with hm | hm
    · obtain ⟨i, _, rfl⟩ := List.mem_map.mp hm
      exact pw i
    · obtain ⟨i, _, rfl⟩ := List.mem_map.mp hm
      exact md _
  · rw [List.mem_singleton.mp hm]
    unfold scal
    rw [map_get (by simp)]
    exact md _
/-- an equation holds where the product's sign is the sign times the finder's -/
theorem equation_hol {p x s : Int} {n room : Nat} (hn : 1 ≤ n) {a : List Int} (ha : a.length = n + 2 * room) : Hol p (n + 2 * room) (equation p x s n room) (vecOf a (n + 2 * room)) ↔ Cg p (ev (a.take (n + room)) x) (s * ev (a.drop (n + room) ++ [1]) x) := by
  have hA : ∀ i, i < n + room → (equation p x s n room).getD i 0 = pwI p x i := fun i hi => by
    unfold equation
    rw [List.append_assoc, List.getD_eq_getElem?_getD, List.getElem?_append_left (by rw [powersOf_len]; exact hi), ← List.getD_eq_getElem?_getD, powersOf_get hi]
  have hB : ∀ i, i < room → Cg p ((equation p x s n room).getD (n + room + i) 0) (-(s * x ^ i)) := fun i hi => by
    unfold equation
    rw [List.append_assoc, List.getD_eq_getElem?_getD, List.getElem?_append_right (by rw [powersOf_len]; (first | lia | omega)), powersOf_len, Nat.add_sub_cancel_left, List.getElem?_append_left (by simp [scal_len, powersOf_len]; (first | lia | omega)), List.getElem?_map, List.getElem?_take_of_lt hi]
    unfold scal
    rw [List.getElem?_map]
    unfold powersOf
    rw [List.getElem?_map, List.getElem?_range (by (first | lia | omega))]
    show Cg p ((0 - (pwI p x i * s) % p) % p) _
    refine (Cg.mod p _).trans (((Cg.refl p 0).sub ((Cg.mod p _).trans ((pwI_cg i).mul (Cg.refl p s)))).trans (Cg.of_eq ?_))
    grind
  have hC : Cg p ((equation p x s n room).getD (n + 2 * room) 0) (s * x ^ room) := by
    unfold equation
    rw [List.getD_eq_getElem?_getD, List.getElem?_append_right (by simp [scal_len, powersOf_len]; (first | lia | omega))]
    have : (n + 2 * room) - (powersOf p x (n + room) ++ ((scal p (powersOf p x (n + room)) s).take room).map (fun m => (0 - m) % p)).length = 0 := by simp [scal_len, powersOf_len]; (first | lia | omega)
    rw [this]
    show Cg p ((scal p (powersOf p x (n + room)) s).getD room 0) _
    unfold scal
    rw [map_get (by simp), powersOf_get (by (first | lia | omega))]
    exact (Cg.mod p _).trans (((pwI_cg room).mul (Cg.refl p s)).trans (Cg.of_eq (by grind)))
  have e : Cg p (dt (n + 2 * room + 1) (fun i => (equation p x s n room).getD i 0) (vecOf a (n + 2 * room))) (ev (a.take (n + room)) x - s * ev (a.drop (n + room) ++ [1]) x) := by
    have h1 : dt (n + 2 * room) (fun i => (equation p x s n room).getD i 0) (vecOf a (n + 2 * room)) = dt (n + room) (fun i => (equation p x s n room).getD i 0) (fun i => (a.take (n + room)).getD i 0) +
        dt room (fun i => (equation p x s n room).getD (n + room + i) 0) (fun i => (a.drop (n + room)).getD i 0) := by
      rw [show n + 2 * room = (n + room) + room by (first | lia | omega), dt_add]
      congr 1
      · refine dt_congr _ (fun _ _ => rfl) fun j hj => ?_
        unfold vecOf
        rw [if_neg (by (first | lia | omega)), List.getD_eq_getElem?_getD, List.getD_eq_getElem?_getD, List.getElem?_take_of_lt hj]
      · refine dt_congr _ (fun _ _ => rfl) fun j hj => ?_
        show vecOf a (n + room + room) (n + room + j) = _
        unfold vecOf
        rw [if_neg (by (first | lia | omega)), List.getD_eq_getElem?_getD, List.getD_eq_getElem?_getD, List.getElem?_drop]
    have h2 : Cg p (dt (n + room) (fun i => (equation p x s n room).getD i 0) (fun i => (a.take (n + room)).getD i 0)) (ev (a.take (n + room)) x) :=
      dt_ev (a.take (n + room)) (n + room) (by rw [List.length_take]; (first | lia | omega)) fun i hi => by
        show Cg p ((equation p x s n room).getD i 0) (x ^ i)
        rw [hA i hi]; exact pwI_cg i
    have h3 : Cg p (dt room (fun i => (equation p x s n room).getD (n + room + i) 0) (fun i => (a.drop (n + room)).getD i 0)) (-(s * ev (a.drop (n + room)) x)) := by
      have q1 := dt_cg (p := p) room (f := fun i => (equation p x s n room).getD (n + room + i) 0) (f' := fun _ => 0) (f'' := fun i => x ^ i) (fun i => (a.drop (n + room)).getD i 0) s fun i hi => (hB i hi).trans (Cg.of_eq (by (first | lia | omega)))
      have z : ∀ m, dt m (fun _ => 0) (fun i => (a.drop (n + room)).getD i 0) = 0 := fun m => by
        induction m with
        | zero => rfl
        | succ m ih => show dt m _ _ + 0 * _ = 0; rw [ih]; (first | lia | omega)
      rw [z] at q1
      have q2 := dt_ev (p := p) (x := x) (f := fun i => x ^ i) (a.drop (n + room)) room (by rw [List.length_drop]; (first | lia | omega)) fun i _ => Cg.refl p _
      exact q1.trans ((((Cg.refl p 0).sub ((Cg.refl p s).mul q2))).trans (Cg.of_eq (by (first | lia | omega))))
    show Cg p (dt (n + 2 * room) (fun i => (equation p x s n room).getD i 0) (vecOf a (n + 2 * room)) + (equation p x s n room).getD (n + 2 * room) 0 * vecOf a (n + 2 * room) (n + 2 * room)) _
    rw [h1]
    have hv : vecOf a (n + 2 * room) (n + 2 * room) = -1 := if_pos rfl
    rw [hv]
    refine ((h2.add h3).add (hC.mul (Cg.refl p (-1)))).trans (Cg.of_eq ?_)
    rw [ev_snoc, List.length_drop, ha, show n + 2 * room - (n + room) = room by (first | lia | omega)]
    grind
  constructor
  · intro h
    have := (e.symm.trans h).add (Cg.refl p (s * ev (a.drop (n + room) ++ [1]) x))
    exact ((Cg.of_eq (by (first | lia | omega))).trans this).trans (Cg.of_eq (by (first | lia | omega)))
  · intro h
    exact e.trans ((h.sub (Cg.refl p _)).trans (Cg.of_eq (by (first | lia | omega))))
/-- a finder: one at the greatest power, nought at the given places -/
theorem finder_ex {p : Int} (F : Fld p) : ∀ (ws : List Int) (k : Nat), ∃ E : List Int, E.length = ws.length + k ∧ ∀ w ∈ ws, Cg p (ev (E ++ [1]) w) 0
  | [], k => ⟨List.replicate k 0, by simp, fun w h => absurd h (by simp)⟩
  | w :: ws, k => by
    obtain ⟨E, hE, h⟩ := finder_ex F ws k
    obtain ⟨M, hM, e⟩ := mul_top (m := E.length) (u0 := E) rfl [-w] 1
    refine ⟨M, by rw [hM, hE]; simp; (first | lia | omega), fun y hy => ?_⟩
    rw [e y]
    have e1 : ev ([-w] ++ [1]) y = y - w := by simp [ev]; (first | lia | omega)
    rw [e1]
    rcases List.mem_cons.mp hy with z | z
    · subst z
      exact Cg.of_eq (by grind)
    · exact ((Cg.refl p _).mul (h y z)).trans (Cg.of_eq (by grind))
theorem mem_zw {f : Int → Int → List Int} {xs ss : List Int} {r : List Int} (h : r ∈ List.zipWith f xs ss) : ∃ (i : Nat) (x s : Int), xs[i]? = some x ∧ ss[i]? = some s ∧ r = f x s := by
  obtain ⟨i, hi, rfl⟩ := List.mem_iff_getElem.mp h
  rw [List.length_zipWith] at hi
  exact ⟨i, xs[i], ss[i], List.getElem?_eq_getElem (by (first | lia | omega)), List.getElem?_eq_getElem (by (first | lia | omega)), by simp⟩
theorem zw_mem_of {f : Int → Int → List Int} {xs ss : List Int} {i : Nat} {x s : Int} (hx : xs[i]? = some x) (hs : ss[i]? = some s) : f x s ∈ List.zipWith f xs ss := by
  refine List.mem_of_getElem? (i := i) ?_
  rw [List.getElem?_zipWith, hx, hs]
theorem ans_sg {p : Int} (hp : 0 < p) {u : Nat} : ∀ {kept : Kp} {a : List Int}, (∀ q ∈ kept, Rw p u q.2) → (∀ s ∈ a, 0 ≤ s ∧ s < p) → ∀ s ∈ kept.foldl (fun a q => a.set q.1 (q.2.getD u 0)) a, 0 ≤ s ∧ s < p
  | [], _, _, h => h
  | r :: kept, a, hk, h => by
    refine ans_sg hp (kept := kept) (a := a.set r.1 (r.2.getD u 0)) (fun q hq => hk q (List.mem_cons_of_mem _ hq)) fun s hs => ?_
    rcases List.mem_or_eq_of_mem_set hs with z | z
    · exact h s z
    · rw [z]; exact (hk r (List.mem_cons_self ..)).get hp u
theorem solved_sg {p : Int} (F : Fld p) {u : Nat} {rows : List (List Int)} {a : List Int} (hr : ∀ r ∈ rows, Rw p u r) (h : solved p rows u = some a) : ∀ s ∈ a, 0 ≤ s ∧ s < p := by
  unfold solved at h
  cases e : slGo p u rows [] with
  | none => rw [e] at h; cases h
  | some k =>
    rw [e] at h
    cases h
    obtain ⟨K, _⟩ := slGo_ok F KI.nil hr e
    refine ans_sg F.pos K.rw fun s hs => ?_
    rw [(List.mem_replicate.mp hs).2]
    exact ⟨Int.le_refl _, F.pos⟩
/-- where a curve is near enough, that curve comes out -/
theorem onlyC_ok {p : Int} (F : Fld p) {xs ss c ws good : List Int} {n room : Nat} (hc : c.length = n) (hn : 1 ≤ n) (hl : xs.length = ss.length) (hws : ws.length ≤ room)
    (hsp : ∀ (i : Nat) (x s : Int), xs[i]? = some x → ss[i]? = some s → Cg p s (ev c x) ∨ x ∈ ws)
    (hg : good.length = n + room) (hgd : good.Pairwise (fun a b => ¬ Cg p (b - a) 0)) (hgs : ∀ x ∈ good, ∃ (i : Nat) (s : Int), xs[i]? = some x ∧ ss[i]? = some s ∧ Cg p s (ev c x))
    (hp : ((n + room : Nat) : Int) ≤ p) : onlyC p xs ss n room = some (c.map fun a => a % p) := by
  have hp2 := F.two
  have hrw : ∀ r ∈ List.zipWith (fun x s => equation p x s n room) xs ss, Rw p (n + 2 * room) r := fun r hr => by
    obtain ⟨i, x, s, _, _, rfl⟩ := mem_zw hr
    exact equation_rw hp2 hn
  -- something holds
  obtain ⟨E, hE, hEz⟩ := finder_ex F ws (room - ws.length)
  have hE' : E.length = room := by (first | lia | omega)
  obtain ⟨M, hM, eM⟩ := mul_ex (m := room) (u := E ++ [1]) (by simp [hE']) c
  have hv : ∃ a, solved p (List.zipWith (fun x s => equation p x s n room) xs ss) (n + 2 * room) = some a := by
    refine solved_some F (v := vecOf (M ++ E) (n + 2 * room)) (if_pos rfl) hrw fun r hr => ?_
    obtain ⟨i, x, s, hx, hs, rfl⟩ := mem_zw hr
    refine (equation_hol hn (by simp [hM, hE', hc]; (first | lia | omega))).mpr ?_
    have e1 : (M ++ E).take (n + room) = M := by rw [List.take_left' (by rw [hM, hc])]
    have e2 : (M ++ E).drop (n + room) = E := by rw [List.drop_left' (by rw [hM, hc])]
    rw [e1, e2, eM x]
    rcases hsp i x s hx hs with h | h
    · exact h.symm.mul (Cg.refl p _)
    · have z := hEz x h
      have z1 : Cg p (ev c x * ev (E ++ [1]) x) (ev c x * 0) := (Cg.refl p _).mul z
      have z2 : Cg p (s * ev (E ++ [1]) x) (s * 0) := (Cg.refl p s).mul z
      rw [Int.mul_zero] at z1 z2
      exact z1.trans z2.symm
  obtain ⟨a, ha⟩ := hv
  obtain ⟨al, ah⟩ := solved_ok F hrw ha
  unfold onlyC
  rw [ha]
  show some (divided p (a.take (n + room)) (a.drop (n + room) ++ [1])) = _
  congr 1
  have hq : (a.take (n + room)).length = n + room := by rw [List.length_take]; (first | lia | omega)
  have hf : (a.drop (n + room)).length = room := by rw [List.length_drop]; (first | lia | omega)
  obtain ⟨M2, hM2, eM2⟩ := mul_ex (m := room) (u := a.drop (n + room) ++ [1]) (by rw [List.length_append, hf]; rfl) c
  have all := same_curve F (a := a.take (n + room)) (b := M2) (xs := good) (by rw [hq, hM2, hc]) (by rw [hq, hg]) hgd fun x hx => by
    obtain ⟨i, s, hx', hs', hcg⟩ := hgs x hx
    have h := (equation_hol hn al).mp (ah _ (zw_mem_of (f := fun x s => equation p x s n room) hx' hs'))
    rw [eM2 x]
    exact h.trans (hcg.mul (Cg.refl p _))
  unfold divided
  have hk : (a.take (n + room)).length + 1 - (a.drop (n + room) ++ [1]).length = n := by rw [hq, List.length_append, hf]; show n + room + 1 - (room + 1) = n; (first | lia | omega)
  rw [hk]
  have sg : ∀ s ∈ a.take (n + room), 0 ≤ s ∧ s < p := fun s hs => solved_sg F hrw ha s (List.mem_of_mem_take hs)
  rw [divGo_ok F (u0 := a.drop (n + room)) n c (a.take (n + room)) hc (by rw [hq, hf]) (by rw [hf]; exact hp) sg fun x => (all x).trans (Cg.of_eq (eM2 x))]
  rw [List.reverse_reverse]
end SM
namespace SM
/-- the known places -/
def knownP (os : List (Option Int)) : List Nat := (List.range os.length).filter fun k => (os.getD k none).isSome
theorem knownP_len (os : List (Option Int)) : (knownP os).length = knownN os := (knownN_range os).symm
theorem mem_knownP {os : List (Option Int)} {k : Nat} : k ∈ knownP os ↔ k < os.length ∧ (os.getD k none).isSome = true := by
  unfold knownP
  rw [List.mem_filter, List.mem_range]
end SM
namespace SM
def sgn (os : List (Option Int)) (k : Nat) : Int := (os.getD k none).getD 0
def knowns (os : List (Option Int)) : List Int := (knownP os).map fun (k : Nat) => (k : Int)
def signsK (os : List (Option Int)) : List Int := (knownP os).map (sgn os)
def roomOf (os : List (Option Int)) (n : Nat) : Nat := (knownN os - n) / 2
def nearest (p : Int) (os : List (Option Int)) (n : Nat) : Option (List Int) := if knownN os < n then none else
  match onlyC p (knowns os) (signsK os) n (roomOf os n) with
  | none => none
  | some c => if roomOf os n < (wrongs os (along p c os.length)).length then none else some (along p c os.length)
theorem nearest_of {p : Int} (F : Fld p) {os : List (Option Int)} {n : Nat} {w : List Int} (hn : 1 ≤ n) (hL : (os.length : Int) ≤ p) (h : Near p n os w) : nearest p os n = some w := by
  obtain ⟨⟨c, hc, rfl⟩, hnr⟩ := h
  have hkn := knownP_len os
  have hr : (wrongs os (pts p c os.length)).length ≤ roomOf os n := by unfold roomOf; (first | lia | omega)
  have hr2 : n + 2 * roomOf os n ≤ knownN os := by unfold roomOf; (first | lia | omega)
  have hkl : knownN os ≤ os.length := by
    rw [← hkn]
    unfold knownP
    have := List.length_filter_le (fun k => (os.getD k none).isSome) (List.range os.length)
    rwa [List.length_range] at this
  have sig : ∀ k ∈ knownP os, os.getD k none = some (sgn os k) := fun k hk => by
    have := (mem_knownP.mp hk).2
    unfold sgn
    cases e : os.getD k none with
    | none => rw [e] at this; cases this
    | some s => rfl
  have ptg : ∀ k, k < os.length → (pts p c os.length).getD k 0 = ev c (k : Int) % p := fun k hk => by
    rw [List.getD_eq_getElem?_getD, pts_get hk]; rfl
  -- the known places that are not wrong
  generalize hG : (knownP os).filter (fun k => !isW os (pts p c os.length) k) = G
  have hGl : n + roomOf os n ≤ G.length := by
    have hs := filter_split (isW os (pts p c os.length)) (knownP os)
    have hw : ((knownP os).filter (isW os (pts p c os.length))).length = (wrongs os (pts p c os.length)).length := by
      unfold wrongs knownP
      rw [List.length_map, List.filter_filter]
      congr 1
      refine List.filter_congr fun k _ => ?_
      unfold isW
      cases os.getD k none <;> simp
    rw [hG] at hs
    (first | lia | omega)
  have hGm : ∀ k ∈ G, k ∈ knownP os ∧ sgn os k = ev c (k : Int) % p := fun k hk => by
    rw [← hG] at hk
    obtain ⟨h1, h2⟩ := List.mem_filter.mp hk
    refine ⟨h1, ?_⟩
    unfold isW at h2
    rw [sig k h1, ptg k (mem_knownP.mp h1).1] at h2
    simpa using h2
  have hinc : ((G.take (n + roomOf os n)).map fun (k : Nat) => (k : Int)).Pairwise (· < ·) := by
    have h0 : (G.take (n + roomOf os n)).Pairwise (· < ·) := by
      rw [← hG]
      unfold knownP
      exact ((List.pairwise_lt_range.filter _).filter _).sublist (List.take_sublist ..)
    exact List.Pairwise.map _ (fun a b h => by (first | lia | omega)) h0
  have hmem : ∀ x ∈ (G.take (n + roomOf os n)).map fun (k : Nat) => (k : Int), 0 ≤ x ∧ x < (os.length : Int) := fun x hx => by
    obtain ⟨k, hk, rfl⟩ := List.mem_map.mp hx
    have := (mem_knownP.mp (hGm k (List.mem_of_mem_take hk)).1).1
    (first | lia | omega)
  have only := onlyC_ok F (xs := knowns os) (ss := signsK os) (c := c) (ws := wrongs os (pts p c os.length)) (good := (G.take (n + roomOf os n)).map fun (k : Nat) => (k : Int)) (n := n) (room := roomOf os n) hc hn
    (by simp [knowns, signsK]) hr
    (fun i x s hx hs => by
      unfold knowns at hx
      unfold signsK at hs
      rw [List.getElem?_map] at hx hs
      cases e : (knownP os)[i]? with
      | none => rw [e] at hx; cases hx
      | some k =>
        rw [e] at hx hs
        have hx' : ((k : Nat) : Int) = x := Option.some.inj hx
        have hs' : sgn os k = s := Option.some.inj hs
        subst hx'; subst hs'
        have hk := List.mem_of_getElem? e
        have hk' := (mem_knownP.mp hk).1
        by_cases hw : sgn os k = (pts p c os.length).getD k 0
        · left
          rw [hw, ptg k hk']; exact Cg.mod p _
        · right
          exact mem_wrongs.mpr ⟨k, sgn os k, rfl, hk', sig k hk, hw⟩)
    (by rw [List.length_map, List.length_take]; (first | lia | omega)) (take_apart hinc hmem hL)
    (fun x hx => by
      obtain ⟨k, hk, rfl⟩ := List.mem_map.mp hx
      obtain ⟨h1, h2⟩ := hGm k (List.mem_of_mem_take hk)
      obtain ⟨i, hi, e⟩ := List.mem_iff_getElem.mp h1
      refine ⟨i, sgn os k, ?_, ?_, ?_⟩
      · unfold knowns
        rw [List.getElem?_map, List.getElem?_eq_getElem hi, e]; rfl
      · unfold signsK
        rw [List.getElem?_map, List.getElem?_eq_getElem hi, e]; rfl
      · rw [h2]; exact Cg.mod p _)
    (by (first | lia | omega))
  have hal : along p (c.map fun a => a % p) os.length = pts p c os.length := by
    rw [along_pts]
    unfold pts
    exact List.map_congr_left fun k _ => (ev_map_mod (k : Int) c).emod
  unfold nearest
  rw [if_neg (by (first | lia | omega)), only]
  show (if roomOf os n < (wrongs os (along p (c.map fun a => a % p) os.length)).length then none else some (along p (c.map fun a => a % p) os.length)) = _
  rw [hal, if_neg (by (first | lia | omega))]
end SM
namespace SM
theorem knowns_incr (os : List (Option Int)) : (knowns os).Pairwise (· < ·) := by
  unfold knowns knownP
  exact List.Pairwise.map _ (fun a b h => by (first | lia | omega)) (List.pairwise_lt_range.filter _)
theorem knowns_in {os : List (Option Int)} : ∀ x ∈ knowns os, 0 ≤ x ∧ x < (os.length : Int) := fun x hx => by
  unfold knowns at hx
  obtain ⟨k, hk, rfl⟩ := List.mem_map.mp hx
  have := (mem_knownP.mp hk).1
  (first | lia | omega)
end SM
namespace SM
theorem near_exact {p : Int} (F : Fld p) {os : List (Option Int)} {n : Nat} (hn : 1 ≤ n) (hk : knownN os = n) (hL : (os.length : Int) ≤ p) (sg : ∀ s, some s ∈ os → 0 ≤ s ∧ s < p) : ∃ w, nearest p os n = some w := by
  have hkn := knownP_len os
  have h1 : (knowns os).length = n := by unfold knowns; rw [List.length_map]; (first | lia | omega)
  have h2 : (signsK os).length = n := by unfold signsK; rw [List.length_map]; (first | lia | omega)
  have hd := take_apart (p := p) (knowns_incr os) knowns_in hL
  obtain ⟨l1, l2⟩ := ct_ok F (xs := knowns os) (ss := signsK os) (by rw [h1, h2]) hd
  refine ⟨_, nearest_of F hn hL (w := pts p (ct p (knowns os) (signsK os)) os.length) ⟨⟨_, by rw [l1, h1], rfl⟩, ?_⟩⟩
  have hw : wrongs os (pts p (ct p (knowns os) (signsK os)) os.length) = [] := by
    refine List.eq_nil_iff_forall_not_mem.mpr fun x hx => ?_
    obtain ⟨k, s, rfl, hkl, hs, hne⟩ := mem_wrongs.mp hx
    have hm : k ∈ knownP os := mem_knownP.mpr ⟨hkl, by rw [hs]; rfl⟩
    obtain ⟨i, hi, e⟩ := List.mem_iff_getElem.mp hm
    have hx' : (knowns os)[i]? = some ((k : Nat) : Int) := by
      unfold knowns
      rw [List.getElem?_map, List.getElem?_eq_getElem hi, e]; rfl
    have hs' : (signsK os)[i]? = some s := by
      unfold signsK
      rw [List.getElem?_map, List.getElem?_eq_getElem hi, e]
      show some (sgn os k) = some s
      unfold sgn; rw [hs]; rfl
    have c := (l2 i _ _ hx' hs').emod
    have hb := sg s (by
      rw [List.getD_eq_getElem?_getD, List.getElem?_eq_getElem hkl] at hs
      have hs2 : os[k] = some s := hs
      rw [← hs2]; exact List.getElem_mem _)
    rw [Int.emod_eq_of_lt (a := s) hb.1 hb.2] at c
    apply hne
    rw [List.getD_eq_getElem?_getD, pts_get hkl, c]; rfl
  rw [hw]
  show 2 * 0 + n ≤ knownN os
  (first | lia | omega)
end SM
namespace L3
open PySem PySem.Spec L2
open PyProof.Rows hiding St
theorem ints_of : ∀ {ns : List Int} {us : List Value}, Vals (ns.map V.int) us → IntsAre us ns
  | [], _, r => by cases r; exact .nil
  | n :: ns, _, r => by
    cases r with
    | cons a b =>
      obtain ⟨t, rfl⟩ := a
      exact .cons n t (ints_of b)
def rEqL (K : PySem.W.Frag) : R2 := fun x y H Q => ∃ a b ns ms, x = .ref a ∧ y = .ref b ∧ SqL K H a (List.map V.int ns) ∧ SqL K H b (List.map V.int ms) ∧ Q (.bl (decide (ns = ms))) H
def rNeL (K : PySem.W.Frag) : R2 := fun x y H Q => ∃ a b ns ms, x = .ref a ∧ y = .ref b ∧ SqL K H a (List.map V.int ns) ∧ SqL K H b (List.map V.int ms) ∧ Q (.bl (!decide (ns = ms))) H
section
variable {X : Cx}
theorem op_eqL (hu : X.A.units + 64 < cLine) : OpR X (compareOp .Eq) (rEqL X.K) := by
  intro pins s σ H x y v u Q I rx ry h
  obtain ⟨a, b, ns, ms, rfl, rfl, h1, h2, q⟩ := h
  cases rx; cases ry
  obtain ⟨i1, r1, p1, _⟩ := I.list h1
  obtain ⟨i2, r2, p2, _⟩ := I.list h2
  exact PySem.W.ke_eq_ints p1.isList p2.isList (ints_of r1) (ints_of r2) hu ⟨.bl _, H, I, rfl, q⟩
theorem op_neL (hu : X.A.units + 64 < cLine) : OpR X (compareOp .NotEq) (rNeL X.K) := by
  intro pins s σ H x y v u Q I rx ry h
  obtain ⟨a, b, ns, ms, rfl, rfl, h1, h2, q⟩ := h
  cases rx; cases ry
  obtain ⟨i1, r1, p1, _⟩ := I.list h1
  obtain ⟨i2, r2, p2, _⟩ := I.list h2
  exact PySem.W.ke_ne_ints p1.isList p2.isList (ints_of r1) (ints_of r2) hu ⟨.bl _, H, I, rfl, q⟩
theorem call_rangeV : CallR X (.type "range") (fun xs H Q => ∃ j : Int, xs = [.int j] ∧ ∀ p, H p = none → Q (.ref p) (upd H p (.rng 0 j))) := by
  intro pins s σ H xs us Q I r h
  obtain ⟨j, rfl, q⟩ := h
  obtain ⟨u, rfl, t, rfl⟩ := vals1 r
  refine call_range_1 ⟨.ref _, upd H s.heap.objs.size (.rng 0 j), ?_, rfl, q _ I.fresh⟩
  exact I.laid (fun b o e => Heap.get?_push_of_some _ e) (Nat.le_refl _) ⟨_, _, _, Heap.get?_push_size _ rfl⟩
def rngV (lo : Int) (n : Nat) : List V := (List.range n).map fun (k : Nat) => V.int (lo + (k : Int))
theorem vals_items {P : Nat → Value → Prop} {f : Nat → V} (hf : ∀ i v, P i v → RelV (f i) v) : ∀ (l : List Value) (k n : Nat), l.length = n → (∀ (j : Nat) (v : Value), l[j]? = some v → P (k + j) v) → Vals ((List.range n).map fun i => f (k + i)) l
  | [], k, n, h, _ => by
    have : n = 0 := by simpa using h.symm
    subst this; exact .nil
  | v :: l, k, n, h, hP => by
    obtain ⟨m, rfl⟩ : ∃ m, n = m + 1 := ⟨l.length, by simpa using h.symm⟩
    rw [List.range_succ_eq_map, List.map_cons, List.map_map]
    refine .cons (hf _ _ (hP 0 v rfl)) ?_
    have ih := vals_items hf l (k + 1) m (by simpa using h) fun j u hj => by
      have := hP (j + 1) u (by simpa using hj)
      rwa [show k + (j + 1) = k + 1 + j by (first | lia | omega)] at this
    have e : ((fun i => f (k + i)) ∘ Nat.succ) = fun i => f (k + 1 + i) := by
      funext i; show f (k + (i + 1)) = f (k + 1 + i); rw [show k + (i + 1) = k + 1 + i by (first | lia | omega)]
    rw [e]; exact ih
theorem call_list_rng (hc : X.calm = true) : CallR X (.type "list") (fun xs H Q => ∃ (p : Addr) (lo hi : Int), xs = [.ref p] ∧ H p = some (.rng lo hi) ∧ (-(2 ^ 62) ≤ lo ∧ lo < 2 ^ 62 ∧ -(2 ^ 62) ≤ hi ∧ hi < 2 ^ 62) ∧ (hi - lo).toNat ≤ sizeLine ∧ (hi - lo).toNat ≤ 2 ^ 24 ∧
    ∀ l, H l = none → Q (.ref l) (upd H l (.lst (rngV lo (hi - lo).toNat)))) := by
  intro pins s σ H xs us Q I r h
  obtain ⟨p, lo, hi, rfl, hp, ⟨b1, b2, b3, b4⟩, hz, hz2, q⟩ := h
  obtain ⟨u, rfl, rx⟩ := vals1 r
  cases rx
  obtain ⟨t1, t2, t3, e⟩ := I.hok p _ hp
  refine call_list_range (I.ok.hd hc) (show IsRange s.heap p lo hi 1 t1 t2 t3 from e) (small_one b1 b2 b3 b4) (n := (hi - lo).toNat) (by rw [rangeSize_one]; split <;> (first | lia | omega)) hz2 fun h' tk acc c hk ho hi' => ?_
  refine ⟨.ref _, upd H s.heap.objs.size (.lst (rngV lo (hi - lo).toNat)), I.laid (t' := tk) hk (Nat.le_refl _) ⟨by simpa [rngV] using hz, acc.toList, c, ?_, by simpa using ho⟩, rfl, q _ I.fresh⟩
  have := vals_items (P := fun i v => ∃ t, v = Value.int (lo + i * 1) t) (f := fun i => V.int (lo + (i : Int))) (fun i v ⟨t, e⟩ => ⟨t, by rw [e, Int.mul_one]⟩) acc.toList 0 (hi - lo).toNat (by simpa using hi'.1) fun j v hj => by
    have := hi'.2 j v (by simpa using hj)
    simpa using this
  simpa [rngV] using this
end
def Itv (K : PySem.W.Frag) (a : Addr) (n : Nat) : It :=
  ⟨fun i H => ∃ xs, SqL K H a xs ∧ xs.length = n ∧ i < n, fun i H x H' => H' = H ∧ ∀ xs, SqL K H a xs → xs[n - 1 - i]? = some x, fun i _ => n ≤ i⟩
theorem turn_rev {P : Program} {w : World} {K : PySem.W.Frag} {tg : Expr} (a it : Addr) (n : Nat) : Turn P w K tg (Itv K a n) [it] it (fun i h => i ≤ n ∧ h.IsRevIter it a ((n : Int) - 1 - (i : Int))) where
  mem := by simp
  obj := fun i h st b hb => by
    obtain rfl : b = it := by simpa using hb
    obtain ⟨_, o, e, c, d⟩ := st
    exact ⟨o, e, fun v z => by rw [d] at z; cases z⟩
  keep := fun i h h' st k => ⟨st.1, st.2.at fun o e => k it (by simp) o e⟩
  item := by
    intro X hP hw hK hc i pins s σ H E I hf st hg
    subst hP hw hK
    obtain ⟨xs, hq, hl, hi⟩ := hg
    obtain ⟨its, rv, p, hz⟩ := I.list hq
    have hlen := rv.length
    have hx : xs[n - 1 - i]? = some (xs[n - 1 - i]'(by (first | lia | omega))) := List.getElem?_eq_getElem _
    obtain ⟨u, hu, ru⟩ := rv.get hx
    obtain ⟨f0, f1, f2, f3, f4, f5⟩ := hf it (by simp)
    have e : (n : Int) - 1 - (i : Int) = ((n - 1 - i : Nat) : Int) := by (first | lia | omega)
    have st2 := st.2
    rw [e] at st2
    refine wpAny_pyNext_rev_item st2 p.isList (x := u) (by simpa using hu) fun h' st' sb => ?_
    have I1 : Inv X pins σ H { s with heap := h' } := I.turned (t' := s.toks) (fun b o hb e => (sb.2 b hb).trans e) f0 f1 f3 f4 f5
    have e2 : ((n - 1 - i : Nat) : Int) - 1 = (n : Int) - 1 - ((i + 1 : Nat) : Int) := by (first | lia | omega)
    rw [e2] at st'
    obtain ⟨o, eo, c, d⟩ := id st'
    exact ⟨u, rfl, go_of (s := { s with heap := h' }) eo c d (by decide) ⟨_, H, I1, ru, ⟨rfl, fun ys hy => by rw [I.list_inj hy hq]; exact hx⟩, ⟨by (first | lia | omega), st'⟩, fun b hb => (hf b hb).1⟩⟩
  done := by
    intro X hP hw hK hc i pins s σ H E I hf st hg
    subst hP hw hK
    obtain ⟨f0, f1, f2, f3, f4, f5⟩ := hf it (by simp)
    have hni : n ≤ i := hg
    have e : (n : Int) - 1 - (i : Int) = -1 := by have := st.1; (first | lia | omega)
    have st2 := st.2
    rw [e] at st2
    exact wpAny_pyNext_rev_end (I.ok.hd hc) st2 fun h' eb => ⟨rfl, I.turned (t' := s.toks) (fun b o hb e => eb b o hb e) f0 f1 f3 f4 f5⟩
  self := fun _ _ _ _ _ st h => wpAny_pyIter_revIter st.2 h
section
variable {X : Cx} {tg : Expr}
def iRev (K : PySem.W.Frag) (ta : TA) : TI := fun σ H R => ta σ H fun vs H1 => ∃ a xs, vs = [.ref a] ∧ SqL K H1 a xs ∧ R (Itv K a xs.length) H1
theorem pi_rev {a : Expr} {ta : TA} {p pos : Pos} (hg : Gl X "reversed") (hm : X.mg "reversed" = none) (ha : PA X [a] ta) (hs : starEach [a] X.env = [(false, eval a X.env)] := by rfl) : PI X tg (.Call (.Name "reversed" p) [a] [] pos) (iRev X.K ta) := by
  intro pins s σ H R I h
  refine Call_ (ld_blt I hg hm boot_reversed (PyProof.Rows.callWith_type1 (thn (ha pos pins s σ H _ I h) fun us s1 ⟨vs, H1, I1, r1, q1⟩ => ?_) hs rfl))
  obtain ⟨l, xs, rfl, hq, q⟩ := q1
  obtain ⟨u, rfl, rx⟩ := vals1 r1
  cases rx
  obtain ⟨its, rv, pl, hz⟩ := I1.list hq
  have hlen := rv.length
  refine call_reversed_list pl.isList ?_
  have I2 : Inv X pins σ H1 { s1 with heap := s1.heap.push (revObj l ((its.toArray.size : Int) - 1)) } := I1.kept (t' := s1.toks) fun b o e => Heap.get?_push_of_some _ e
  have it0 : (s1.heap.push (revObj l ((its.toArray.size : Int) - 1))).IsRevIter s1.heap.objs.size l ((xs.length : Int) - 1 - ((0 : Nat) : Int)) :=
    ⟨_, Heap.get?_push_size _ rfl, rfl, by simp [revObj, hlen]⟩
  refine wpAny_pyIter_revIter it0 ?_
  refine ⟨s1.heap.objs.size, [s1.heap.objs.size], _, _, H1, rfl, I2, turn_rev l _ xs.length, ⟨Nat.zero_le _, it0⟩, fun b hb => ?_, q⟩
  obtain rfl : b = s1.heap.objs.size := by simpa using hb
  exact I1.fpOk (Nat.le_refl _) (I1.hok.fresh (Nat.le_refl _))
end
theorem for_rev {K : PySem.W.Frag} {a : Addr} {xs : List V} {g : TG} {tb : TS} {D : Ends} {σ : St} {H : Hp} (Pv : Nat → St → Hp → Prop) (h0 : Pv 0 σ H) (hl : ∀ i σ H, i ≤ xs.length → Pv i σ H → SqL K H a xs)
    (hs : ∀ i x σ H, i < xs.length → xs[xs.length - 1 - i]? = some x → Pv i σ H → g x σ H fun σ2 H2 => tb { D with nx := Pv (i + 1), ct := Pv (i + 1), bk := D.nx } σ2 H2) (hd : ∀ σ H, Pv xs.length σ H → D.nx σ H) :
    ∃ W : Nat → Nat → St → Hp → Prop, (∃ m, W 0 m σ H) ∧ ∀ i m σ H, W i m σ H →
      ((Itv K a xs.length).stop i H ∧ D.nx σ H) ∨ ((Itv K a xs.length).go i H ∧ ∃ N : St → Hp → Prop, (∀ σ' H', N σ' H' → ∃ m', m' < m ∧ W (i + 1) m' σ' H') ∧ ∀ x H', (Itv K a xs.length).yld i H x H' → g x σ H' fun σ2 H2 => tb { D with nx := N, ct := N, bk := D.nx } σ2 H2) := by
  refine ⟨fun i m σ H => m = xs.length - i ∧ i ≤ xs.length ∧ Pv i σ H, ⟨xs.length, by simp, Nat.zero_le _, h0⟩, ?_⟩
  rintro i m σ H ⟨rfl, hi, p⟩
  have q := hl i σ H hi p
  by_cases hlt : i < xs.length
  · refine .inr ⟨⟨xs, q, rfl, hlt⟩, Pv (i + 1), fun σ' H' p' => ⟨xs.length - (i + 1), by (first | lia | omega), rfl, hlt, p'⟩, fun x H' y => ?_⟩
    obtain ⟨e, y⟩ := y
    subst e
    exact hs i x σ _ hlt (y xs q) p
  · have e : i = xs.length := by (first | lia | omega)
    subst e
    exact .inl ⟨Nat.le_refl _, hd σ H p⟩
section
variable {X : Cx} {pins : List (Addr × Obj)} {σ : St} {H : Hp} {s : Shared} {h' : Heap} {ch : List Addr}
theorem fp_step (hf : ∀ b ∈ ch, FpOk X pins H b) : ∀ b ∈ ch, (b ∈ X.ex ∨ X.s₀.heap.objs.size ≤ b) ∧ b ≠ X.env.locals ∧ (∀ x c, X.env.cells.lookup x = some c → c ≠ b) ∧ ∀ p ∈ X.pn ++ pins, p.1 ≠ b := fun b hb =>
  let ⟨_, f1, _, f3, f4, f5⟩ := hf b hb
  ⟨f3, f1, f4, f5⟩
theorem inv_turnN {t' : Nat} (I : Inv X pins σ H s) (hf : ∀ b ∈ ch, FpOk X pins H b) (kk : ∀ b o, b ∉ ch → s.heap.get? b = some o → h'.get? b = some o) : Inv X pins σ H { s with heap := h', toks := t' } := by
  have nit : ∀ b u, H b = some u → b ∉ ch := fun b u e hb => by rw [(hf b hb).1] at e; cases e
  refine I.step (g' := s.gens) (d' := s.drawn) (ch := ch) (fp_step hf) (fun b o _ _ hc e _ => kk b o hc e) (fun b o _ _ hc e _ => ⟨o.slots, kk b o hc e⟩) (fun _ _ _ _ n => n)
    (fun b o hc e => ⟨o, kk b o hc e⟩) (fun _ _ e => e) (fun _ _ _ e => e) (fun b ps e => ⟨#[], by rw [e]; simp⟩) (fun m hm => ?_) (fun b ob e => ?_) I.bare
  · obtain ⟨o, es, ep, ho, r⟩ := hm
    exact ⟨o, es, ep, kk _ o (fun hb => (hf _ hb).2.1 rfl) ho, r⟩
  · refine (I.hok b ob e).stay (fun c v hc q => kk c v ?_ q) (fun _ q => q) fun _ _ q => q
    rcases hc with rfl | hc
    · exact nit _ _ e
    · exact nit _ _ hc
theorem inv_turnLaid {t' : Nat} {T : Addr} {o : HO} (I : Inv X pins σ H s) (hf : ∀ b ∈ ch, FpOk X pins H b) (kk : ∀ b o, b ∉ ch → s.heap.get? b = some o → h'.get? b = some o) (hT : s.heap.objs.size ≤ T)
    (new : ObjOk X.prog X.w (upd H T o) h' T o) : Inv X pins σ (upd H T o) { s with heap := h', toks := t' } := by
  have nit : ∀ b u, H b = some u → b ∉ ch := fun b u e hb => by rw [(hf b hb).1] at e; cases e
  have hn : H T = none := I.hok.fresh hT
  have lt : ∀ {b u}, s.heap.get? b = some u → b ≠ T := fun e => Nat.ne_of_lt (Nat.lt_of_lt_of_le (Heap.lt_size e) hT)
  refine I.step (g' := s.gens) (d' := s.drawn) (ch := ch) (fp_step hf) (fun b o _ _ hc e _ => kk b o hc e) (fun b o _ _ hc e _ => ⟨o.slots, kk b o hc e⟩) (fun b o _ e n => by rw [upd_ne (lt e)]; exact n)
    (fun b o hc e => ⟨o, kk b o hc e⟩) (fun b zs e => by rw [upd_ne (ne_of_none e hn)]; exact e) (fun b ob zs e => by rw [upd_ne (ne_of_none e hn)]; exact e) (fun b ps e => ⟨#[], by rw [upd_ne (ne_of_none e hn), e]; simp⟩) (fun m hm => ?_) (fun b ob e => ?_) I.bare
  · obtain ⟨o, es, ep, ho, r⟩ := hm
    exact ⟨o, es, ep, kk _ o (fun hb => (hf _ hb).2.1 rfl) ho, r⟩
  · by_cases hb : b = T
    · subst hb
      rw [upd_same] at e; cases e
      exact new
    · rw [upd_ne hb] at e
      refine (I.hok b ob e).stay (fun c v hc q => kk c v ?_ q) (fun c q => by rw [upd_ne (ne_of_none q hn)]; exact q) fun c zs q => by rw [upd_ne (ne_of_none q hn)]; exact q
      rcases hc with rfl | hc
      · exact nit _ _ e
      · exact nit _ _ hc
end
def Itz (K : PySem.W.Frag) (a b : Addr) (n : Nat) : It :=
  ⟨fun i H => ∃ xs ys, SqL K H a xs ∧ SqL K H b ys ∧ min xs.length ys.length = n ∧ i < n,
   fun i H x H' => ∃ p u v, x = .ref p ∧ H p = none ∧ H' = upd H p (.tup [u, v]) ∧ (∀ xs, SqL K H a xs → xs[i]? = some u) ∧ ∀ ys, SqL K H b ys → ys[i]? = some v,
   fun i H => n ≤ i ∧ ∃ xs ys, SqL K H a xs ∧ SqL K H b ys ∧ min xs.length ys.length = n⟩
def zSt (z TI TO i1 i2 l1 l2 : Addr) (n : Nat) (i : Nat) (h : Heap) : Prop :=
  i ≤ n ∧ IsZip h z TI TO .none ∧ IsPair h TI (.ref i1) (.ref i2) ∧ (∃ a b, IsPair h TO a b) ∧ h.IsListIter i1 l1 i ∧ h.IsListIter i2 l2 i
theorem turn_zip {P : Program} {w : World} {K : PySem.W.Frag} {es : List Expr} {kt : Nat} {pt : Pos} {z TI TO i1 i2 l1 l2 : Addr} (n : Nat) (D : ZipApart z TI TO i1 i2 l1 l2) :
    Turn P w K (.Tuple es kt pt) (Itz K l1 l2 n) [z, TI, TO, i1, i2] z (zSt z TI TO i1 i2 l1 l2 n) where
  mem := by simp
  obj := fun i h st b hb => by
    obtain ⟨_, hz, hTI, ⟨a, c, hTO⟩, h1, h2⟩ := st
    simp only [List.mem_cons, List.not_mem_nil, or_false] at hb
    have nf : ∀ {vs : Array Value} {v : Option Value}, Data.fields vs ≠ Data.cell v := fun q => nomatch q
    have ns : ∀ {vs : Array Value} {k : Nat} {v : Option Value}, Data.seq vs k ≠ Data.cell v := fun q => nomatch q
    rcases hb with rfl | rfl | rfl | rfl | rfl
    · exact ⟨_, hz, fun v => nf⟩
    · exact ⟨_, hTI, fun v => ns⟩
    · exact ⟨_, hTO, fun v => ns⟩
    · obtain ⟨o, e, _, d⟩ := h1
      exact ⟨o, e, fun v => by rw [d]; exact nf⟩
    · obtain ⟨o, e, _, d⟩ := h2
      exact ⟨o, e, fun v => by rw [d]; exact nf⟩
  keep := fun i h h' st k => by
    obtain ⟨hn, hz, hTI, ⟨a, c, hTO⟩, h1, h2⟩ := st
    exact ⟨hn, k z (by simp) _ hz, k TI (by simp) _ hTI, ⟨a, c, k TO (by simp) _ hTO⟩, h1.at fun o e => k i1 (by simp) o e, h2.at fun o e => k i2 (by simp) o e⟩
  item := by
    intro X hP hw hK hc i pins s σ H E I hf st hg
    subst hP hw hK
    obtain ⟨xs, ys, hx, hy, hl, hi⟩ := hg
    obtain ⟨ix, rx, px, _⟩ := I.list hx
    obtain ⟨iy, ry, py, _⟩ := I.list hy
    have gx : xs[i]? = some (xs[i]'(by (first | lia | omega))) := List.getElem?_eq_getElem _
    have gy : ys[i]? = some (ys[i]'(by (first | lia | omega))) := List.getElem?_eq_getElem _
    generalize xs[i]'(by (first | lia | omega)) = xi at gx
    generalize ys[i]'(by (first | lia | omega)) = yi at gy
    obtain ⟨u, hu, ru⟩ := rx.get gx
    obtain ⟨v, hv, rv⟩ := ry.get gy
    obtain ⟨_, hz, hTI, ⟨a, c, hTO⟩, h1, h2⟩ := st
    have hf' : ∀ b ∈ [z, TO, i1, i2], FpOk X pins H b := fun b hb => hf b (by
      simp only [List.mem_cons, List.not_mem_nil, or_false] at hb ⊢
      rcases hb with q | q | q | q
      · exact .inl q
      · exact .inr (.inr (.inl q))
      · exact .inr (.inr (.inr (.inl q)))
      · exact .inr (.inr (.inr (.inr q))))
    refine wpAny_pyNext_zip_item D hz hTI hTO h1 h2 px.isList py.isList (by simpa using hu) (by simpa using hv) fun h' a1 a2 a3 a4 a5 a6 hk => ?_
    refine ⟨_, rfl, wpAny_letOwnedTupleGo_zip a1 fun h'' b1 sb => ?_⟩
    have lt : ∀ {c o}, s.heap.get? c = some o → c ≠ s.heap.objs.size := fun e => Nat.ne_of_lt (Heap.lt_size e)
    have hTn : s.heap.objs.size ≠ z := Ne.symm (lt hz)
    have kk : ∀ b o, b ∉ [z, TO, i1, i2] → s.heap.get? b = some o → h''.get? b = some o := fun b o hb e => by
      simp only [List.mem_cons, List.not_mem_nil, or_false, not_or] at hb
      exact (sb.2 b hb.1).trans (hk b o hb.1 hb.2.1 hb.2.2.1 hb.2.2.2 e)
    have hTup : h''.get? s.heap.objs.size = some { cls := .type "tuple", data := .seq #[u, v] } := (sb.2 _ hTn).trans a5
    have hnew : H s.heap.objs.size = none := I.hok.fresh (Nat.le_refl _)
    have I2 : Inv X pins σ (upd H s.heap.objs.size (.tup [xi, yi])) { s with heap := h'' } :=
      inv_turnLaid (t' := s.toks) I hf' kk (Nat.le_refl _) ⟨by show 2 ≤ sizeLine; decide, [u, v], .cons ru (.cons rv .nil), ⟨_, hTup, rfl, _, rfl⟩⟩
    refine ⟨.ref _, _, I2, rfl, ⟨_, xi, yi, rfl, hnew, rfl, fun xs' h' => by rw [I.list_inj h' hx]; exact gx, fun ys' h' => by rw [I.list_inj h' hy]; exact gy⟩,
      ⟨by (first | lia | omega), b1, (sb.2 _ D.TIz).trans (hk _ _ D.TIz D.TITO D.TIi1 D.TIi2 hTI), ⟨_, _, (sb.2 _ D.TOz).trans a2⟩, a3.at fun o e => (sb.2 _ D.i1z).trans e, a4.at fun o e => (sb.2 _ D.i2z).trans e⟩, fun b hb => ?_⟩
    have hbn : b ≠ s.heap.objs.size := by
      simp only [List.mem_cons, List.not_mem_nil, or_false] at hb
      rcases hb with rfl | rfl | rfl | rfl | rfl
      · exact lt hz
      · exact lt hTI
      · exact lt hTO
      · obtain ⟨o, e, _⟩ := h1; exact lt e
      · obtain ⟨o, e, _⟩ := h2; exact lt e
    rw [upd_ne hbn]
    exact (hf b hb).1
  done := by
    intro X hP hw hK hc i pins s σ H E I hf st hg
    subst hP hw hK
    obtain ⟨hni, xs, ys, hx, hy, hl⟩ := hg
    obtain ⟨ix, rx, px, _⟩ := I.list hx
    obtain ⟨iy, ry, py, _⟩ := I.list hy
    have hlx := rx.length
    have hly := ry.length
    obtain ⟨_, hz, hTI, ⟨a, c, hTO⟩, h1, h2⟩ := st
    have hf' : ∀ b ∈ [z, TO, i1, i2], FpOk X pins H b := fun b hb => hf b (by
      simp only [List.mem_cons, List.not_mem_nil, or_false] at hb ⊢
      rcases hb with q | q | q | q
      · exact .inl q
      · exact .inr (.inr (.inl q))
      · exact .inr (.inr (.inr (.inl q)))
      · exact .inr (.inr (.inr (.inr q))))
    refine wpAny_pyNext_zip_end (I.ok.hd hc) D hz hTI hTO h1 h2 px.isList py.isList ?_ fun h' hk => ⟨rfl, inv_turnN (t' := s.toks) I hf' fun b o hb e => ?_⟩
    · by_cases hm : xs.length ≤ i
      · left; simp; (first | lia | omega)
      · right; simp; (first | lia | omega)
    · simp only [List.mem_cons, List.not_mem_nil, or_false, not_or] at hb
      exact hk b o hb.1 hb.2.1 hb.2.2.1 hb.2.2.2 e
  self := fun _ _ _ _ _ st h => wpAny_pyIter_zip st.2.1 h
section
variable {X : Cx} {es : List Expr} {kt : Nat} {pt : Pos}
def iZip (K : PySem.W.Frag) (ta : TA) : TI := fun σ H R => ta σ H fun vs H1 => ∃ a b xs ys, vs = [.ref a, .ref b] ∧ SqL K H1 a xs ∧ SqL K H1 b ys ∧ R (Itz K a b (min xs.length ys.length)) H1
theorem pi_zip {a b : Expr} {ta : TA} {p pos : Pos} (hg : Gl X "zip") (hm : X.mg "zip" = none) (ha : PA X [a, b] ta) (hs : starEach [a, b] X.env = [(false, eval a X.env), (false, eval b X.env)] := by rfl) (hs2 : starEach [b] X.env = [(false, eval b X.env)] := by rfl) :
    PI X (.Tuple es kt pt) (.Call (.Name "zip" p) [a, b] [] pos) (iZip X.K ta) := by
  intro pins s σ H R I h
  refine Call_ (ld_blt I hg hm boot_zip (PyProof.Rows.callWith_type1 (thn (ha pos pins s σ H _ I h) fun us s1 ⟨vs, H1, I1, r1, q1⟩ => ?_) (by rw [hs, hs2]) (by rw [hs2]; rfl)))
  obtain ⟨l1, l2, xs, ys, rfl, hx, hy, q⟩ := q1
  obtain ⟨u, v, rfl, ru, rv⟩ := vals2 r1
  cases ru; cases rv
  obtain ⟨ix, rx, px, _⟩ := I1.list hx
  obtain ⟨iy, ry, py, _⟩ := I1.list hy
  refine call_zip_2 px.isList py.isList fun h' hz hTI hTO h1 h2 hsz hk => ?_
  have I2 : Inv X pins σ H1 { s1 with heap := h' } := I1.kept (t' := s1.toks) fun b o e => hk b o e
  refine wpAny_pyIter_zip hz ?_
  have L1 : l1 < s1.heap.objs.size := by obtain ⟨o, _, e, _⟩ := px; exact Heap.lt_size e
  have L2 : l2 < s1.heap.objs.size := by obtain ⟨o, _, e, _⟩ := py; exact Heap.lt_size e
  have AP : ZipApart (s1.heap.objs.size + 4) (s1.heap.objs.size + 2) (s1.heap.objs.size + 3) s1.heap.objs.size (s1.heap.objs.size + 1) l1 l2 := zipApart_new L1 L2
  refine ⟨_, [s1.heap.objs.size + 4, s1.heap.objs.size + 2, s1.heap.objs.size + 3, s1.heap.objs.size, s1.heap.objs.size + 1], _, _, H1, rfl, I2, turn_zip (min xs.length ys.length) AP, ⟨Nat.zero_le _, hz, hTI, ⟨_, _, hTO⟩, h1, h2⟩, fun b hb => ?_, q⟩
  have hb' : s1.heap.objs.size ≤ b := by
    simp only [List.mem_cons, List.not_mem_nil, or_false] at hb
    rcases hb with rfl | rfl | rfl | rfl | rfl <;> (first | lia | omega)
  exact I1.fpOk hb' (I1.hok.fresh hb')
end
theorem for_zip {K : PySem.W.Frag} {a b : Addr} {xs ys : List V} {g : TG} {tb : TS} {D : Ends} {σ : St} {H : Hp} (Pv : Nat → St → Hp → Prop) (h0 : Pv 0 σ H) (hl : ∀ i σ H, i ≤ min xs.length ys.length → Pv i σ H → SqL K H a xs ∧ SqL K H b ys)
    (hs : ∀ i x y p σ H, xs[i]? = some x → ys[i]? = some y → H p = none → Pv i σ H → g (.ref p) σ (upd H p (.tup [x, y])) fun σ2 H2 => tb { D with nx := Pv (i + 1), ct := Pv (i + 1), bk := D.nx } σ2 H2) (hd : ∀ σ H, Pv (min xs.length ys.length) σ H → D.nx σ H) :
    ∃ W : Nat → Nat → St → Hp → Prop, (∃ m, W 0 m σ H) ∧ ∀ i m σ H, W i m σ H →
      ((Itz K a b (min xs.length ys.length)).stop i H ∧ D.nx σ H) ∨ ((Itz K a b (min xs.length ys.length)).go i H ∧ ∃ N : St → Hp → Prop, (∀ σ' H', N σ' H' → ∃ m', m' < m ∧ W (i + 1) m' σ' H') ∧
        ∀ x H', (Itz K a b (min xs.length ys.length)).yld i H x H' → g x σ H' fun σ2 H2 => tb { D with nx := N, ct := N, bk := D.nx } σ2 H2) := by
  refine ⟨fun i m σ H => m = min xs.length ys.length - i ∧ i ≤ min xs.length ys.length ∧ Pv i σ H, ⟨_, rfl, Nat.zero_le _, h0⟩, ?_⟩
  rintro i m σ H ⟨rfl, hi, p⟩
  have q := hl i σ H hi p
  by_cases hlt : i < min xs.length ys.length
  · refine .inr ⟨⟨xs, ys, q.1, q.2, rfl, hlt⟩, Pv (i + 1), fun σ' H' p' => ⟨min xs.length ys.length - (i + 1), by (first | lia | omega), rfl, hlt, p'⟩, fun x H' y => ?_⟩
    obtain ⟨t, u, v, rfl, hn, rfl, gu, gv⟩ := y
    exact hs i u v t σ H (gu xs q.1) (gv ys q.2) hn p
  · have e : i = min xs.length ys.length := by (first | lia | omega)
    subst e
    exact .inl ⟨⟨Nat.le_refl _, xs, ys, q.1, q.2, rfl⟩, hd σ H p⟩
end L3
namespace L3
open PySem PySem.Spec L2
open PyProof.Rows hiding St
mutual
inductive Dp (K : PySem.W.Frag) (H : Hp) : V → PyData → Prop
  | non : Dp K H .non .none
  | bl (b : Bool) : Dp K H (.bl b) (.bool b)
  | int (i : Int) : Dp K H (.int i) (.int i)
  | lst {a : Addr} {xs : List V} {ds : List PyData} : SqL K H a xs → DpAll K H xs ds → Dp K H (.ref a) (.list ds)
inductive DpAll (K : PySem.W.Frag) (H : Hp) : List V → List PyData → Prop
  | nil : DpAll K H [] []
  | cons {v : V} {vs : List V} {d : PyData} {ds : List PyData} : Dp K H v d → DpAll K H vs ds → DpAll K H (v :: vs) (d :: ds)
end
section
variable {X : Cx} {pins : List (Addr × Obj)} {σ : St} {H : Hp} {s : Shared}
mutual
theorem Dp.reads (I : Inv X pins σ H s) : ∀ {v : V} {d : PyData} {u : Value}, Dp X.K H v d → RelV v u → ∃ as, Reads s.heap u d as
  | _, _, _, .non, r => by cases r; exact ⟨_, .none⟩
  | _, _, _, .bl b, r => by cases r; exact ⟨_, .bool b⟩
  | _, _, _, .int i, r => by obtain ⟨t, rfl⟩ := r; exact ⟨_, .int i t⟩
  | _, _, _, .lst h hs, r => by
    cases r
    obtain ⟨its, rv, ⟨o, n, e, c, d, hd⟩, _⟩ := I.list h
    obtain ⟨as, q⟩ := DpAll.reads I hs rv
    exact ⟨_, .list e c hd (by simpa using q)⟩
theorem DpAll.reads (I : Inv X pins σ H s) : ∀ {vs : List V} {ds : List PyData} {us : List Value}, DpAll X.K H vs ds → Vals vs us → ∃ as, ReadsAll s.heap us ds as
  | _, _, _, .nil, r => by cases r; exact ⟨_, .nil⟩
  | _, _, _, .cons h hs, r => by
    cases r with
    | cons a b =>
      obtain ⟨as, q⟩ := Dp.reads I h a
      obtain ⟨bs, q'⟩ := DpAll.reads I hs b
      exact ⟨_, .cons q q'⟩
end
end
def rEqD (K : PySem.W.Frag) : R2 := fun x y H Q => ∃ d e, Dp K H x d ∧ Dp K H y e ∧ SeqAt.shaped d = true ∧ SeqAt.shaped e = true ∧ Q (.bl (PyData.eqv d e)) H
section
variable {X : Cx}
theorem op_eqD (hu : X.A.units + 64 < cLine) : OpR X (compareOp .Eq) (rEqD X.K) := by
  intro pins s σ H x y v u Q I rx ry h
  obtain ⟨d, e, h1, h2, s1, s2, q⟩ := h
  obtain ⟨as, r1⟩ := h1.reads I rx
  obtain ⟨bs, r2⟩ := h2.reads I ry
  exact eq_dataH r1 r2 s1 s2 hu ⟨.bl _, H, I, rfl, q⟩
end
end L3
namespace L3
open PySem PySem.Spec L2
open PyProof.Rows hiding St
def Every {α : Type} (P : α → Prop) : List α → Prop
  | [] => True
  | a :: l => P a ∧ Every P l
theorem Every.mem {α : Type} {P : α → Prop} : ∀ {l : List α}, Every P l → ∀ a ∈ l, P a
  | b :: l, h, a, ha => by
    rcases List.mem_cons.mp ha with e | ha
    · rw [e]; exact h.1
    · exact h.2.mem a ha
/-- what is known of the slots stays known -/
def Ext : St → St → Prop
  | [], [] => True
  | none :: l, _ :: r => Ext l r
  | some v :: l, o :: r => o = some v ∧ Ext l r
  | [], _ :: _ => False
  | _ :: _, [] => False
theorem Ext.len : ∀ {a b : St}, Ext a b → b.length = a.length
  | [], [], _ => rfl
  | none :: l, _ :: r, h => congrArg (· + 1) (Ext.len (a := l) (b := r) h)
  | some _ :: l, _ :: r, h => congrArg (· + 1) (Ext.len (a := l) (b := r) h.2)
  | [], _ :: _, h => h.elim
  | none :: _, [], h => h.elim
  | some _ :: _, [], h => h.elim
theorem Ext.get : ∀ {a b : St} (i : Nat) (v : V), Ext a b → a[i]? = some (some v) → b[i]? = some (some v)
  | [], [], _, _, _, e => e
  | none :: l, _ :: r, 0, v, _, e => by simp at e
  | none :: l, _ :: r, i + 1, v, h, e => by
    have := Ext.get (a := l) (b := r) i v h (by simpa using e)
    simpa using this
  | some u :: l, o :: r, 0, v, h, e => by
    have e' : u = v := by simpa using e
    rw [h.1, e']; rfl
  | some u :: l, o :: r, i + 1, v, h, e => by
    have := Ext.get (a := l) (b := r) i v h.2 (by simpa using e)
    simpa using this
  | [], _ :: _, _, _, h, _ => h.elim
  | none :: _, [], _, _, h, _ => h.elim
  | some _ :: _, [], _, _, h, _ => h.elim
/-- the block's names: its own stand empty, the free ones as in the def's slots -/
def slots (ix : List (Option Nat)) (σ : St) : St := ix.map fun o => match o with
  | none => none
  | some k => (σ[k]?).getD none
def FrOk (X : Cx) (scope : Scope) : List Str → List (Option Nat) → Prop
  | [], [] => True
  | _ :: N, none :: ix => FrOk X scope N ix
  | x :: N, some k :: ix => (X.N[k]? = some x ∧ X.env.kindOf x = some .cell ∧ scope.names.lookup x = some .free) ∧ FrOk X scope N ix
  | [], _ :: _ => False
  | _ :: _, [] => False
theorem FrOk.get {X : Cx} {scope : Scope} : ∀ {N : List Str} {ix : List (Option Nat)} (i k : Nat) (x : Str), FrOk X scope N ix → N[i]? = some x → ix[i]? = some (some k) → X.N[k]? = some x ∧ X.env.kindOf x = some .cell ∧ scope.names.lookup x = some .free
  | [], [], _, _, _, _, h, _ => by simp at h
  | _ :: N, none :: ix, 0, _, _, _, _, e => by simp at e
  | _ :: N, none :: ix, i + 1, k, x, h, h1, h2 => FrOk.get (N := N) (ix := ix) i k x h (by simpa using h1) (by simpa using h2)
  | y :: N, some m :: ix, 0, k, x, h, h1, h2 => by
    have e1 : y = x := by simpa using h1
    have e2 : m = k := by simpa using h2
    rw [← e1, ← e2]; exact h.1
  | _ :: N, some _ :: ix, i + 1, k, x, h, h1, h2 => FrOk.get (N := N) (ix := ix) i k x h.2 (by simpa using h1) (by simpa using h2)
  | [], _ :: _, _, _, _, h, _, _ => h.elim
  | _ :: _, [], _, _, _, h, _, _ => h.elim
theorem FrOk.len {X : Cx} {scope : Scope} : ∀ {N : List Str} {ix : List (Option Nat)}, FrOk X scope N ix → ix.length = N.length
  | [], [], _ => rfl
  | _ :: N, none :: ix, h => congrArg (· + 1) (FrOk.len (N := N) (ix := ix) h)
  | _ :: N, some _ :: ix, h => congrArg (· + 1) (FrOk.len (N := N) (ix := ix) h.2)
  | [], _ :: _, h => h.elim
  | _ :: _, [], h => h.elim
def HasOk (cl : List (Str × Addr)) : List (Str × NameKind) → Prop
  | [] => True
  | (x, .free) :: l => (∃ c, cl.lookup x = some c) ∧ HasOk cl l
  | _ :: l => HasOk cl l
theorem HasOk.get {cl : List (Str × Addr)} : ∀ {l : List (Str × NameKind)} (x : Str), HasOk cl l → (x, NameKind.free) ∈ l → ∃ c, cl.lookup x = some c
  | (y, k) :: l, x, h, hm => by
    rcases List.mem_cons.mp hm with e | hm
    · cases e; exact h.1
    · refine HasOk.get (l := l) x ?_ hm
      cases k <;> first | exact h | exact h.2
structure CompSc (X : Cx) (N' : List Str) (ix : List (Option Nat)) (scope : Scope) (cl : List (Str × Addr)) : Prop where
  kind : scope.kind = .function
  nocell : ∀ y ∈ scope.names, y.2 ≠ .cell
  names : ∀ y ∈ scope.names, y.2 = .local → scope.names.lookup y.1 = some .local
  clos : closureFor scope X.env = pure cl
  sub : Every (fun y : Str × Addr => X.env.cells.lookup y.1 = some y.2) cl
  has : HasOk cl scope.names
  fr : FrOk X scope N' ix
theorem lookup_rel {env : Env} : ∀ (names : List (Str × NameKind)) (x : Str),
    (names.map fun (n, k) => if (k == NameKind.free && env.scope.kind == .function && env.kindOf n == some .cell) then (n, NameKind.cell) else (n, k)).lookup x
      = (names.lookup x).map fun k => if (k == NameKind.free && env.scope.kind == .function && env.kindOf x == some .cell) then NameKind.cell else k
  | [], _ => rfl
  | (n, k) :: r, x => by
    have ih := lookup_rel (env := env) r x
    rw [List.map_cons]
    show List.lookup x ((if (k == NameKind.free && env.scope.kind == .function && env.kindOf n == some .cell) = true then (n, NameKind.cell) else (n, k)) :: _) = _
    by_cases hx : x = n
    · subst hx
      by_cases hc : (k == NameKind.free && env.scope.kind == .function && env.kindOf x == some .cell) = true
      · rw [if_pos hc, List.lookup_cons, List.lookup_cons, beq_self_eq_true]
        show some NameKind.cell = some (if (k == NameKind.free && env.scope.kind == .function && env.kindOf x == some .cell) = true then NameKind.cell else k)
        rw [if_pos hc]
      · rw [if_neg hc, List.lookup_cons, List.lookup_cons, beq_self_eq_true]
        show some k = some (if (k == NameKind.free && env.scope.kind == .function && env.kindOf x == some .cell) = true then NameKind.cell else k)
        rw [if_neg hc]
    · have hb : (x == n) = false := by simpa using hx
      by_cases hc : (k == NameKind.free && env.scope.kind == .function && env.kindOf n == some .cell) = true
      · rw [if_pos hc, List.lookup_cons, List.lookup_cons, hb]; exact ih
      · rw [if_neg hc, List.lookup_cons, List.lookup_cons, hb]; exact ih
section
variable {X : Cx} {N' : List Str} {ix : List (Option Nat)} {scope : Scope} {cl : List (Str × Addr)}
theorem CompSc.cells (S : CompSc X N' ix scope cl) {x : Str} {c : Addr} (h : cl.lookup x = some c) : X.env.cells.lookup x = some c := S.sub.mem (x, c) (PySem.mem_of_lookup h)
theorem CompSc.kept (S : CompSc X N' ix scope cl) (x : Str) (h : (relabel scope X.env).names.lookup x = some .cell ∨ (relabel scope X.env).names.lookup x = some .free) : ∃ c, cl.lookup x = some c := by
  have e := lookup_rel (env := X.env) scope.names x
  have e' : (relabel scope X.env).names.lookup x = _ := e
  rw [e'] at h
  cases q : scope.names.lookup x with
  | none => rw [q] at h; rcases h with h | h <;> cases h
  | some k =>
    have hm := PySem.mem_of_lookup q
    cases k with
    | free => exact S.has.get x hm
    | cell => exact absurd rfl (S.nocell _ hm)
    | _ => rw [q] at h; rcases h with h | h <;> (simp at h)
end
/-- the block's context -/
def cxComp (X : Cx) (N' : List Str) (scope : Scope) (cl : List (Str × Addr)) (C : Addr) (ex : List Addr) (pn : List (Addr × Obj)) (s : Shared) (H : Hp) : Cx where
  prog := X.prog
  w := X.w
  K := X.K
  mg := X.mg
  base := X.base
  A := X.A
  N := N'
  s₀ := s
  H₀ := H
  env := compEnvC scope cl C X.env
  outer := X.stack
  stack := X.stack
  ex := ex
  fn := fun _ => false
  calm := X.calm
  pn := pn
  xe := fun _ _ => False
def emptyL : Obj := { cls := .type "list", dict := none, data := .seq ([] : List Value).toArray }
section
variable {X : Cx} {N' : List Str} {ix : List (Option Nat)} {scope : Scope} {cl : List (Str × Addr)} {pins : List (Addr × Obj)} {σ : St} {H : Hp} {s : Shared} {fp : List Addr}
theorem comp_start (S : CompSc X N' ix scope cl) (I : Inv X pins σ H s) (hf : ∀ b ∈ fp, FpOk X pins H b) (hlt : ∀ b ∈ fp, b < s.heap.objs.size) {h1 : Heap} {tk : Nat} {m : Str → Option Value} (hns : h1.Ns (s.heap.push emptyL).objs.size m)
    (hk : ∀ b o, (s.heap.push emptyL).get? b = some o → h1.get? b = some o) :
    Inv (cxComp X N' scope cl (s.heap.push emptyL).objs.size (s.heap.objs.size :: fp) (X.pn ++ pins) { s with heap := s.heap.push emptyL } H) [] (slots ix σ) H { s with heap := h1, toks := tk } := by
  have hC : (s.heap.push emptyL).objs.size = s.heap.objs.size + 1 := Heap.size_push ..
  have I3 : Inv X pins σ H { s with heap := s.heap.push emptyL } := I.kept (t' := s.toks) fun b o e => Heap.get?_push_of_some _ e
  have clt : ∀ x c, X.env.cells.lookup x = some c → c < s.heap.objs.size := fun x c e => by obtain ⟨v, q⟩ := I.cell x c e; exact q.lt
  have hD : FpOk X pins H s.heap.objs.size := I.fpOk (Nat.le_refl _) (I.hok.fresh (Nat.le_refl _))
  have hall : ∀ b ∈ s.heap.objs.size :: fp, FpOk X pins H b ∧ b < (s.heap.push emptyL).objs.size := fun b hb => by
    rcases List.mem_cons.mp hb with rfl | hb
    · exact ⟨hD, by rw [hC]; exact Nat.lt_succ_self _⟩
    · exact ⟨hf b hb, by rw [hC]; exact Nat.lt_succ_of_lt (hlt b hb)⟩
  refine ⟨⟨I.mod, S.kind, I.ok.glob, I.ok.blt, Nat.le_refl _, fun x y c e1 e2 => I.ok.inj x y c (S.cells e1) (S.cells e2), fun x hx => S.kept x hx, fun x c e _ => ?_, I.ok.hd, I.ok.frames, .inl rfl, fun b hb => ⟨?_, fun x c e z => ?_⟩,
    fun b o e => ⟨(I3.bs b o e).1, (I3.bs b o e).2⟩, Nat.le_trans I.ok.bsz I3.sz, fun b o e hb => ?_, fun b hb hs => ?_, I3.stack, I3.stkFree⟩,
    rfl, I.bare, Un.kept hk, ⟨m, hns, fun i x v h1' h2' h3' => ?_⟩, fun x c e => ?_, ?_, fun x c e => I.freeC x c (S.cells e), fun p hp => ?_, I3.hok.kept hk, ?_⟩
  · exact absurd (show (false : Bool) = true from e) Bool.false_ne_true
  · exact Nat.ne_of_lt (hall b hb).2
  · exact (hall b hb).1.2.2.2.2.1 x c (S.cells e) z
  · have q := (hall b hb).1
    rcases q.2.2.2.1 with z | z
    · exact I.ok.noex b o e z
    · exact absurd (Nat.lt_of_lt_of_le (Heap.lt_size e) (Nat.le_trans I.ok.bsz z)) (Nat.lt_irrefl _)
  · have q := (hall b hb).1
    rcases List.mem_cons.mp (I.stkSub b hs) with z | z
    · exact q.2.1 z
    · exact q.2.2.1 z
  · -- a free name
    unfold slots at h2'
    rw [List.getElem?_map] at h2'
    cases q : ix[i]? with
    | none => rw [q] at h2'; cases h2'
    | some o =>
      cases o with
      | none => rw [q] at h2'; simp at h2'
      | some k =>
        rw [q] at h2'
        have h2'' : (σ[k]?).getD none = some v := by simpa using h2'
        have h2 : σ[k]? = some (some v) := by
          cases e : σ[k]? with
          | none => rw [e] at h2''; cases h2''
          | some z => rw [e] at h2''; simp at h2''; rw [h2'']
        obtain ⟨a1, a2, a3⟩ := S.fr.get i k x h1' q
        obtain ⟨m0, hn0, hl0⟩ := I.loc
        obtain ⟨u, ru, lk⟩ := hl0 k x v a1 h2 (.inr (.inl a2))
        rcases lk with ⟨z, _⟩ | ⟨_, c, hc, hcell⟩
        · rw [a2] at z; cases z
        · have hm := PySem.mem_of_lookup a3
          obtain ⟨c', hc'⟩ := S.has.get x hm
          have ec := S.cells hc'
          rw [hc] at ec
          cases ec
          refine ⟨u, ru, .inr ⟨.inl ?_, c, hc', ?_⟩⟩
          · show (relabel scope X.env).names.lookup x = some .cell
            have e := lookup_rel (env := X.env) scope.names x
            have e' : (relabel scope X.env).names.lookup x = _ := e
            rw [e', a3]
            have hk' : (X.env.scope.kind == ScopeKind.function) = true := by rw [I.ok.kind]; rfl
            simp [hk', a2]
          · obtain ⟨o, ho, hd⟩ := hcell
            exact ⟨o, hk _ _ (Heap.get?_push_of_some _ ho), hd⟩
  · obtain ⟨v, o, ho, hd⟩ := I.cell x c (S.cells e)
    exact ⟨v, o, hk _ _ (Heap.get?_push_of_some _ ho), hd⟩
  · exact I3.hok.fresh (Nat.le_refl _)
  · have hp' : p ∈ X.pn ++ pins := by
      have : p ∈ (X.pn ++ pins) ++ [] := hp
      rwa [List.append_nil] at this
    obtain ⟨e, n, ne, nf, d⟩ := I.pin p hp'
    refine ⟨hk _ _ (Heap.get?_push_of_some _ e), n, ?_, fun z => ?_, d⟩
    · show p.1 ≠ (s.heap.push emptyL).objs.size
      rw [hC]; exact Nat.ne_of_lt (Nat.lt_succ_of_lt (Heap.lt_size e))
    · rcases List.mem_cons.mp (I.stkSub p.1 z) with q | q
      · exact ne q
      · exact nf q
  · show (slots ix σ).length = N'.length
    unfold slots
    rw [List.length_map]; exact S.fr.len
/-- behind the block -/
theorem comp_end {C : Addr} {s' : Shared} {h2 : Heap} {Hz : Hp} {σ' : St} {pl : List (Addr × Obj)} {ys : List V} {its : List Value} {n : Nat} (I : Inv X pins σ H s) (hf : ∀ b ∈ fp, FpOk X pins H b) (hC : C = (s.heap.push emptyL).objs.size)
    (J : Inv (cxComp X N' scope cl C (s.heap.objs.size :: fp) (X.pn ++ pins) { s with heap := s.heap.push emptyL } H) pl σ' Hz s') (sb : Heap.SameBut C s'.heap h2)
    (hD : s'.heap.get? s.heap.objs.size = some { cls := .type "list", data := .seq its.toArray n }) (hz : Hz s.heap.objs.size = none) (rv : Vals ys its) (hl : ys.length ≤ sizeLine) :
    Inv X pins σ (upd Hz s.heap.objs.size (.lst ys)) { s' with heap := h2 } := by
  have eC : (s.heap.push emptyL).objs.size = s.heap.objs.size + 1 := Heap.size_push ..
  have I3 : Inv X pins σ H { s with heap := s.heap.push emptyL } := I.kept (t' := s.toks) fun b o e => Heap.get?_push_of_some _ e
  have hDf : FpOk X pins H s.heap.objs.size := I.fpOk (Nat.le_refl _) (I.hok.fresh (Nat.le_refl _))
  have u : Un (frs X.stack) (s.heap.objs.size :: fp) H Hz (s.heap.push emptyL) s'.heap := J.base
  have nC : ∀ {b : Addr} {o : Obj}, (s.heap.push emptyL).get? b = some o → b ≠ C := fun e => by rw [hC]; exact Nat.ne_of_lt (Heap.lt_size e)
  have fC : Hz C = none := J.free
  have hk2 : HOk X.prog X.w Hz h2 := fun b o e => by
    refine (J.hok b o e).stay (fun c v hc q => (sb.2 c ?_).trans q) (fun _ q => q) fun _ _ q => q
    rintro rfl
    rcases hc with rfl | hc
    · rw [fC] at e; cases e
    · rw [fC] at hc; cases hc
  have hDC : s.heap.objs.size ≠ C := by rw [hC, eC]; exact Nat.ne_of_lt (Nat.lt_succ_self _)
  have hk3 : HOk X.prog X.w (upd Hz s.heap.objs.size (.lst ys)) h2 := fun b o e => by
    by_cases hb : b = s.heap.objs.size
    · subst hb
      rw [upd_same] at e; cases e
      exact ⟨hl, its, n, rv, (sb.2 _ hDC).trans hD⟩
    · rw [upd_ne hb] at e
      exact (hk2 b o e).stay (fun _ _ _ q => q) (fun c q => by rw [upd_ne (ne_of_none q hz)]; exact q) fun c zs q => by rw [upd_ne (ne_of_none q hz)]; exact q
  refine I3.call' (ch := s.heap.objs.size :: fp) J.os ⟨fun b o e n' hb hx => (sb.2 b (nC e)).trans (u.keep b o e n' hb hx), fun b o e n' hb hx => ?_, fun b o e n' hx => ?_, fun b o e hx => ?_, fun b zs e => ?_, fun b o zs e => ?_, fun b ps e => ?_⟩ hk3 J.bare ?_
  · obtain ⟨sl, q⟩ := u.slot b o e n' hb hx
    exact ⟨sl, (sb.2 b (nC e)).trans q⟩
  · rw [upd_ne fun q => hx (by rw [q]; exact List.mem_cons_self ..)]
    exact u.free b o e n' hx
  · obtain ⟨o', q⟩ := u.there b o e hx
    exact ⟨o', (sb.2 b (nC e)).trans q⟩
  · have q := u.tups b zs e
    rw [upd_ne (ne_of_none q hz)]; exact q
  · have q := u.frzs b o zs e
    rw [upd_ne (ne_of_none q hz)]; exact q
  · obtain ⟨more, q⟩ := u.tbls b ps e
    exact ⟨more, by rw [upd_ne (ne_of_none q hz)]; exact q⟩
  · refine fp_step (X := X) (H := H) fun b hb => ?_
    rcases List.mem_cons.mp hb with rfl | hb
    · exact hDf
    · exact hf b hb
end
def PIf (X : Cx) (ifs : List Expr) (tt : TT) : Prop :=
  ∀ (pins : List (Addr × Obj)) (s : Shared) (σ : St) (H : Hp) (Q : Bool → Hp → Prop), Inv X pins σ H s → tt σ H Q →
    wpAny (model X.prog X.w) X.A (forIn ifs true fun c r => if r = true then do let ok ← isTrue c X.env (eval c X.env); pure (ForInStep.yield ok) else pure (ForInStep.yield r)) (TP X pins σ Q) X.xe s
def ttNil : TT := fun _ H Q => Q true H
theorem pif_nil {X : Cx} : PIf X [] ttNil := fun _ _ _ H _ I h => wpAny_tests_nil ⟨H, I, h⟩
theorem pif_one {X : Cx} {c : Expr} {t : TT} (h : PT X c t) : PIf X [c] t := fun pins s σ H Q I q => wpAny_tests_one (h pins s σ H Q I q)
section
variable {prog : Program} {w : World} {A : Around} {R : Result → Shared → Prop} {s : Shared}
/-- the block's loop, whatever its target -/
theorem comp_loop {elt tg iter : Expr} {ifs : List Expr} {scope : Scope} {pos : Pos} {it acc : Value} {env : Env} (W : Nat → Shared → Prop) {EE : Value → Shared → Prop}
    (hE : ∀ e s', EE e s' → notedBy (model prog w) A env (fun e s' => R (.error e) s') e s')
    (turn : ∀ n s, W n s → wpAny (model prog w) A (pyNext it) (fun r s₁ => (r = none ∧ R (.ok .next) s₁) ∨ ∃ v, r = some v ∧
      wpAny (model prog w) A (letOwnedTupleGo tg it v) (fun _ s₂ => wpAny (model prog w) A (assign tg env v) (fun _ s₃ =>
        wpAny (model prog w) A (forIn ifs true fun c r => if r = true then do let ok ← isTrue c env (eval c env); pure (ForInStep.yield ok) else pure (ForInStep.yield r)) (fun ok s₄ =>
          (ok = true ∧ wpAny (model prog w) A (eval elt env) (fun x s₅ => wpAny (model prog w) A (call (.builtin "list.append") [acc, x]) (fun _ s₆ => ∃ m, m < n ∧ W m s₆) EE s₅) EE s₄) ∨
          (ok = false ∧ ∃ m, m < n ∧ W m s₄)) EE s₃) EE s₂) EE s₁) EE s)
    (n : Nat) (h : W n s) : codeAny (model prog w) A (.compLoop (.ListComp elt [⟨tg, iter, ifs, 0⟩] scope pos) 0 it acc env) R s := by
  refine codeAny_loop rfl W (fun n s hW => ?_) n h
  show wpAny _ A (Sem.onRaise (compTurn (.ListComp elt [⟨tg, iter, ifs, 0⟩] scope pos) 0 it acc env) (fun x => do noteFrame x env; theTreesLotGoes x)) _ _ s
  refine wpAny_noted ?_
  rw [compTurn_list]
  refine wpAny_bind (wpAny_standAt (wpAny_bind (wpAny_mono (turn n s hW) (fun r s₁ q => ?_) fun e s' q => hE e s' q)))
  rcases q with ⟨rfl, q⟩ | ⟨v, rfl, q⟩
  · exact wpAny_pure q
  refine wpAny_bind (wpAny_mono q (fun _ s₂ q => wpAny_bind (wpAny_mono q (fun _ s₃ q => wpAny_bind (wpAny_mono q (fun ok s₄ q => ?_) fun e s' q => hE e s' q)) fun e s' q => hE e s' q)) fun e s' q => hE e s' q)
  rcases q with ⟨rfl, q⟩ | ⟨rfl, q⟩
  · exact wpAny_bind (wpAny_bind (wpAny_mono q (fun x s₅ q => wpAny_bind (wpAny_mono q (fun _ s₆ q => wpAny_pure (wpAny_pure ⟨rfl, q⟩)) fun e s' q => hE e s' q)) fun e s' q => hE e s' q))
  · exact wpAny_pure ⟨rfl, q⟩
end
def CompAt (J : It) (ix : List (Option Nat)) (g : TG) (tt : TT) (te : TE) (σ : St) (Q : VK) (H1 : Hp) : Prop := ∃ W : Nat → Nat → List V → Hp → Prop, (∃ m, W 0 m [] H1) ∧ ∀ i m ys H, W i m ys H →
  (J.stop i H ∧ ys.length ≤ sizeLine ∧ ∀ p, H p = none → Q (.ref p) (upd H p (.lst ys))) ∨
  (J.go i H ∧ ys.length ≤ sizeLine ∧ ∃ N : List V → Hp → Prop, (∀ zs H', N zs H' → ∃ m', m' < m ∧ W (i + 1) m' zs H') ∧
    ∀ x H', J.yld i H x H' → g x (slots ix σ) H' fun σ2 H2 => Ext (slots ix σ) σ2 ∧ tt σ2 H2 fun ok H3 => if ok = true then te σ2 H3 fun y H4 => N (ys ++ [y]) H4 else N ys H3)
def tComp (wi : TI) (ix : List (Option Nat)) (g : TG) (tt : TT) (te : TE) : TE := fun σ H Q => wi σ H fun J H1 => CompAt J ix g tt te σ Q H1
abbrev blk (X : Cx) (N' : List Str) (scope : Scope) (cl : List (Str × Addr)) (pins : List (Addr × Obj)) (fp : List Addr) (s : Shared) (H : Hp) : Cx :=
  cxComp X N' scope cl (s.heap.push emptyL).objs.size (s.heap.objs.size :: fp) (X.pn ++ pins) { s with heap := s.heap.push emptyL } H
section
variable {X : Cx} {N' : List Str} {ix : List (Option Nat)} {scope : Scope} {cl : List (Str × Addr)} {pins : List (Addr × Obj)} {σ : St} {H : Hp} {s : Shared} {fp : List Addr}
theorem blk_fp (S : CompSc X N' ix scope cl) (I : Inv X pins σ H s) (hf : ∀ b ∈ fp, FpOk X pins H b) (hlt : ∀ b ∈ fp, b < s.heap.objs.size) {o : Obj} {Hz : Hp} (hz : ∀ b ∈ fp, Hz b = none) :
    ∀ b ∈ fp, FpOk (blk X N' scope cl pins fp s H) [(s.heap.objs.size, o)] Hz b := fun b hb => by
  have eC : (s.heap.push emptyL).objs.size = s.heap.objs.size + 1 := Heap.size_push ..
  obtain ⟨_, f1, f2, f3, f4, f5⟩ := hf b hb
  have l := hlt b hb
  refine ⟨hz b hb, ?_, fun hs => ?_, .inl (List.mem_cons_of_mem _ hb), fun x c e => f4 x c (S.cells e), fun p hp => ?_⟩
  · show b ≠ (s.heap.push emptyL).objs.size
    rw [eC]; exact Nat.ne_of_lt (Nat.lt_succ_of_lt l)
  · rcases List.mem_cons.mp (I.stkSub b hs) with q | q
    · exact f1 q
    · exact f2 q
  · rcases List.mem_append.mp hp with q | q
    · exact f5 p q
    · have e : p = (s.heap.objs.size, o) := by simpa using q
      rw [e]; show s.heap.objs.size ≠ b
      exact Nat.ne_of_gt l
theorem blk_own (S : CompSc X N' ix scope cl) (I : Inv X pins σ H s) {Hz : Hp} (hz : Hz s.heap.objs.size = none) : FpOk (blk X N' scope cl pins fp s H) [] Hz s.heap.objs.size := by
  have eC : (s.heap.push emptyL).objs.size = s.heap.objs.size + 1 := Heap.size_push ..
  obtain ⟨_, f1, f2, f3, f4, f5⟩ := I.fpOk (H' := H) (Nat.le_refl s.heap.objs.size) (I.hok.fresh (Nat.le_refl _))
  refine ⟨hz, ?_, fun hs => ?_, .inl (List.mem_cons_self ..), fun x c e => f4 x c (S.cells e), fun p hp => ?_⟩
  · show s.heap.objs.size ≠ (s.heap.push emptyL).objs.size
    rw [eC]; exact Nat.ne_of_lt (Nat.lt_succ_self _)
  · rcases List.mem_cons.mp (I.stkSub _ hs) with q | q
    · exact f1 q
    · exact f2 q
  · refine f5 p ?_
    have : p ∈ (X.pn ++ pins) ++ [] := hp
    rwa [List.append_nil] at this
theorem comp_run {elt tg iter : Expr} {ifs : List Expr} {pos : Pos} {g : TG} {tt : TT} {te : TE} {J : It} {it : Addr} {tn : Nat → Heap → Prop} {s4 : Shared} {Q : VK} {R : Result → Shared → Prop}
    (hc : X.calm = true) (S : CompSc X N' ix scope cl) (I : Inv X pins σ H s) (T : Turn X.prog X.w X.K tg J fp it tn) (hf : ∀ b ∈ fp, FpOk X pins H b) (hlt : ∀ b ∈ fp, b < s.heap.objs.size)
    (hg : PG (blk X N' scope cl pins fp s H) tg g) (hif : PIf (blk X N' scope cl pins fp s H) ifs tt) (he : PE (blk X N' scope cl pins fp s H) elt te)
    (J0 : Inv (blk X N' scope cl pins fp s H) [] (slots ix σ) H s4) (st0 : tn 0 s4.heap) (hD0 : s4.heap.get? s.heap.objs.size = some { cls := .type "list", data := .seq ([] : List Value).toArray 0 })
    (W : Nat → Nat → List V → Hp → Prop) (m0 : Nat) (w0 : W 0 m0 [] H)
    (turn : ∀ i m ys H, W i m ys H → (J.stop i H ∧ ys.length ≤ sizeLine ∧ ∀ p, H p = none → Q (.ref p) (upd H p (.lst ys))) ∨
      (J.go i H ∧ ys.length ≤ sizeLine ∧ ∃ N : List V → Hp → Prop, (∀ zs H', N zs H' → ∃ m', m' < m ∧ W (i + 1) m' zs H') ∧
        ∀ x H', J.yld i H x H' → g x (slots ix σ) H' fun σ2 H2 => Ext (slots ix σ) σ2 ∧ tt σ2 H2 fun ok H3 => if ok = true then te σ2 H3 fun y H4 => N (ys ++ [y]) H4 else N ys H3))
    (fin : ∀ (ys : List V) (Hz : Hp) (its : List Value) (k : Nat) (pl : List (Addr × Obj)) (s2 : Shared), Inv (blk X N' scope cl pins fp s H) pl (slots ix σ) Hz s2 → s2.heap.get? s.heap.objs.size = some { cls := .type "list", data := .seq its.toArray k } → Hz s.heap.objs.size = none →
      Vals ys its → ys.length ≤ sizeLine → (∀ p, Hz p = none → Q (.ref p) (upd Hz p (.lst ys))) → R (.ok .next) s2) :
    codeAny (model X.prog X.w) X.A (.compLoop (.ListComp elt [⟨tg, iter, ifs, 0⟩] scope pos) 0 (.ref it) (.ref s.heap.objs.size) (compEnvC scope cl (s.heap.push emptyL).objs.size X.env)) R s4 := by
  refine comp_loop (EE := fun _ _ => False) (fun n s' => ∃ (i : Nat) (ys : List V) (Hz : Hp) (its : List Value) (k : Nat), Inv (blk X N' scope cl pins fp s H) [] (slots ix σ) Hz s' ∧ tn i s'.heap ∧ (∀ b ∈ fp, Hz b = none) ∧
    s'.heap.get? s.heap.objs.size = some { cls := .type "list", data := .seq its.toArray k } ∧ Hz s.heap.objs.size = none ∧ Vals ys its ∧ W i n ys Hz) (fun _ _ z => z.elim) ?_ m0
    ⟨0, [], H, [], 0, J0, st0, fun b hb => (hf b hb).1, hD0, I.hok.fresh (Nat.le_refl _), .nil, w0⟩
  rintro n s' ⟨i, ys, Hz, its, k, J1, st1, fz, hD, hz, rv, w1⟩
  have own := blk_own (fp := fp) (N' := N') S I hz
  have J2 : Inv (blk X N' scope cl pins fp s H) [(s.heap.objs.size, { cls := .type "list", data := .seq its.toArray k })] (slots ix σ) Hz s' := J1.pins_of fun p hp => by
    have e : p = (s.heap.objs.size, { cls := .type "list", data := .seq its.toArray k }) := by simpa using hp
    subst e
    exact ⟨hD, hz, own.2.1, own.2.2.1, fun v z => nomatch z⟩
  have atD : ∀ {pl : List (Addr × Obj)} {σ' : St} {H' : Hp} {s'' : Shared}, Inv (blk X N' scope cl pins fp s H) ([(s.heap.objs.size, { cls := .type "list", data := .seq its.toArray k })] ++ pl) σ' H' s'' →
      s''.heap.get? s.heap.objs.size = some { cls := .type "list", data := .seq its.toArray k } ∧ H' s.heap.objs.size = none := fun J' => by
    have q := J'.pin (s.heap.objs.size, { cls := .type "list", data := .seq its.toArray k }) (List.mem_append_right _ (List.mem_append_left _ (List.mem_cons_self ..)))
    exact ⟨q.1, q.2.1⟩
  have hlen := rv.length
  rcases turn i n ys Hz w1 with ⟨stop, hsz, q⟩ | ⟨go, hsz, N, hN, step⟩
  · refine thn (T.done (blk X N' scope cl pins fp s H) rfl rfl rfl hc i _ s' _ Hz (fun _ _ => False) J2 (blk_fp S I hf hlt fz) st1 stop) fun r s2 ⟨hr, J3⟩ => .inl ⟨hr, ?_⟩
    have d := atD (pl := []) J3
    exact fin ys Hz its k _ s2 J3 d.1 d.2 rv hsz q
  · refine thn (T.item (blk X N' scope cl pins fp s H) rfl rfl rfl hc i _ s' _ Hz (fun _ _ => False) J2 (blk_fp S I hf hlt fz) st1 go) fun r s1 ⟨u, hr, h4⟩ => .inr ⟨u, hr, thn h4 fun _ s5 ⟨x, H5, J5, r5, y5, st5, fr5⟩ => ?_⟩
    have J5' := J5.pinned (blk_fp S I hf hlt fr5) (T.obj _ _ st5)
    refine thn (hg _ s5 _ H5 x u _ J5' r5 (step x H5 y5)) fun _ s6 ⟨σ6, H6, J6, ext, q6⟩ => ?_
    refine thn (hif _ s6 σ6 H6 _ J6 q6) fun ok s7 ⟨H7, J7, q7⟩ => ?_
    have tnK : ∀ {σ' : St} {H' : Hp} {s'' : Shared}, Inv (blk X N' scope cl pins fp s H) ([(s.heap.objs.size, { cls := .type "list", data := .seq its.toArray k })] ++ pinsAt fp s5.heap) σ' H' s'' → tn (i + 1) s''.heap ∧ ∀ b ∈ fp, H' b = none := fun J' =>
      ⟨T.keep _ _ _ st5 fun b hb o e => (J'.pin (b, o) (List.mem_append_right _ (List.mem_append_right _ (mem_pinsAt hb e)))).1, fun b hb => by
        obtain ⟨o, e, _⟩ := T.obj _ _ st5 b hb
        exact (J'.pin (b, o) (List.mem_append_right _ (List.mem_append_right _ (mem_pinsAt hb e)))).2.1⟩
    cases ok with
    | false =>
      rw [if_neg Bool.false_ne_true] at q7
      obtain ⟨m', hm, w7⟩ := hN _ _ q7
      have d := atD J7
      have t := tnK J7
      refine .inr ⟨rfl, m', hm, i + 1, ys, H7, its, k, (J7.pins_of fun p hp => absurd hp (by simp)).weak ext.len.symm fun j v => ext.get j v, t.1, t.2, d.1, d.2, rv, w7⟩
    | true =>
      rw [if_pos rfl] at q7
      refine .inl ⟨rfl, thn (he _ s7 σ6 H7 _ J7 q7) fun xv s8 ⟨y, H8, J8, r8, q8⟩ => ?_⟩
      obtain ⟨m', hm, w8⟩ := hN _ _ q8
      have d := atD J8
      have t := tnK J8
      have own8 := blk_own (fp := fp) (N' := N') S I d.2
      have J9 : Inv (blk X N' scope cl pins fp s H) [] (slots ix σ) H8 s8 := (J8.pins_of fun p hp => absurd hp (by simp)).weak ext.len.symm fun j v => ext.get j v
      refine wpAny_list_append_plain (hsz := by rw [List.size_toArray, ← hlen]; exact hsz) ⟨k, d.1⟩ fun h' hl' sb => ?_
      obtain ⟨k', hk'⟩ := hl'
      refine ⟨m', hm, i + 1, ys ++ [y], H8, its ++ [xv], k', J9.turned (t' := s8.toks) (fun b o hb e => (sb.2 b hb).trans e) own8.1 own8.2.1 own8.2.2.2.1 own8.2.2.2.2.1 own8.2.2.2.2.2,
        T.keep _ _ _ t.1 fun b hb o e => (sb.2 b (Nat.ne_of_lt (hlt b hb))).trans e, t.2, by simpa using hk', d.2, rv.append (.cons r8 .nil), w8⟩
end
theorem pe_comp {X : Cx} {N' : List Str} {ix : List (Option Nat)} {scope : Scope} {cl : List (Str × Addr)} {elt tg iter : Expr} {ifs : List Expr} {pos : Pos} {wi : TI} {g : TG} {tt : TT} {te : TE}
    (hc : X.calm = true) (S : CompSc X N' ix scope cl) (hi : PI X tg iter wi)
    (body : ∀ (C : Addr) (ex : List Addr) (pn : List (Addr × Obj)) (s : Shared) (H : Hp), PG (cxComp X N' scope cl C ex pn s H) tg g ∧ PIf (cxComp X N' scope cl C ex pn s H) ifs tt ∧ PE (cxComp X N' scope cl C ex pn s H) elt te)
    (hs : ∀ x, foldedSetIterable iter X.env x = pure x := by intro _; rfl) : PE X (.ListComp elt [⟨tg, iter, ifs, 0⟩] scope pos) (tComp wi ix g tt te) := by
  intro pins s σ H Q I h
  rw [eval_ListComp]
  refine wpAny_comprehension_free (use := none) rfl hs S.clos S.kind S.names (thn (hi pins s σ H _ I h) fun xv s1 h1 => thn h1 fun itv s2 h2 => ?_)
  obtain ⟨it, fp, tn, J, H2, rfl, I2, T, st2, f2, W, ⟨m0, w0⟩, turn⟩ := h2
  have hlt : ∀ b ∈ fp, b < s2.heap.objs.size := fun b hb => by obtain ⟨o, e, _⟩ := T.obj _ _ st2 b hb; exact Heap.lt_size e
  refine wpAny_newObj_type (wpAny_newFunctionEnv S.nocell (by intro y hy; simp at hy) (fun h₁ hns hsb => ?_) S.kind)
  dsimp only at hns hsb ⊢
  have hk1 : ∀ b o, (s2.heap.push emptyL).get? b = some o → h₁.get? b = some o := fun b o e => hsb.extBut b o (Nat.ne_of_lt (Heap.lt_size e)) (Heap.get?_push_of_some _ e)
  have J0 := comp_start (tk := s2.toks + ([] : List (Str × Value)).length) (N' := N') S I2 f2 hlt hns hk1
  obtain ⟨hg, hif, he⟩ := body (s2.heap.push emptyL).objs.size (s2.heap.objs.size :: fp) (X.pn ++ pins) { s2 with heap := s2.heap.push emptyL } H2
  have st4 : tn 0 h₁ := T.keep _ _ _ st2 fun b hb o e => hk1 b o (Heap.get?_push_of_some _ e)
  have hD4 : h₁.get? s2.heap.objs.size = some { cls := .type "list", data := .seq ([] : List Value).toArray 0 } := hk1 _ _ (Heap.get?_push_size _ rfl)
  have loop := comp_run (iter := iter) (pos := pos) (Q := Q) (R := compPost (model X.prog X.w) X.A X.xe none (EP X pins σ Q) (.ref s2.heap.objs.size) (s2.heap.push emptyL).objs.size) hc S I2 T f2 hlt hg hif he J0 st4 hD4 W m0 w0 turn
    fun ys Hz its k pl s5 J3 dD dz rv hsz q => by
      obtain ⟨m, hn, _⟩ := J3.loc
      exact ⟨m, hn, fun h2 sb => ⟨.ref _, _, comp_end I2 f2 rfl J3 sb dD dz rv hsz, rfl, q _ dz⟩⟩
  exact codeAny_compStart_list loop (T.self _ 0 _ _ _ st4 loop)
/-- name = a comprehension, the name a plain local one (the stores are exchanged) -/
theorem ps_setComp {X : Cx} {i : Nat} {y : Str} {N' : List Str} {ix : List (Option Nat)} {scope : Scope} {cl : List (Str × Addr)} {elt tg iter : Expr} {ifs : List Expr} {pos pos' spos : Pos} {wi : TI} {g : TG} {tt : TT} {te : TE}
    (hN : X.N.Nodup) (hi' : X.N[i]? = some y) (hy : X.env.scope.names.lookup y = some .local)
    (hc : X.calm = true) (S : CompSc X N' ix scope cl) (hi : PI X tg iter wi)
    (body : ∀ (C : Addr) (ex : List Addr) (pn : List (Addr × Obj)) (s : Shared) (H : Hp), PG (cxComp X N' scope cl C ex pn s H) tg g ∧ PIf (cxComp X N' scope cl C ex pn s H) ifs tt ∧ PE (cxComp X N' scope cl C ex pn s H) elt te)
    (hsw : swapsWith (.ListComp elt [⟨tg, iter, ifs, 0⟩] scope pos) (some (.Name y pos')) spos.line X.env = pure true := by rfl)
    (hs : ∀ x, foldedSetIterable iter X.env x = pure x := by intro _; rfl) : PS X (.Assign [.Name y pos'] (.ListComp elt [⟨tg, iter, ifs, 0⟩] scope pos) spos) (tAsg (tComp wi ix g tt te) (gName i)) := by
  intro pins s σ H D I h
  rw [exec_Assign_Name_used _ _ _ _ hsw]; refine wpAny_bind (wpAny_standAt (wpAny_bind ?_)); show wpAny _ X.A (do let _ ← comprehension (.ListComp elt [⟨tg, iter, ifs, 0⟩] scope pos) scope X.env _ (newList []) false (eval iter X.env) (some (assign (.Name y pos') X.env))) _ _ s
  have h' : tComp wi ix g tt te σ H (fun x H1 => D.nx (σ.set i (some x)) H1) := h
  refine wpAny_bind (wpAny_mono (wpAny_comprehension_free (use := some (assign (.Name y pos') X.env)) (Q := fun _ s' => SP X pins D .next s') rfl hs S.clos S.kind S.names
    (thn (hi pins s σ H _ I h') fun xv s1 h1 => thn h1 fun itv s2 h2 => ?_)) (fun _ s' hq => wpAny_pure (wpAny_pure hq)) fun _ _ e => e)
  obtain ⟨it, fp, tn, J, H2, rfl, I2, T, st2, f2, W, ⟨m0, w0⟩, turn⟩ := h2
  have hlt : ∀ b ∈ fp, b < s2.heap.objs.size := fun b hb => by obtain ⟨o, e, _⟩ := T.obj _ _ st2 b hb; exact Heap.lt_size e
  refine wpAny_newObj_type (wpAny_newFunctionEnv S.nocell (by intro y hy; simp at hy) (fun h₁ hns hsb => ?_) S.kind)
  dsimp only at hns hsb ⊢
  have hk1 : ∀ b o, (s2.heap.push emptyL).get? b = some o → h₁.get? b = some o := fun b o e => hsb.extBut b o (Nat.ne_of_lt (Heap.lt_size e)) (Heap.get?_push_of_some _ e)
  have J0 := comp_start (tk := s2.toks + ([] : List (Str × Value)).length) (N' := N') S I2 f2 hlt hns hk1
  obtain ⟨hg, hif, he⟩ := body (s2.heap.push emptyL).objs.size (s2.heap.objs.size :: fp) (X.pn ++ pins) { s2 with heap := s2.heap.push emptyL } H2
  have st4 : tn 0 h₁ := T.keep _ _ _ st2 fun b hb o e => hk1 b o (Heap.get?_push_of_some _ e)
  have hD4 : h₁.get? s2.heap.objs.size = some { cls := .type "list", data := .seq ([] : List Value).toArray 0 } := hk1 _ _ (Heap.get?_push_size _ rfl)
  have eC : (s2.heap.push emptyL).objs.size = s2.heap.objs.size + 1 := Heap.size_push ..
  have I3 : Inv X pins σ H2 { s2 with heap := s2.heap.push emptyL } := I2.kept (t' := s2.toks) fun b o e => Heap.get?_push_of_some _ e
  have fC := I3.fpOk (H' := H2) (Nat.le_refl _) (I3.hok.fresh (Nat.le_refl _))
  have loop := comp_run (iter := iter) (pos := pos) (Q := fun x H1 => D.nx (σ.set i (some x)) H1) (R := compPost (model X.prog X.w) X.A X.xe (some (assign (.Name y pos') X.env)) (fun _ s' => SP X pins D .next s') (.ref s2.heap.objs.size) (s2.heap.push emptyL).objs.size) hc S I2 T f2 hlt hg hif he J0 st4 hD4 W m0 w0 turn
    fun ys Hz its k pl s5 J3 dD dz rv hsz q => by
      obtain ⟨m, hn, _⟩ := J3.loc
      have I5 : Inv X pins σ (upd Hz s2.heap.objs.size (.lst ys)) s5 := comp_end (h2 := s5.heap) I2 f2 rfl J3 (.refl ..) dD dz rv hsz
      show wpAny _ X.A (assign (.Name y pos') X.env (.ref s2.heap.objs.size)) _ _ s5
      refine wpAny_assign_Name (store_ok2 (v := .ref s2.heap.objs.size) I5 hN hi' (.inl hy) rfl (fun s6 I6 ch => ?_) (.inr hy))
      obtain ⟨a, sb, ha⟩ := ch
      have hCa : (s2.heap.push emptyL).objs.size ≠ a := by
        rcases ha with q | q
        · rw [q]; exact fC.2.1
        · exact Ne.symm (fC.2.2.2.2.1 _ _ q)
      have zC : (upd Hz s2.heap.objs.size (.lst ys)) (s2.heap.push emptyL).objs.size = none := by
        rw [upd_ne (by rw [eC]; exact Nat.ne_of_gt (Nat.lt_succ_self _))]; exact J3.free
      refine ⟨m, hn.sameBut sb hCa, fun h3 sb3 => ⟨_, _, I6.turned (t' := s6.toks) (fun b o hb e => (sb3.2 b hb).trans e) zC fC.2.1 fC.2.2.2.1 fC.2.2.2.2.1 fC.2.2.2.2.2, q _ dz⟩⟩
  exact codeAny_compStart_list loop (T.self _ 0 _ _ _ st4 loop)
theorem comp_range {lo : Int} {n : Nat} {ix : List (Option Nat)} {g : TG} {tt : TT} {te : TE} {σ : St} {H : Hp} {Q : VK} (Pv : Nat → List V → Hp → Prop) (h0 : Pv 0 [] H)
    (hs : ∀ i ys H, i < n → Pv i ys H → ys.length ≤ sizeLine ∧ g (.int (lo + i)) (slots ix σ) H fun σ2 H2 => Ext (slots ix σ) σ2 ∧ tt σ2 H2 fun ok H3 => if ok = true then te σ2 H3 fun y H4 => Pv (i + 1) (ys ++ [y]) H4 else Pv (i + 1) ys H3)
    (hd : ∀ ys H, Pv n ys H → ys.length ≤ sizeLine ∧ ∀ p, H p = none → Q (.ref p) (upd H p (.lst ys))) :
    CompAt (Itr lo n) ix g tt te σ Q H := by
  refine ⟨fun i m ys H => m = n - i ∧ i ≤ n ∧ Pv i ys H, ⟨n, by simp, Nat.zero_le _, h0⟩, ?_⟩
  rintro i m ys H ⟨rfl, hi, p⟩
  by_cases hlt : i < n
  · obtain ⟨z, q⟩ := hs i ys H hlt p
    refine .inr ⟨hlt, z, Pv (i + 1), fun zs H' p' => ⟨n - (i + 1), by (first | lia | omega), rfl, hlt, p'⟩, fun x H' y => ?_⟩
    obtain ⟨rfl, rfl⟩ := y
    exact q
  · obtain rfl : i = n := by (first | lia | omega)
    obtain ⟨z, q⟩ := hd ys H p
    exact .inl ⟨Nat.le_refl _, z, q⟩
theorem comp_list {K : PySem.W.Frag} {a : Addr} {xs : List V} {ix : List (Option Nat)} {g : TG} {tt : TT} {te : TE} {σ : St} {H : Hp} {Q : VK} (Pv : Nat → List V → Hp → Prop) (h0 : Pv 0 [] H) (hl : ∀ i ys H, Pv i ys H → SqL K H a xs)
    (hs : ∀ i x ys H, xs[i]? = some x → Pv i ys H → ys.length ≤ sizeLine ∧ g x (slots ix σ) H fun σ2 H2 => Ext (slots ix σ) σ2 ∧ tt σ2 H2 fun ok H3 => if ok = true then te σ2 H3 fun y H4 => Pv (i + 1) (ys ++ [y]) H4 else Pv (i + 1) ys H3)
    (hd : ∀ ys H, Pv xs.length ys H → ys.length ≤ sizeLine ∧ ∀ p, H p = none → Q (.ref p) (upd H p (.lst ys))) :
    CompAt (Itl K a) ix g tt te σ Q H := by
  refine ⟨fun i m ys H => m = xs.length - i ∧ i ≤ xs.length ∧ Pv i ys H, ⟨xs.length, by simp, Nat.zero_le _, h0⟩, ?_⟩
  rintro i m ys H ⟨rfl, hi, p⟩
  have q := hl i ys H p
  by_cases hlt : i < xs.length
  · have gx : xs[i]? = some xs[i] := List.getElem?_eq_getElem hlt
    obtain ⟨z, _⟩ := hs i _ ys H gx p
    refine .inr ⟨⟨xs, xs[i], q, gx⟩, z, Pv (i + 1), fun zs H' p' => ⟨xs.length - (i + 1), by (first | lia | omega), rfl, hlt, p'⟩, fun x H' y => ?_⟩
    obtain ⟨e, y⟩ := y
    subst e
    exact (hs i x ys _ (y xs q) p).2
  · obtain rfl : i = xs.length := by (first | lia | omega)
    obtain ⟨z, q'⟩ := hd ys H p
    exact .inl ⟨⟨xs, q, Nat.le_refl _⟩, z, q'⟩
theorem comp_zip {K : PySem.W.Frag} {a b : Addr} {xs ws : List V} {ix : List (Option Nat)} {g : TG} {tt : TT} {te : TE} {σ : St} {H : Hp} {Q : VK} (Pv : Nat → List V → Hp → Prop) (h0 : Pv 0 [] H) (hl : ∀ i ys H, Pv i ys H → SqL K H a xs ∧ SqL K H b ws)
    (hs : ∀ i x w t ys H, xs[i]? = some x → ws[i]? = some w → H t = none → Pv i ys H → ys.length ≤ sizeLine ∧ g (.ref t) (slots ix σ) (upd H t (.tup [x, w])) fun σ2 H2 => Ext (slots ix σ) σ2 ∧ tt σ2 H2 fun ok H3 => if ok = true then te σ2 H3 fun y H4 => Pv (i + 1) (ys ++ [y]) H4 else Pv (i + 1) ys H3)
    (hz : ∀ i ys H, Pv i ys H → ys.length ≤ sizeLine)
    (hd : ∀ ys H, Pv (min xs.length ws.length) ys H → ∀ p, H p = none → Q (.ref p) (upd H p (.lst ys))) :
    CompAt (Itz K a b (min xs.length ws.length)) ix g tt te σ Q H := by
  refine ⟨fun i m ys H => m = min xs.length ws.length - i ∧ i ≤ min xs.length ws.length ∧ Pv i ys H, ⟨_, rfl, Nat.zero_le _, h0⟩, ?_⟩
  rintro i m ys H ⟨rfl, hi, p⟩
  have q := hl i ys H p
  by_cases hlt : i < min xs.length ws.length
  · refine .inr ⟨⟨xs, ws, q.1, q.2, rfl, hlt⟩, hz i ys H p, Pv (i + 1), fun zs H' p' => ⟨min xs.length ws.length - (i + 1), by (first | lia | omega), rfl, hlt, p'⟩, fun x H' y => ?_⟩
    obtain ⟨t, u, v, rfl, hn, rfl, gu, gv⟩ := y
    exact (hs i u v t ys H (gu xs q.1) (gv ws q.2) hn p).2
  · obtain rfl : i = min xs.length ws.length := by (first | lia | omega)
    exact .inl ⟨⟨Nat.le_refl _, xs, ws, q.1, q.2, rfl⟩, hz _ ys H p, hd ys H p⟩
end L3
namespace L3
open PySem PySem.Spec L2
open PyProof.Rows hiding St
/-- the context of a def's body -/
abbrev cxF (P : Program) (w : World) (K : PySem.W.Frag) (mg : Str → Option Value) (base : Heap) (N : List Str) (x : Str) (st : Stmt) (f : Addr) (cdv : Value) (A : Around) (outer : List Env) (s : Shared) (H : Hp) (E : XK) : Cx :=
  (cxOf CX0 P w K mg base N x (defScope st) f cdv A outer s H E).nox
/-- the def stands in the module under its name -/
def Def (K : PySem.W.Frag) (mg : Str → Option Value) (x : Str) (ps : List Str) (st : Stmt) : Prop := ∃ f fd, Fun K x x st f fd ∧ Binds K fd ps [] ∧ mg x = some (.ref f)
/-- it keeps the promise sp, with k calls of room -/
def Has (P : Program) (w : World) (K : PySem.W.Frag) (mg : Str → Option Value) (base : Heap) (k : Nat) (x : Str) (ps : List Str) (sp : Sp) : Prop :=
  ∃ f fd, FnOk P w K mg base CX0 k f fd ps sp ∧ Binds K fd ps [] ∧ PySem.W.keepIn K (.ref f) = true ∧ mg x = some (.ref f)
section
variable {P : Program} {w : World} {K : PySem.W.Frag} {mg : Str → Option Value} {base : Heap}
theorem Def.ok {x : Str} {ps N : List Str} {st : Stmt} {k : Nat} {sp : Sp} (D : Def K mg x ps st) (S : FnScope N ps (defScope st)) (len : ∀ vs H Q E, sp vs H Q E → vs.length = ps.length)
    (hbody : ∀ (f : Addr) (cdv : Value) (A : Around) (outer : List Env) (s : Shared) (H : Hp) (vs : List V) (Q : VK) (E : XK), Room k (A.deeper (envOfC x (defScope st) s.heap.objs.size f cdv)) → sp vs H Q E →
      ∃ t, PSs (cxOf CX0 P w K mg base N x (defScope st) f cdv A outer s H E).nox (defBody st) t ∧ t { nx := fun _ H' => Q .non H', rt := Q } (start N vs) H) : Has P w K mg base (k + 1) x ps sp := by
  obtain ⟨f, fd, F, b, m⟩ := D
  exact ⟨f, fd, F.ok S len (hbody f), b, F.kp, m⟩
theorem def_mk {h : Heap} {x : Str} {ps : List Str} {st : Stmt} {f : Addr} {oc : Value} {od an : Option Addr} {osl : Array (Option Value)} {kV doc pm cdv ct : Value} (X : K.In h) (G : h.Ns mainGlobals mg)
    (a : PySem.W.nsIn K mainGlobals x = some (some (.ref f))) (l : K.lookup f = some ⟨oc, od, .func (PySem.W.fnOf x x (defArgs st) (defBody st) (defScope st) .none kV doc pm an cdv ct), osl⟩)
    (c : PySem.W.codeIn K cdv x = true) (k : PySem.W.keepIn K (.ref f) = true)
    (hb : ∀ (kV doc pm : Value) (an : Option Addr) (cdv ct : Value) (us : List Value), us.length = ps.length → bindArgs (PySem.W.fnOf x x (defArgs st) (defBody st) (defScope st) .none kV doc pm an cdv ct) ⟨us, []⟩ = pure (ps.zip us)) : Def K mg x ps st :=
  ⟨f, _, fun_mk l c k, (fun_mk l c k).binds hb, PySem.W.mg_of X G a⟩
end
section
variable {X : Cx} {k j : Nat} {ps : List Str} {sp : Sp} {x : Str} {p pos : Pos} {e : Expr} {es : List Expr} {t : TA}
theorem ptw {t' : TT} (h : PW X e t') : PT X e t' := h.pt
/-- a row, then what holds behind it -/
def tCut (J : St → Hp → Prop) (t u : TS) : TS := fun D σ H => t { D with nx := J } σ H ∧ ∀ σ' H', J σ' H' → u D σ' H'
theorem pss_cut (J : St → Hp → Prop) {st : Stmt} {rest : List Stmt} {t u : TS} (h1 : PS X st t) (h2 : PSs X rest u) : PSs X (st :: rest) (tCut J t u) := by
  intro pins s σ H D I h
  refine wpAny_execs_cons (thn (h1 pins s σ H { D with nx := J } I h.1) fun f s1 q => ?_)
  cases f with
  | next =>
    obtain ⟨σ', H', I', q⟩ := q
    exact h2 pins s1 σ' H' D I' (h.2 σ' H' q)
  | ret v => exact q
  | brk => exact q
  | cont => exact q
/-- written ints -/
def tInts (is : List Int) : TA := fun _ H Q => Q (is.map V.int) H
theorem pa_int0 : PA X [] (tInts []) := pa_nil
theorem pa_int1 {i : Int} {j : Nat} {pc : Pos} {is : List Int} (h : PA X es (tInts is)) : PA X (.Constant (.int i) j pc :: es) (tInts (i :: is)) := fun q pins s σ H Q I hw =>
  pa_cons (X := X) (pe_int (X := X) (i := i) (j := j) (pos := pc)) h rfl q pins s σ H Q I hw
/-- for a comprehension's block: the written part by its own letter -/
theorem pg_tupK (K : PySem.W.Frag) {es : List Expr} {kt : Nat} {pt : Pos} {t : TGs} {n : Nat} (hK : X.K = K) (hc : X.calm = true) (h : PGs X es t)
    (hn : (assignEach es X.env).length = n := by rfl) (hst : (assignEach es X.env).findIdx? (·.1) = none := by rfl) : PG X (.Tuple es kt pt) (gTup K n t) := by
  subst hK
  exact pg_tup hc h hn hst
theorem ix_listK (K : PySem.W.Frag) (hK : X.K = K) : IxR X (rIxL K) := by
  subst hK
  exact ix_list
/-- f(e, ..) -/
theorem pcall (h : Has X.prog X.w X.K X.mg X.base j x ps sp) (hr : Room k X.A) (hg : Gl X x) (ha : PA X (e :: es) t) (hj : j ≤ k := by decide) (hdb : (x == ("__debug__" : Str)) = false := by decide)
    (he : starEach (e :: es) X.env = (false, eval e X.env) :: starEach es X.env := by rfl) (hpl : (backTo pos (starEach es X.env)).any (·.1) = false := by rfl) : PE X (.Call (.Name x p) (e :: es) [] pos) (tCall sp [] E0 t) := by
  obtain ⟨f, fd, F, b, kp, m⟩ := h
  exact pe_call F (hr.mono hj) hg m kp b .nil pass0 ha hdb he hpl
end
end L3
namespace L3
open PySem PySem.Spec L2
open PyProof.Rows hiding St
section
variable {X : Cx} {tg : Expr}
end
end L3
namespace L3
open PySem PySem.Spec L2
open PyProof.Rows hiding St
def Ite (K : PySem.W.Frag) (a : Addr) (n : Nat) : It :=
  ⟨fun i H => ∃ xs, SqL K H a xs ∧ xs.length = n ∧ i < n,
   fun i H x H' => ∃ p u, x = .ref p ∧ H p = none ∧ H' = upd H p (.tup [.int (i : Int), u]) ∧ ∀ xs, SqL K H a xs → xs[i]? = some u,
   fun i H => n ≤ i ∧ ∃ xs, SqL K H a xs ∧ xs.length = n⟩
theorem turn_enum {P : Program} {w : World} {K : PySem.W.Frag} {es : List Expr} {kt : Nat} {pt : Pos} {e it l : Addr} (n : Nat) (hne : e ≠ it) :
    Turn P w K (.Tuple es kt pt) (Ite K l n) [e, it] e (fun i h => i ≤ n ∧ (∃ old, IsEnum h e it (i : Int) old) ∧ h.IsListIter it l i) where
  mem := by simp
  obj := fun i h st b hb => by
    obtain ⟨_, ⟨old, he⟩, hi⟩ := st
    simp only [List.mem_cons, List.not_mem_nil, or_false] at hb
    rcases hb with rfl | rfl
    · exact ⟨_, he, fun v q => nomatch (show Data.fields _ = Data.cell v from q)⟩
    · obtain ⟨o, eo, _, d⟩ := hi
      exact ⟨o, eo, fun v q => by rw [d] at q; cases q⟩
  keep := fun i h h' st k => by
    obtain ⟨hn, ⟨old, he⟩, hi⟩ := st
    exact ⟨hn, ⟨old, k e (by simp) _ he⟩, hi.at fun o q => k it (by simp) o q⟩
  item := by
    intro X hP hw hK hc i pins s σ H E I hf st hg
    subst hP hw hK
    obtain ⟨xs, hx, hl, hi⟩ := hg
    obtain ⟨ix, rx, px, _⟩ := I.list hx
    have gx : xs[i]? = some (xs[i]'(by (first | lia | omega))) := List.getElem?_eq_getElem _
    generalize xs[i]'(by (first | lia | omega)) = xi at gx
    obtain ⟨u, hu, ru⟩ := rx.get gx
    obtain ⟨_, ⟨old, he⟩, hit⟩ := st
    refine wpAny_pyNext_enum_item he hit px.isList (x := u) (by simpa using hu) hne fun h' a1 a2 a3 a4 hk => ?_
    refine ⟨_, rfl, wpAny_letOwnedTupleGo_enum a1 fun h'' b1 sb => ?_⟩
    have lt : ∀ {c o}, s.heap.get? c = some o → c ≠ s.heap.objs.size := fun q => Nat.ne_of_lt (Heap.lt_size q)
    have hTn : s.heap.objs.size ≠ e := Ne.symm (lt he)
    have kk : ∀ b o, b ∉ [e, it] → s.heap.get? b = some o → h''.get? b = some o := fun b o hb q => by
      simp only [List.mem_cons, List.not_mem_nil, or_false, not_or] at hb
      exact (sb.2 b hb.1).trans (hk b o hb.1 hb.2 q)
    have hTup : h''.get? s.heap.objs.size = some { cls := .type "tuple", data := .seq #[.int (i : Int) s.toks, u] } := (sb.2 _ hTn).trans a3
    have hnew : H s.heap.objs.size = none := I.hok.fresh (Nat.le_refl _)
    have I2 : Inv X pins σ (upd H s.heap.objs.size (.tup [.int (i : Int), xi])) { s with heap := h'', toks := s.toks + 1 } :=
      inv_turnLaid (t' := s.toks + 1) I hf kk (Nat.le_refl _) ⟨by show 2 ≤ sizeLine; decide, [.int (i : Int) s.toks, u], .cons ⟨_, rfl⟩ (.cons ru .nil), ⟨_, hTup, rfl, _, rfl⟩⟩
    have e1 : ((i + 1 : Nat) : Int) = (i : Int) + 1 := by (first | lia | omega)
    refine ⟨.ref _, _, I2, rfl, ⟨_, xi, rfl, hnew, rfl, fun xs' h' => by rw [I.list_inj h' hx]; exact gx⟩, ⟨by (first | lia | omega), ⟨_, by rw [e1]; exact b1⟩, a2.at fun o q => (sb.2 _ (Ne.symm hne)).trans q⟩, fun b hb => ?_⟩
    have hbn : b ≠ s.heap.objs.size := by
      simp only [List.mem_cons, List.not_mem_nil, or_false] at hb
      rcases hb with rfl | rfl
      · exact lt he
      · obtain ⟨o, q, _⟩ := hit; exact lt q
    rw [upd_ne hbn]
    exact (hf b hb).1
  done := by
    intro X hP hw hK hc i pins s σ H E I hf st hg
    subst hP hw hK
    obtain ⟨hni, xs, hx, hl⟩ := hg
    obtain ⟨ix, rx, px, _⟩ := I.list hx
    have hlx := rx.length
    obtain ⟨_, ⟨old, he⟩, hit⟩ := st
    refine wpAny_pyNext_enum_end (I.ok.hd hc) he hit px.isList (by simp; (first | lia | omega)) fun h' hk => ⟨rfl, inv_turnN (t' := s.toks) I hf fun b o hb q => ?_⟩
    simp only [List.mem_cons, List.not_mem_nil, or_false, not_or] at hb
    exact hk b o hb.2 q
  self := fun _ _ _ _ _ st h => by
    obtain ⟨_, ⟨old, he⟩, _⟩ := st
    exact wpAny_pyIter_enum he h
section
variable {X : Cx} {es : List Expr} {kt : Nat} {pt : Pos}
def iEnum (K : PySem.W.Frag) (ta : TA) : TI := fun σ H R => ta σ H fun vs H1 => ∃ a xs, vs = [.ref a] ∧ SqL K H1 a xs ∧ R (Ite K a xs.length) H1
theorem pi_enum {a : Expr} {ta : TA} {p pos : Pos} (hg : Gl X "enumerate") (hm : X.mg "enumerate" = none) (ha : PA X [a] ta) (hs : starEach [a] X.env = [(false, eval a X.env)] := by rfl) :
    PI X (.Tuple es kt pt) (.Call (.Name "enumerate" p) [a] [] pos) (iEnum X.K ta) := by
  intro pins s σ H R I h
  refine Call_ (ld_blt I hg hm boot_enumerate (PyProof.Rows.callWith_type1 (thn (ha pos pins s σ H _ I h) fun us s1 ⟨vs, H1, I1, r1, q1⟩ => ?_) hs rfl))
  obtain ⟨l, xs, rfl, hq, q⟩ := q1
  obtain ⟨u, rfl, rx⟩ := vals1 r1
  cases rx
  obtain ⟨its, rv, pl, hz⟩ := I1.list hq
  refine call_enumerate_list pl.isList fun h' he hit hsz hk => ?_
  have I2 : Inv X pins σ H1 { s1 with heap := h' } := I1.kept (t' := s1.toks) fun b o e => hk b o e
  refine wpAny_pyIter_enum he ?_
  refine ⟨_, [s1.heap.objs.size + 1, s1.heap.objs.size], _, _, H1, rfl, I2, turn_enum xs.length (Nat.succ_ne_self _), ⟨Nat.zero_le _, ⟨_, he⟩, hit⟩, fun b hb => ?_, q⟩
  have hb' : s1.heap.objs.size ≤ b := by
    simp only [List.mem_cons, List.not_mem_nil, or_false] at hb
    rcases hb with rfl | rfl <;> (first | lia | omega)
  exact I1.fpOk hb' (I1.hok.fresh hb')
end
theorem for_enum {K : PySem.W.Frag} {a : Addr} {xs : List V} {g : TG} {tb : TS} {D : Ends} {σ : St} {H : Hp} (Pv : Nat → St → Hp → Prop) (h0 : Pv 0 σ H) (hl : ∀ i σ H, i ≤ xs.length → Pv i σ H → SqL K H a xs)
    (hs : ∀ i x p σ H, xs[i]? = some x → H p = none → Pv i σ H → g (.ref p) σ (upd H p (.tup [.int (i : Int), x])) fun σ2 H2 => tb { D with nx := Pv (i + 1), ct := Pv (i + 1), bk := D.nx } σ2 H2) (hd : ∀ σ H, Pv xs.length σ H → D.nx σ H) :
    ∃ W : Nat → Nat → St → Hp → Prop, (∃ m, W 0 m σ H) ∧ ∀ i m σ H, W i m σ H →
      ((Ite K a xs.length).stop i H ∧ D.nx σ H) ∨ ((Ite K a xs.length).go i H ∧ ∃ N : St → Hp → Prop, (∀ σ' H', N σ' H' → ∃ m', m' < m ∧ W (i + 1) m' σ' H') ∧
        ∀ x H', (Ite K a xs.length).yld i H x H' → g x σ H' fun σ2 H2 => tb { D with nx := N, ct := N, bk := D.nx } σ2 H2) := by
  refine ⟨fun i m σ H => m = xs.length - i ∧ i ≤ xs.length ∧ Pv i σ H, ⟨_, rfl, Nat.zero_le _, h0⟩, ?_⟩
  rintro i m σ H ⟨rfl, hi, p⟩
  have q := hl i σ H hi p
  by_cases hlt : i < xs.length
  · refine .inr ⟨⟨xs, q, rfl, hlt⟩, Pv (i + 1), fun σ' H' p' => ⟨xs.length - (i + 1), by (first | lia | omega), rfl, hlt, p'⟩, fun x H' y => ?_⟩
    obtain ⟨t, u, rfl, hn, rfl, gu⟩ := y
    exact hs i u t σ H (gu xs q) hn p
  · have e : i = xs.length := by (first | lia | omega)
    subst e
    exact .inl ⟨⟨Nat.le_refl _, xs, q, rfl⟩, hd σ H p⟩
theorem comp_enum {K : PySem.W.Frag} {a : Addr} {xs : List V} {ix : List (Option Nat)} {g : TG} {tt : TT} {te : TE} {σ : St} {H : Hp} {Q : VK} (Pv : Nat → List V → Hp → Prop) (h0 : Pv 0 [] H) (hl : ∀ i ys H, Pv i ys H → SqL K H a xs)
    (hs : ∀ i x t ys H, xs[i]? = some x → H t = none → Pv i ys H → g (.ref t) (slots ix σ) (upd H t (.tup [.int (i : Int), x])) fun σ2 H2 => Ext (slots ix σ) σ2 ∧ tt σ2 H2 fun ok H3 => if ok = true then te σ2 H3 fun y H4 => Pv (i + 1) (ys ++ [y]) H4 else Pv (i + 1) ys H3)
    (hz : ∀ i ys H, Pv i ys H → ys.length ≤ sizeLine)
    (hd : ∀ ys H, Pv xs.length ys H → ∀ p, H p = none → Q (.ref p) (upd H p (.lst ys))) :
    CompAt (Ite K a xs.length) ix g tt te σ Q H := by
  refine ⟨fun i m ys H => m = xs.length - i ∧ i ≤ xs.length ∧ Pv i ys H, ⟨_, rfl, Nat.zero_le _, h0⟩, ?_⟩
  rintro i m ys H ⟨rfl, hi, p⟩
  have q := hl i ys H p
  by_cases hlt : i < xs.length
  · refine .inr ⟨⟨xs, q, rfl, hlt⟩, hz i ys H p, Pv (i + 1), fun zs H' p' => ⟨xs.length - (i + 1), by (first | lia | omega), rfl, hlt, p'⟩, fun x H' y => ?_⟩
    obtain ⟨t, u, rfl, hn, rfl, gu⟩ := y
    exact hs i u t ys H (gu xs q) hn p
  · obtain rfl : i = xs.length := by (first | lia | omega)
    exact .inl ⟨⟨Nat.le_refl _, xs, q, rfl⟩, hz _ ys H p, hd ys H p⟩
def Its (lo c : Int) (n : Nat) : It := ⟨fun i _ => i < n, fun i H x H' => H' = H ∧ x = .int (lo + (i : Int) * c), fun i _ => n ≤ i⟩
theorem turn_up {P : Program} {w : World} {K : PySem.W.Frag} {tg : Expr} (it : Addr) (lo c : Int) (n : Nat) : Turn P w K tg (Its lo c n) [it] it (fun i h => IsRangeIter h it (lo + (i : Nat) * c) ((n : Int) - (i : Nat)) c) where
  mem := by simp
  obj := fun i h st b hb => by
    obtain rfl : b = it := by simpa using hb
    exact ⟨_, st, fun v q => nomatch (show Data.fields _ = Data.cell v from q)⟩
  keep := fun i h h' st k => k it (by simp) _ st
  item := by
    intro X hP hw hK hc i pins s σ H E I hf st hg
    subst hP hw hK
    obtain ⟨f0, f1, f2, f3, f4, f5⟩ := hf it (by simp)
    refine (Walks.range (prog := X.prog) (w := X.w) (I.ok.hd hc) it lo c n).item i s _ _ hg st fun v h' tk hv st' kk => ?_
    obtain ⟨t, rfl⟩ := hv
    have I1 : Inv X pins σ H { s with heap := h', toks := tk } := I.turned (fun b o hb e => kk b o (by simpa using hb) e) f0 f1 f3 f4 f5
    exact ⟨_, rfl, go_of (s := { s with heap := h', toks := tk }) (n := "range_iterator") st' rfl rfl (by decide) ⟨.int (lo + (i : Int) * c), H, I1, ⟨t, rfl⟩, ⟨rfl, rfl⟩, st', fun b hb => (hf b hb).1⟩⟩
  done := by
    intro X hP hw hK hc i pins s σ H E I hf st hg
    subst hP hw hK
    obtain ⟨f0, f1, f2, f3, f4, f5⟩ := hf it (by simp)
    have hni : n ≤ i := hg
    exact wpAny_pyNext_range_end (I.ok.hd hc) st (by (first | lia | omega)) fun h' eb => ⟨rfl, I.turned (t' := s.toks) (fun b o hb e => eb b o hb e) f0 f1 f3 f4 f5⟩
  self := fun _ _ _ _ _ st h => wpAny_pyIter_rangeiter st h
theorem vals3' {x y z : V} {us : List Value} (r : Vals [x, y, z] us) : ∃ u v w', us = [u, v, w'] ∧ RelV x u ∧ RelV y v ∧ RelV z w' := by
  cases r with
  | cons a r =>
    obtain ⟨v, w', rfl, h1, h2⟩ := vals2 r
    exact ⟨_, v, w', rfl, a, h1, h2⟩
theorem rangeSize_step {a b c : Int} (hc : 0 < c) : Builtin.Range.rangeSize a b c = (((b - a + c - 1) / c).toNat : Int) := by
  unfold Builtin.Range.rangeSize
  rw [if_pos hc]
  split
  · rename_i h
    have e : b - a + c - 1 = (b - a - 1) + 1 * c := by (first | lia | omega)
    rw [e, Int.add_mul_ediv_right _ _ (by (first | lia | omega))]
    have : 0 ≤ (b - a - 1) / c := Int.ediv_nonneg (by (first | lia | omega)) (by (first | lia | omega))
    (first | lia | omega)
  · rename_i h
    have : (b - a + c - 1) / c ≤ 0 := by
      have h1 : (b - a + c - 1) / c < 1 := Int.ediv_lt_of_lt_mul hc (by (first | lia | omega))
      (first | lia | omega)
    (first | lia | omega)
section
variable {X : Cx} {tg : Expr}
def iStep (ta : TA) : TI := fun σ H R => ta σ H fun vs H1 => ∃ a b c : Int, vs = [.int a, .int b, .int c] ∧ (0 < c ∧ c < 2 ^ 29) ∧ (0 ≤ a ∧ a < 2 ^ 29 ∧ 0 ≤ b ∧ b < 2 ^ 29) ∧ R (Its a c ((b - a + c - 1) / c).toNat) H1
theorem small_step {a b c : Int} (hc : 0 < c ∧ c < 2 ^ 29) (hb : 0 ≤ a ∧ a < 2 ^ 29 ∧ 0 ≤ b ∧ b < 2 ^ 29) : Builtin.Range.small a b c = true := by
  have hsz := rangeSize_step (a := a) (b := b) hc.1
  have hq : ((b - a + c - 1) / c).toNat ≤ (b - a + c - 1).toNat := by
    by_cases h : 0 ≤ b - a + c - 1
    · have := Int.ediv_le_self c h
      (first | lia | omega)
    · have : (b - a + c - 1) / c < 0 := Int.ediv_neg_of_neg_of_pos (by (first | lia | omega)) hc.1
      (first | lia | omega)
  have hd : -(2 ^ 63) ≤ ((((b - a + c - 1) / c).toNat : Nat) : Int) ∧ ((((b - a + c - 1) / c).toNat : Nat) : Int) < 2 ^ 63 := ⟨by (first | lia | omega), by (first | lia | omega)⟩
  unfold Builtin.Range.small
  rw [hsz, if_pos hc.1]
  generalize ((((b - a + c - 1) / c).toNat : Nat) : Int) = z at hd ⊢
  simp only [Builtin.Range.rangeFitsLong, Bool.and_eq_true, Bool.or_eq_true, decide_eq_true_eq, beq_iff_eq]
  (first | lia | omega)
theorem pi_step {a b c : Expr} {ta : TA} {p pos : Pos} (hg : Gl X "range") (hm : X.mg "range" = none) (ha : PA X [a, b, c] ta)
    (hs : starEach [a, b, c] X.env = (false, eval a X.env) :: starEach [b, c] X.env := by rfl) (hs2 : (backTo pos (starEach [b, c] X.env)).any (·.1) = false := by rfl) :
    PI X tg (.Call (.Name "range" p) [a, b, c] [] pos) (iStep ta) := by
  intro pins s σ H R I h
  refine Call_ (ld_blt I hg hm boot_range (PyProof.Rows.callWith_type1 (thn (ha pos pins s σ H _ I h) fun us s1 ⟨vs, H1, I1, r1, q1⟩ => ?_) hs hs2))
  obtain ⟨lo, hi, st, rfl, hc, hb, q⟩ := q1
  obtain ⟨u, v, w', rfl, ⟨t1, rfl⟩, ⟨t2, rfl⟩, ⟨t3, rfl⟩⟩ := vals3' r1
  refine call_range_3 (by (first | lia | omega)) ?_ (.inl (PyProof.noPylong_small (by (first | lia | omega))))
  have I2 : Inv X pins σ H1 { s1 with heap := s1.heap.push { cls := .type "range", data := .fields #[.int lo t1, .int hi t2, .int st t3] } } := I1.kept (t' := s1.toks) fun b o e => Heap.get?_push_of_some _ e
  refine wpAny_pyIter_range (IsRange.new ..) (small_step hc hb) ?_
  refine ⟨_, [(s1.heap.push { cls := .type "range", data := .fields #[.int lo t1, .int hi t2, .int st t3] }).objs.size], _, _, H1, rfl, I2.kept (t' := s1.toks) fun b o e => Heap.get?_push_of_some _ e, turn_up _ lo st ((hi - lo + st - 1) / st).toNat, ?_, fun b hb => ?_, q⟩
  · show IsRangeIter _ _ (lo + ((0 : Nat) : Int) * st) (((((hi - lo + st - 1) / st).toNat : Nat) : Int) - ((0 : Nat) : Int)) st
    rw [show lo + ((0 : Nat) : Int) * st = lo by simp, show ((((hi - lo + st - 1) / st).toNat : Nat) : Int) - ((0 : Nat) : Int) = Builtin.Range.rangeSize lo hi st by rw [rangeSize_step hc.1]; simp]
    exact Heap.get?_push_size _ rfl
  · obtain rfl : b = (s1.heap.push { cls := .type "range", data := .fields #[.int lo t1, .int hi t2, .int st t3] }).objs.size := by simpa using hb
    exact I2.fpOk (Nat.le_refl _) (I2.hok.fresh (Nat.le_refl _))
end
theorem comp_step {lo c : Int} {n : Nat} {ix : List (Option Nat)} {g : TG} {tt : TT} {te : TE} {σ : St} {H : Hp} {Q : VK} (Pv : Nat → List V → Hp → Prop) (h0 : Pv 0 [] H)
    (hs : ∀ i ys H, i < n → Pv i ys H → ys.length ≤ sizeLine ∧ g (.int (lo + (i : Int) * c)) (slots ix σ) H fun σ2 H2 => Ext (slots ix σ) σ2 ∧ tt σ2 H2 fun ok H3 => if ok = true then te σ2 H3 fun y H4 => Pv (i + 1) (ys ++ [y]) H4 else Pv (i + 1) ys H3)
    (hd : ∀ ys H, Pv n ys H → ys.length ≤ sizeLine ∧ ∀ p, H p = none → Q (.ref p) (upd H p (.lst ys))) :
    CompAt (Its lo c n) ix g tt te σ Q H := by
  refine ⟨fun i m ys H => m = n - i ∧ i ≤ n ∧ Pv i ys H, ⟨n, by simp, Nat.zero_le _, h0⟩, ?_⟩
  rintro i m ys H ⟨rfl, hi, p⟩
  by_cases hlt : i < n
  · obtain ⟨z, q⟩ := hs i ys H hlt p
    refine .inr ⟨hlt, z, Pv (i + 1), fun zs H' p' => ⟨n - (i + 1), by (first | lia | omega), rfl, hlt, p'⟩, fun x H' y => ?_⟩
    obtain ⟨rfl, rfl⟩ := y
    exact q
  · obtain rfl : i = n := by (first | lia | omega)
    obtain ⟨z, q⟩ := hd ys H p
    exact .inl ⟨Nat.le_refl _, z, q⟩
end L3
namespace L3
open PySem PySem.Spec L2
open PyProof.Rows hiding St
theorem lri_nolen : typeLookup (.type "list_reverseiterator") "__len__" = pure none := by
  rw [typeLookup_type, builtinLookup_eq_fast]
  kernel_rfl
theorem lri_hint : typeLookup (.type "list_reverseiterator") "__length_hint__" = pure (some (.builtin "list_reverseiterator.__length_hint__")) := by
  rw [typeLookup_type, builtinLookup_eq_fast]
  kernel_rfl
section
variable {prog : Program} {w : World} {A : Around} {E : Value → Shared → Prop} {s : Shared}
theorem hint_lri {R0 l : Addr} {i : Int} {Q : Bool → Shared → Prop} (hr : s.heap.IsRevIter R0 l i) (h : Q false s) : wpAny (model prog w) A (Builtin.List.listLengthHint (.ref R0)) Q E s := by
  unfold Builtin.List.listLengthHint
  refine wpAny_bind (wpAny_specialOf hr.typeIs lri_nolen ?_)
  refine wpAny_bind (m := specialOf (Value.ref R0) (Str.ofString "__length_hint__")) (wpAny_specialOf hr.typeIs lri_hint ?_)
  generalize hid : ("list_reverseiterator.__length_hint__" : String) = id0
  wp_delta
  rw [show splitId id0 = some ("list_reverseiterator", "__length_hint__") from by subst hid; decide +kernel]
  subst hid
  refine wpAny_bind (wpAny_isInstance (T := "list_reverseiterator") (b := true) hr.typeIs (by rw [isSubtype_type]; kernel_rfl) ?_)
  refine wpAny_ite_split (fun z => absurd z (by decide)) fun _ => ?_
  refine wpAny_ite_split (fun _ => ?_) fun z => absurd (by decide +kernel) z
  exact wpAny_ite_split (fun z => absurd z (by decide +kernel)) fun _ => wpAny_pure h
theorem extend_lri {R : Result → Shared → Prop} {R0 l T : Addr} {items : Array Value} {c₀ : Nat} (hh : A.handled = none) (hlr : l ≠ R0) (hr : s.heap.IsRevIter R0 l ((items.size : Int) - 1)) (hl : s.heap.IsList l items) (hTl : T ≠ l) (hTr : T ≠ R0)
    (hz : items.size ≤ sizeLine) (hS : s.heap.get? T = some { cls := .type "list", data := .seq #[] c₀ })
    (hR : ∀ h' tk acc k, (∀ b o, b ≠ T → b ≠ R0 → s.heap.get? b = some o → h'.get? b = some o) → h'.get? T = some { cls := .type "list", data := .seq acc k } → ItemsOf (fun i v => items[items.size - 1 - i]? = some v) acc items.size →
      R (.ok (.ret .none)) { s with heap := h', toks := tk }) :
    wpAny (model prog w) A.in1 (Builtin.List.listExtendWith (.ref T) (.ref R0) .none) (fun fin s' => match fin with | .done f => R (.ok f) s' | .again c' => c'.quiet = true ∧ codeAny (model prog w) A c' R s') (fun e s' => R (.error e) s') s := by
  have W := (Walks.listRev (prog := prog) (w := w) (A := A.in1) hh R0 l hlr items).toS
  have hTf : T ∉ [R0, l] := fun hm => by
    rcases List.mem_cons.mp hm with z | z
    · exact hTr z
    · exact hTl (List.mem_singleton.mp z)
  have st0 : 0 ≤ items.size ∧ s.heap.IsRevIter R0 l ((items.size : Int) - 1 - ((0 : Nat) : Int)) ∧ s.heap.IsList l items := ⟨Nat.zero_le _, by rw [show (items.size : Int) - 1 - ((0 : Nat) : Int) = (items.size : Int) - 1 by (first | lia | omega)]; exact hr, hl⟩
  have loop : codeAny (model prog w) A (.builtin "list.extend.loop" ⟨[.ref T, .ref R0, .none], []⟩) R s := by
    refine codeAny_extend_loopS W hz T hTf .none items.size 0 s #[] c₀ rfl (Nat.zero_le _) st0 hS (ItemsOf.nil _) fun s' acc k hm hS' hacc => ?_
    rw [Moved.eq_with hm]
    refine hR s'.heap s'.toks acc k (fun b o h1 h2 e => hm.heap b o (fun hmem => ?_) e) hS' hacc
    rcases List.mem_cons.mp hmem with z | z
    · exact h1 z
    · exact h2 (List.mem_singleton.mp z)
  unfold Builtin.List.listExtendWith
  refine wpAny_bind (wpAny_typeOf hr.typeIs ?_)
  have d1 : Builtin.List.listSameRef (.ref T) (.ref R0) = false := by simp [Builtin.List.listSameRef, hTr]
  have d2 : (Value.type "list_reverseiterator" == Value.type "list") = false := by decide
  have d3 : (Value.type "list_reverseiterator" == Value.type "tuple") = false := by decide
  simp only [d1, d2, d3, Bool.or_false, Bool.false_eq_true, if_false]
  refine wpAny_bind (wpAny_pyIter_revIter hr (wpAny_bind (wpAny_holding (hint_lri hr ?_))))
  refine wpAny_ite_split (fun z => absurd z (by decide +kernel)) fun _ => wpAny_pure ⟨plainId_quiet F.plain_extend_loop _, loop⟩
theorem init_lri {R : Result → Shared → Prop} {R0 l T : Addr} {items : Array Value} (hh : A.handled = none) (hlr : l ≠ R0) (hr : s.heap.IsRevIter R0 l ((items.size : Int) - 1)) (hl : s.heap.IsList l items) (hTl : T ≠ l) (hTr : T ≠ R0)
    (hz : items.size ≤ sizeLine) (hS : s.heap.get? T = some { cls := .type "list", data := .seq #[] })
    (hR : ∀ h' tk acc k, (∀ b o, b ≠ T → b ≠ R0 → s.heap.get? b = some o → h'.get? b = some o) → h'.get? T = some { cls := .type "list", data := .seq acc k } → ItemsOf (fun i v => items[items.size - 1 - i]? = some v) acc items.size →
      R (.ok (.ret .none)) { s with heap := h', toks := tk }) :
    wpAny (model prog w) A.in1 (Builtin.«list.__init__» ⟨[.ref T, .ref R0], []⟩) (fun fin s' => match fin with | .done f => R (.ok f) s' | .again c' => c'.quiet = true ∧ codeAny (model prog w) A c' R s') (fun e s' => R (.error e) s') s := by
  refine wpAny_bind (m := Builtin.List.listItems (.ref T)) ?_
  unfold Builtin.List.listItems
  refine wpAny_bind (wpAny_seqItems hS rfl (wpAny_pure (wpAny_bind (m := updateSeq T (fun _ => #[])) (wpAny_updateSeq hS rfl (wpAny_bind (m := letGo (#[] : Array Value).toList.reverse) (wpAny_letGo ?_))))))
  have ot : ∀ b o, b ≠ T → s.heap.get? b = some o → (s.heap.update T (Obj.mapSeq (fun _ => (#[] : Array Value)))).get? b = some o := fun b o hb e => by
    rw [Heap.get?_update_other _ _ (Ne.symm hb)]; exact e
  exact extend_lri hh hlr (hr.at fun o e => ot _ o (Ne.symm hTr) e) (hl.at fun o e => ot _ o (Ne.symm hTl) e) hTl hTr hz (Heap.get?_update_self (Obj.mapSeq (fun _ => (#[] : Array Value))) hS rfl)
    fun h' tk acc k hk hS' hacc => hR h' tk acc k (fun b o h1 h2 e => hk b o h1 h2 (ot b o h1 e)) hS' hacc
theorem call_list_lri {Q : Value → Shared → Prop} {R0 l : Addr} {items : Array Value} (hh : A.handled = none) (hlr : l ≠ R0) (hr : s.heap.IsRevIter R0 l ((items.size : Int) - 1)) (hl : s.heap.IsList l items) (hz : items.size ≤ sizeLine)
    (hQ : ∀ h' tk acc k, (∀ b o, b ≠ R0 → s.heap.get? b = some o → h'.get? b = some o) → h'.get? s.heap.objs.size = some { cls := .type "list", data := .seq acc k } →
      ItemsOf (fun i v => items[items.size - 1 - i]? = some v) acc items.size → Q (.ref s.heap.objs.size) { s with heap := h', toks := tk }) :
    wpAny (model prog w) A (call (.type "list") [.ref R0]) Q E s := by
  have nr : R0 ≠ s.heap.objs.size := by obtain ⟨o, e, _⟩ := hr; exact Nat.ne_of_lt (Heap.lt_size e)
  have nl : l ≠ s.heap.objs.size := by obtain ⟨o, e, _⟩ := hl; exact Nat.ne_of_lt (Heap.lt_size e)
  refine callType_codes (Q₁ := fun ob s1 => ob = .ref s.heap.objs.size ∧ s1 = { s with heap := s.heap.push { cls := .type "list", data := .seq #[] } }) F.called_list (F.typeCall_list_1 _) F.entry_list_init (code_list_new _ ⟨rfl, rfl⟩) ?_
  rintro ob s1 ⟨rfl, rfl⟩
  refine ⟨⟨_, Heap.get?_push_size _ rfl, rfl⟩, F.args_list_init_2 _ _, init_lri (A := A.in1) hh hlr (hr.at fun o e => Heap.get?_push_of_some _ e) (hl.at fun o e => Heap.get?_push_of_some _ e) (Ne.symm nl) (Ne.symm nr) hz (Heap.get?_push_size _ rfl) fun h' tk acc k hk hS' hacc => ⟨rfl, ?_⟩⟩
  exact hQ h' tk acc k (fun b o hb e => hk b o (Nat.ne_of_lt (Heap.lt_size e)) hb (Heap.get?_push_of_some _ e)) hS' hacc
end
theorem vals_rev {xs : List V} {its acc : List Value} (r : Vals xs its) (hl : acc.length = its.length) (h : ∀ j v, acc[j]? = some v → its[its.length - 1 - j]? = some v) : Vals xs.reverse acc := by
  have e : acc = its.reverse := by
    refine List.ext_getElem? fun j => ?_
    by_cases hj : j < acc.length
    · rw [List.getElem?_eq_getElem hj, List.getElem?_reverse (by (first | lia | omega)), h j _ (List.getElem?_eq_getElem hj)]
    · rw [List.getElem?_eq_none (by (first | lia | omega)), List.getElem?_eq_none (by rw [List.length_reverse]; (first | lia | omega))]
  subst e
  clear hl h
  induction r with
  | nil => exact .nil
  | cons a r ih =>
    rw [List.reverse_cons, List.reverse_cons]
    exact ih.append (.cons a .nil)
section
variable {X : Cx}
/-- list(reversed(e)) -/
def tRevL (K : PySem.W.Frag) (ta : TA) : TE := fun σ H Q => ta σ H fun vs H1 => ∃ a xs, vs = [.ref a] ∧ SqL K H1 a xs ∧ ∀ p, H1 p = none → Q (.ref p) (upd H1 p (.lst xs.reverse))
theorem pe_revL {e : Expr} {ta : TA} {p1 p2 pos1 pos : Pos} (hc : X.calm = true) (hgl : Gl X "list") (hml : X.mg "list" = none) (hg : Gl X "reversed") (hm : X.mg "reversed" = none) (ha : PA X [e] ta) (hs : starEach [e] X.env = [(false, eval e X.env)] := by rfl)
    (hs1 : starEach [.Call (.Name "reversed" p1) [e] [] pos1] X.env = [(false, eval (.Call (.Name "reversed" p1) [e] [] pos1) X.env)] := by rfl) :
    PE X (.Call (.Name "list" p2) [.Call (.Name "reversed" p1) [e] [] pos1] [] pos) (tRevL X.K ta) := by
  intro pins s σ H Q I h
  refine wpAny_Call_Name_kw (ld_blt I hgl hml (show bootBuiltins "list" = some (.type "list") by decide +kernel) ?_ (by decide) (by decide))
  refine PyProof.Rows.callWith_type1 ?_ hs1 rfl
  rw [hs1]
  refine Calls.spliced_cons ?_
  refine Call_ (ld_blt I hg hm boot_reversed (PyProof.Rows.callWith_type1 (thn (ha pos1 pins s σ H _ I h) fun us s1 ⟨vs, H1, I1, r1, q1⟩ => ?_) hs rfl))
  obtain ⟨l, xs, rfl, hq, q⟩ := q1
  obtain ⟨u, rfl, rx⟩ := vals1 r1
  cases rx
  obtain ⟨its, rv, pl, hz⟩ := I1.list hq
  have hlen := rv.length
  refine call_reversed_list pl.isList (Calls.spliced_nil ?_)
  have I2 : Inv X pins σ H1 { s1 with heap := s1.heap.push (revObj l ((its.toArray.size : Int) - 1)) } := I1.kept (t' := s1.toks) fun b o e => Heap.get?_push_of_some _ e
  have hl2 : (s1.heap.push (revObj l ((its.toArray.size : Int) - 1))).IsList l its.toArray := pl.isList.at fun o e => Heap.get?_push_of_some _ e
  have hlr : l ≠ s1.heap.objs.size := by obtain ⟨o, e, _⟩ := pl.isList; exact Nat.ne_of_lt (Heap.lt_size e)
  have hf : ∀ b ∈ [s1.heap.objs.size], FpOk X pins H1 b := fun b hb => by
    rw [List.mem_singleton.mp hb]
    exact I1.fpOk (Nat.le_refl _) (I1.hok.fresh (Nat.le_refl _))
  refine call_list_lri (I.ok.hd hc) hlr ⟨_, Heap.get?_push_size _ rfl, rfl, rfl⟩ hl2 (by rw [List.size_toArray]; (first | lia | omega)) fun h' tk acc k hk ho hacc => ?_
  refine ⟨.ref _, upd H1 _ (.lst xs.reverse), inv_turnLaid (o := .lst xs.reverse) (t' := tk) I2 hf (fun b o hb e => hk b o (fun z => hb (by rw [z]; simp)) e) (Nat.le_refl _) ⟨by rw [List.length_reverse]; exact hz, acc.toList, k, vals_rev rv ?_ ?_, by simpa using ho⟩, rfl, q _ (I2.hok.fresh (Nat.le_refl _))⟩
  · rw [Array.length_toList, hacc.1, List.size_toArray]
  · intro j v hj
    have := hacc.2 j v (by rw [← Array.getElem?_toList]; exact hj)
    simpa using this
end
end L3
namespace L3
open PySem PySem.Spec L2
open PyProof.Rows hiding St
/-- a tracked object stands there -/
theorem obj_there {P : Program} {w : World} {H : Hp} {h : Heap} {a : Addr} {o : HO} (x : ObjOk P w H h a o) : ∃ u, h.get? a = some u := by
  cases o with
  | lst xs => obtain ⟨_, _, _, _, e⟩ := x; exact ⟨_, e⟩
  | tup xs => obtain ⟨_, _, _, u, e, _⟩ := x; exact ⟨_, e⟩
  | dK kvs => obtain ⟨_, _, _, _, o, _, _, e, _⟩ := x; exact ⟨_, e⟩
  | dT kvs => obtain ⟨_, _, _, _, o, _, _, e, _⟩ := x; exact ⟨_, e⟩
  | set S n => obtain ⟨o, _, _, _, e, _⟩ := x; exact ⟨_, e⟩
  | ins C dx fs => obtain ⟨_, _, _, e, _⟩ := x; exact ⟨_, e⟩
  | own y => exact x
  | xd fs => obtain ⟨_, ⟨_, _, _, e, _⟩, _⟩ := x; exact ⟨_, e⟩
  | rng lo hi => obtain ⟨_, _, _, e⟩ := x; exact ⟨_, e⟩
  | frz ob u => obtain ⟨e, _⟩ := x; exact ⟨_, e⟩
  | tbl ps => exact ⟨_, show h.get? a = some _ from x⟩
  | met f y => exact ⟨_, show h.get? a = some _ from x⟩
  | ext φ => obtain ⟨_, e, _⟩ := x; exact e
/-- B holds all that stood there ahead (but frames) and all that is tracked -/
def Cov (fs : List Addr) (h h' : Heap) (H' : Hp) (B : Heap) : Prop := ∀ b o, h'.get? b = some o → b ∉ fs → ((∃ o', h.get? b = some o') ∨ H' b ≠ none) → B.get? b = some o
/-- how an exception lies behind a call -/
def CXE (P : Program) (w : World) : CXT := fun outer H s E e s' => ∃ (ea : Addr) (cls a0 : Value) (H' : Hp) (B : Heap), e = .ref ea ∧ s'.os = s.os ∧ AllBare s'.gens ∧ Un (frs outer) [] H H' s.heap s'.heap ∧ HOk P w H' s'.heap ∧
  Heap.FlyingW B outer ea cls a0 s'.heap ∧ Cov (frs outer) s.heap s'.heap H' B ∧ E cls none H'
/-- a def's own context -/
structure Own (X : Cx) : Prop where
  ex : X.ex = []
  stk : X.stack = X.env :: X.outer
  fr : X.env.frame = some X.env.locals
section
variable {X : Cx} {pins : List (Addr × Obj)} {σ : St} {H H' : Hp} {s : Shared} {hm h2 B : Heap}
theorem Own.frs (O : Own X) {b : Addr} (h : b ∈ L2.frs X.stack) : b = X.env.locals ∨ b ∈ X.fs := by
  rw [O.stk] at h
  unfold L2.frs at h
  rw [List.filterMap_cons, O.fr] at h
  exact List.mem_cons.mp h
theorem Own.low (O : Own X) (I : Inv X pins σ H s) {b : Addr} {o : Obj} (e : X.s₀.heap.get? b = some o) (hb : b ∉ X.fs) : b ∉ L2.frs X.stack := fun h => by
  rcases O.frs h with z | z
  · exact absurd (z ▸ Heap.lt_size e) (Nat.not_lt.mpr I.ok.above)
  · exact hb z
/-- behind the frame that is left -/
theorem left_ok (O : Own X) (I : Inv X pins σ H s) (un : Un (frs X.stack) [] H H' s.heap hm) (hok : HOk X.prog X.w H' hm) (cov : Cov (frs X.stack) s.heap hm H' B) (up : hm.UpToSlots h2) (st : B.StaysIn h2) :
    Un (frs X.outer) [] X.H₀ H' X.s₀.heap h2 ∧ HOk X.prog X.w H' h2 ∧ Cov (frs X.outer) X.s₀.heap h2 H' B := by
  have u0 := I.base
  rw [O.ex] at u0
  have nx : ∀ b : Addr, b ∉ ([] : List Addr) := fun b z => by simp at z
  have frN : ∀ b ∈ frs X.stack, H' b = none := fun b hb => by
    obtain ⟨_, o, ho, _⟩ := I.stack.mem hb
    exact un.free b o ho (I.stkFree b hb) (nx b)
  have hb2 : ∀ b o, B.get? b = some o → h2.get? b = some o := st
  -- what stood there at the entry, but for frames
  have old : ∀ b o, X.s₀.heap.get? b = some o → b ∉ X.fs → ∃ o1, hm.get? b = some o1 ∧ B.get? b = some o1 := fun b o e hb => by
    obtain ⟨o', e'⟩ := u0.there b o e (nx b)
    obtain ⟨o1, e1⟩ := un.there b o' e' (nx b)
    exact ⟨o1, e1, cov b o1 e1 (O.low I e hb) (.inl ⟨o', e'⟩)⟩
  have trk : ∀ b u, H' b = some u → ∃ o1, hm.get? b = some o1 ∧ B.get? b = some o1 := fun b u e => by
    obtain ⟨o1, e1⟩ := obj_there (hok b u e)
    refine ⟨o1, e1, cov b o1 e1 (fun hb => ?_) (.inr (by rw [e]; simp))⟩
    rw [frN b hb] at e; cases e
  refine ⟨⟨fun b o e n hb _ => ?_, fun b o e n hb _ => ?_, fun b o e n _ => ?_, fun b o e _ => ?_, fun b xs e => un.tups b xs (u0.tups b xs e), fun b o u e => un.frzs b o u (u0.frzs b o u e), fun b ps e => ?_⟩, fun b u e => ?_, fun b o e hb hc => ?_⟩
  · obtain ⟨o1, e1, e2⟩ := old b o e hb
    have e3 := un.keep b o (u0.keep b o e n hb (nx b)) (u0.free b o e n (nx b)) (O.low I e hb) (nx b)
    rw [e1] at e3; cases e3
    exact hb2 _ _ e2
  · obtain ⟨sl, e1⟩ := u0.slot b o e n hb (nx b)
    have hbs : b ∈ frs X.stack := by
      rw [O.stk]
      unfold L2.frs
      rw [List.filterMap_cons, O.fr]
      exact List.mem_cons_of_mem _ hb
    obtain ⟨sl2, e2⟩ := un.slot b _ e1 (u0.free b o e n (nx b)) hbs (nx b)
    obtain ⟨_, o', ho', hd⟩ := I.ok.funs.mem hb
    rw [e] at ho'; cases ho'
    obtain ⟨sl3, e3⟩ := up b _ e2 hd
    exact ⟨sl3, e3⟩
  · obtain ⟨o', e'⟩ := u0.there b o e (nx b)
    exact un.free b o' e' (u0.free b o e n (nx b)) (nx b)
  · by_cases hb : b ∈ X.fs
    · obtain ⟨o', e'⟩ := u0.there b o e (nx b)
      obtain ⟨o1, e1⟩ := un.there b o' e' (nx b)
      have hn := I.ok.frf b hb
      obtain ⟨sl, q1⟩ := u0.slot b o e hn hb (nx b)
      have hbs : b ∈ frs X.stack := by
        rw [O.stk]
        unfold L2.frs
        rw [List.filterMap_cons, O.fr]
        exact List.mem_cons_of_mem _ hb
      obtain ⟨sl2, q2⟩ := un.slot b _ q1 (u0.free b o e hn (nx b)) hbs (nx b)
      obtain ⟨_, o2, ho2, hd⟩ := I.ok.funs.mem hb
      rw [e] at ho2; cases ho2
      obtain ⟨sl3, q3⟩ := up b _ q2 hd
      exact ⟨_, q3⟩
    · obtain ⟨o1, _, e2⟩ := old b o e hb
      exact ⟨o1, hb2 _ _ e2⟩
  · obtain ⟨m1, e1⟩ := u0.tbls b ps e
    obtain ⟨m2, e2⟩ := un.tbls b _ e1
    exact ⟨m1 ++ m2, by rw [e2, Array.append_assoc]⟩
  · refine (hok b u e).stay (fun c v hc q => ?_) (fun _ q => q) fun _ _ q => q
    have : ∃ u', H' c = some u' := by
      rcases hc with z | z
      · exact ⟨u, by rw [z]; exact e⟩
      · exact ⟨_, z⟩
    obtain ⟨u', hu'⟩ := this
    obtain ⟨o1, q1, q2⟩ := trk c u' hu'
    rw [q] at q1; cases q1
    exact hb2 _ _ q2
  · rcases hc with ⟨o', e'⟩ | hc
    · obtain ⟨o1, _, e2⟩ := old b o' e' hb
      have := hb2 _ _ e2
      rw [e] at this; cases this
      exact e2
    · cases hq : H' b with
      | none => exact absurd hq hc
      | some u =>
        obtain ⟨o1, _, e2⟩ := trk b u hq
        have := hb2 _ _ e2
        rw [e] at this; cases this
        exact e2
end
section
variable {P : Program} {w : World} {K : PySem.W.Frag} {mg : Str → Option Value} {base : Heap} {N : List Str} {qual : Str} {scope : Scope} {f : Addr} {cd : Value} {A : Around} {outer : List Env} {s : Shared} {H : Hp} {E : XK}
abbrev cxE (P : Program) (w : World) (K : PySem.W.Frag) (mg : Str → Option Value) (base : Heap) (N : List Str) (qual : Str) (scope : Scope) (f : Addr) (cd : Value) (A : Around) (outer : List Env) (s : Shared) (H : Hp) (E : XK) : Cx :=
  cxOf (CXE P w) P w K mg base N qual scope f cd A outer s H E
theorem own_of : Own (cxE P w K mg base N qual scope f cd A outer s H E) := ⟨rfl, rfl, rfl⟩
/-- an exception of a callee goes on -/
theorem passE : Passes (CXE P w) (cxE P w K mg base N qual scope f cd A outer s H E) E := by
  intro pins σ H1 s1 e s2 I h
  obtain ⟨ea, cls, a0, H', B, rfl, os, bare, un, hok, fl, cov, q⟩ := h
  have hfr : (cxE P w K mg base N qual scope f cd A outer s H E).A.frames = some ((cxE P w K mg base N qual scope f cd A outer s H E).env :: outer) := I.ok.frames
  refine wpAny_leaves_onW hfr rfl fl fun h2 fl2 up => ?_
  obtain ⟨z1, z2, z3⟩ := left_ok own_of I un hok cov up fl2.1
  exact ⟨ea, cls, a0, H', B, rfl, os.trans I.os, bare, z1, z2, fl2, z3, q⟩
/-- a raise: from the state at which the exception was made -/
theorem raise_out {pins : List (Addr × Obj)} {σ : St} {H1 : Hp} {s1 s2 : Shared} {ea : Addr} {cls : Value} {vs : List Value} (I : Inv (cxE P w K mg base N qual scope f cd A outer s H E) pins σ H1 s1) (hx : Heap.MadeExcOf s1.heap s2.heap ea cls vs) (hos : s2.os = s1.os) (hg : s2.gens = s1.gens) (q : E cls none H1) :
    (cxE P w K mg base N qual scope f cd A outer s H E).xe (.ref ea) s2 := by
  have hfr : (cxE P w K mg base N qual scope f cd A outer s H E).A.frames = some ((cxE P w K mg base N qual scope f cd A outer s H E).env :: outer) := I.ok.frames
  have hst := I.stack
  have hin : ∀ env ∈ (cxE P w K mg base N qual scope f cd A outer s H E).stack, ∀ b, env.frame = some b → b ∈ frs (cxE P w K mg base N qual scope f cd A outer s H E).stack := fun env he b hb => List.mem_filterMap.mpr ⟨env, he, hb⟩
  refine wpAny_leaves_madeW (base := PySem.W.hideAll s1.heap (frs (cxE P w K mg base N qual scope f cd A outer s H E).stack)) hfr rfl (fun b o e => PySem.W.of_hideAll _ e) (PySem.W.funFrames_hide hst hin) hx fun h2 t fl _ _ up => ?_
  have cov : Cov (frs (cxE P w K mg base N qual scope f cd A outer s H E).stack) s1.heap s1.heap H1 (PySem.W.hideAll s1.heap (frs (cxE P w K mg base N qual scope f cd A outer s H E).stack)) := fun b o e hb _ => PySem.W.hideAll_get _ e hb
  obtain ⟨z1, z2, z3⟩ := left_ok own_of I Un.refl I.hok cov ((Heap.UpToSlots.of_keeps hx.keeps).trans up) fl.1
  refine ⟨ea, cls, .ref t, H1, _, rfl, ?_, ?_, z1, z2, fl, z3, q⟩
  · exact hos.trans I.os
  · show AllBare s2.gens
    rw [hg]; exact I.bare
end
end L3
namespace L3
open PySem PySem.Spec L2
open PyProof.Rows hiding St
def vbm : List Value := [.type "ValueError", .type "Exception", .type "BaseException", .type "object"]
/-- the class's object, by the written part -/
theorem exc_in {K : PySem.W.Frag} {h : Heap} {C : Addr} {tb : List Value} {nid : String} (X : K.In h) (q : PySem.W.excIn K C tb nid = true) :
    ∃ bm N nm qn bs hd sn sub ab col dd k0 k1 k2 k3 k5 mN, h.get? C = some (excClassObj nm qn C N bs bm hd sn sub ab col dd k0 k1 k2 k3 k5 nid) ∧ h.Ns N mN ∧ mN "__init__" = none ∧ OwnTail h tb bm := by
  cases e : K.lookup C with
  | none => simp [PySem.W.excIn, e] at q
  | some ob =>
    unfold PySem.W.excIn at q
    rw [e] at q
    split at q
    · rename_i odd ocd osl he
      split at q
      · rename_i c' bm j0 j1 j2 j3 nn j5 h1 h2
        simp only [Bool.and_eq_true, beq_iff_eq, Bool.not_eq_true'] at q
        obtain ⟨⟨⟨⟨⟨q1, q2⟩, q3⟩, q4⟩, q5⟩, q6⟩ := q
        have ho := X _ _ e
        cases he
        subst q1; subst q2
        obtain ⟨nm, bs, mro, nsA, qn, hd, sn, sub, ab, col, del⟩ := ocd
        dsimp only at h1 q3 q5 q6
        subst h1; subst q3
        obtain ⟨osl⟩ := osl
        dsimp only at h2
        subst h2
        exact ⟨bm, nsA, nm, qn, bs, hd, sn, sub, ab, col, odd, j0, j1, j2, j3, j5, _, ho, .of_isNs (PySem.W.isNs_of_in X q5), PySem.W.nsMap_none_of_in X q5 q6, PySem.W.tail_of_in X q4⟩
      · cases q
    · cases q
def tRaise (C : Addr) (E : XK) (t : TA) : TS := fun _ σ H => t σ H fun vs H1 => vs.length ≤ 100 ∧ E (.ref C) none H1
section
variable {P : Program} {w : World} {K : PySem.W.Frag} {mg : Str → Option Value} {base : Heap} {N : List Str} {qual : Str} {scope : Scope} {f : Addr} {cd : Value} {A : Around} {outer : List Env} {s : Shared} {H : Hp} {E : XK}
theorem ps_raise {x : Str} {C : Addr} {e : Expr} {es : List Expr} {t : TA} {np cpos pos : Pos} (hg : Gl (cxE P w K mg base N qual scope f cd A outer s H E) x) (hm : mg x = some (.ref C)) (hq : PySem.W.excIn K C vbm "ValueError.__new__" = true)
    (ha : PA (cxE P w K mg base N qual scope f cd A outer s H E) (e :: es) t) (hd : (x == ("__debug__" : Str)) = false := by decide)
    (he : starEach (e :: es) (cxE P w K mg base N qual scope f cd A outer s H E).env = (false, eval e (cxE P w K mg base N qual scope f cd A outer s H E).env) :: starEach es (cxE P w K mg base N qual scope f cd A outer s H E).env := by rfl)
    (hpl : (backTo cpos (starEach es (cxE P w K mg base N qual scope f cd A outer s H E).env)).any (·.1) = false := by rfl) :
    PS (cxE P w K mg base N qual scope f cd A outer s H E) (.Raise (some (.Call (.Name x np) (e :: es) [] cpos)) none pos) (tRaise C E t) := by
  intro pins s1 σ H1 D I h
  obtain ⟨bm, Nn, nm, qn, bs, hdc, sn, sub, ab, col, dd, k0, k1, k2, k3, k5, mN, hC, hN, hni, T⟩ := exc_in (h := base) I.mod.kin hq
  refine wpAny_Raise_call_subT (C := C) (nm := nm) (q := qn) (N := Nn) (bs := bs) (bm := bm) (hdct := hdc) (sn := sn) (sub := sub) (ab := ab) (col := col) (dd := dd) (k0 := k0) (k1 := k1) (k2 := k2) (k3 := k3) (k5 := k5)
    PySem.F.excBase_ValueError (mN := mN) (T.hasType PySem.F.excBase_ValueError.hasBase) (I.ok.hd rfl) (by rw [he]; show (false || (backTo cpos (starEach es _)).any (·.1)) = false; rw [hpl]; rfl) hni (ld_glob I hg hm ⟨rfl, ?_⟩ hd)
  have hA := ha cpos pins s1 σ H1 _ I h
  rw [he] at hA ⊢
  refine Calls.evalArgs_plain (wpAny_mono hA (fun us s2 h2 => ?_) fun _ _ y => y)
  obtain ⟨vs, H2, I2, r2, hl, hE⟩ := h2
  refine ⟨rfl, ?_, I2.bk _ _ hC, hN.keeps I2.bk, T.keeps I2.bk, fun h3 ea hx => raise_out I2 hx rfl rfl hE⟩
  show us.length ≤ sizeLine
  rw [← r2.length]
  exact Nat.le_trans hl (Nat.le_of_lt (small1000 (by decide)))
end
def tFs (t : TA) : TE := fun σ H Q => t σ H fun _ H1 => ∀ x : Str, Q (.str x) H1
/-- the parts: written texts and ints -/
def PF (X : Cx) (es : List Expr) (t : TA) : Prop := ∀ (out : Str) (pins : List (Addr × Obj)) (s : Shared) (σ : St) (H : Hp) (Q : List V → Hp → Prop), out.length + 700 * es.length ≤ 100000 → Inv X pins σ H s → t σ H Q →
  wpAny (model X.prog X.w) X.A (joinParts out (evalEach es X.env)) (fun u s' => ∃ x H' vs, Inv X pins σ H' s' ∧ RelV (.str x) u ∧ Q vs H') X.xe s
section
variable {X : Cx}
theorem pf_nil : PF X [] tNil := by
  intro out pins s σ H Q hl I h
  have h2 : out.length ≤ sizeLine := Nat.le_trans (by simpa using hl) (by decide)
  exact joinParts_nil ⟨out, H, [], I.tok _, ⟨_, rfl⟩, h⟩ h2
theorem pf_str {x : Str} {j : Nat} {pc : Pos} {es : List Expr} {t : TA} (hx : x.length ≤ 600) (h : PF X es t) : PF X (.Constant (.str x) j pc :: es) t := by
  intro out pins s σ H Q hl I hw
  refine joinParts_cons (Calls.Constant_str ?_)
  rw [List.length_cons] at hl
  have hz : (out ++ x).length = out.length + x.length := strLen_append ..
  have h2 : (out ++ x).length ≤ sizeLine := Nat.le_trans (show (out ++ x).length ≤ 100000 by rw [hz]; (first | lia | omega)) (by decide)
  exact ⟨h2, h (out ++ x) pins _ σ H Q (by rw [hz]; (first | lia | omega)) (I.tok _) hw⟩
theorem int_len {i : Int} (hi : -(10 ^ 100) < i ∧ i < 10 ^ 100) : i.natAbs.log2 < 1920 := by
  have h : i.natAbs < 2 ^ 1920 := by
    have h1 : i.natAbs < 10 ^ 100 := by (first | lia | omega)
    have h2 : (10 : Nat) ^ 100 < 2 ^ 1920 := by decide +kernel
    (first | lia | omega)
  by_cases h0 : i.natAbs = 0
  · rw [h0]; decide
  · exact (Nat.log2_lt h0).mpr h
def tFi (te : TE) (t : TA) : TA := fun σ H Q => te σ H fun v H1 => ∃ i, v = .int i ∧ (-(10 ^ 100) < i ∧ i < 10 ^ 100) ∧ t σ H1 Q
theorem text_len {i : Int} (hi : -(10 ^ 100) < i ∧ i < 10 ^ 100) : (Str.ofString (toString i)).length ≤ 600 := by
  have e := int_text_length_le10 (a := i) (k := 100) (by decide) (by (first | lia | omega))
  rw [PySem.ofString_length]
  (first | lia | omega)
theorem pf_int {v : Expr} {te : TE} {pc : Pos} {es : List Expr} {t : TA} (he : PE X v te) (h : PF X es t) : PF X (.FormattedValue v (-1) none pc :: es) (tFi te t) := by
  intro out pins s σ H Q hl I hw
  refine joinParts_cons (FormattedValue_plain (thn (he pins s σ H _ I hw) fun u s1 hu => ?_))
  obtain ⟨v1, H1, I1, r1, i, rfl, hb, q1⟩ := hu
  obtain ⟨tk, rfl⟩ := r1
  refine formatField_int_small (int_len hb) ?_
  rw [List.length_cons] at hl
  have hz : (out ++ Str.ofString (toString i)).length = out.length + (Str.ofString (toString i)).length := strLen_append ..
  have ht := text_len hb
  have h2 : (out ++ Str.ofString (toString i)).length ≤ sizeLine := Nat.le_trans (show (out ++ Str.ofString (toString i)).length ≤ 100000 by rw [hz]; (first | lia | omega)) (by decide)
  exact ⟨h2, h _ pins _ σ H1 Q (by rw [hz]; (first | lia | omega)) (I1.tok _) q1⟩
theorem pe_fstr {v1 v2 : Expr} {rest : List Expr} {t : TA} {pos : Pos} (h : PF X (v1 :: v2 :: rest) t) (hl : rest.length ≤ 50 := by decide) : PE X (.JoinedStr (v1 :: v2 :: rest) pos) (tFs t) := by
  intro pins s σ H Q I hw
  refine JoinedStr_many ?_
  refine thn (h Str.empty pins s σ H _ ?_ I hw) fun u s1 hu => ?_
  · show 0 + 700 * (rest.length + 1 + 1) ≤ 100000
    (first | lia | omega)
  · obtain ⟨x, H1, vs, I1, r1, q1⟩ := hu
    exact ⟨.str x, H1, I1, r1, q1 x⟩
end
def HasE (P : Program) (w : World) (K : PySem.W.Frag) (mg : Str → Option Value) (base : Heap) (k : Nat) (x : Str) (ps : List Str) (sp : Sp) : Prop :=
  ∃ f fd, FnOk P w K mg base (CXE P w) k f fd ps sp ∧ Binds K fd ps [] ∧ PySem.W.keepIn K (.ref f) = true ∧ mg x = some (.ref f)
section
variable {P : Program} {w : World} {K : PySem.W.Frag} {mg : Str → Option Value} {base : Heap}
theorem Def.okE {x : Str} {ps N : List Str} {st : Stmt} {k : Nat} {sp : Sp} (D : Def K mg x ps st) (S : FnScope N ps (defScope st)) (len : ∀ vs H Q E, sp vs H Q E → vs.length = ps.length)
    (hbody : ∀ (f : Addr) (cdv : Value) (A : Around) (outer : List Env) (s : Shared) (H : Hp) (vs : List V) (Q : VK) (E : XK), Room k (A.deeper (envOfC x (defScope st) s.heap.objs.size f cdv)) → sp vs H Q E →
      ∃ t, PSs (cxE P w K mg base N x (defScope st) f cdv A outer s H E) (defBody st) t ∧ t { nx := fun _ H' => Q .non H', rt := Q } (start N vs) H) : HasE P w K mg base (k + 1) x ps sp := by
  obtain ⟨f, fd, F, b, m⟩ := D
  refine ⟨f, fd, ?_, b, F.kp, m⟩
  obtain ⟨oc, od, kV, doc, pm, an, cdv, ct, osl, rfl, lk, hcd⟩ := F.ex
  exact fn_of lk hcd S len fun A outer s H vs Q E hr hsp => hbody f cdv A outer s H vs Q E hr hsp
theorem HasE.up {j k : Nat} {x : Str} {ps : List Str} {sp : Sp} (h : HasE P w K mg base j x ps sp) (hj : j ≤ k := by decide) : HasE P w K mg base k x ps sp := by
  obtain ⟨f, fd, F, b, kp, m⟩ := h
  exact ⟨f, fd, F.mono hj, b, kp, m⟩
end
/-- f(e, ..) within a def that may raise: its exceptions are this def's -/
theorem pcallE {P : Program} {w : World} {K : PySem.W.Frag} {mg : Str → Option Value} {base : Heap} {N : List Str} {qual : Str} {scope : Scope} {f : Addr} {cd : Value} {A : Around} {outer : List Env} {s : Shared} {H : Hp} {E : XK} {k j : Nat} {ps : List Str} {sp : Sp} {x : Str} {p pos : Pos} {e : Expr} {es : List Expr} {t : TA}
    (h : HasE P w K mg base j x ps sp) (hr : Room k (cxE P w K mg base N qual scope f cd A outer s H E).A) (hg : Gl (cxE P w K mg base N qual scope f cd A outer s H E) x) (ha : PA (cxE P w K mg base N qual scope f cd A outer s H E) (e :: es) t) (hj : j ≤ k := by decide) (hdb : (x == ("__debug__" : Str)) = false := by decide)
    (he : starEach (e :: es) (cxE P w K mg base N qual scope f cd A outer s H E).env = (false, eval e (cxE P w K mg base N qual scope f cd A outer s H E).env) :: starEach es (cxE P w K mg base N qual scope f cd A outer s H E).env := by rfl)
    (hpl : (backTo pos (starEach es (cxE P w K mg base N qual scope f cd A outer s H E).env)).any (·.1) = false := by rfl) :
    PE (cxE P w K mg base N qual scope f cd A outer s H E) (.Call (.Name x p) (e :: es) [] pos) (tCall sp [] E t) := by
  obtain ⟨g, fd, F, b, kp, m⟩ := h
  exact pe_call F (hr.mono hj) hg m kp b .nil passE ha hdb he hpl
end L3
namespace L3
open PySem PySem.Spec L2
open PyProof.Rows hiding St
/-- within an except suite -/
abbrev Cx.within (X : Cx) (ea : Addr) : Cx := { X with A := X.A.mark (some (.ref ea)), calm := false }
section
variable {X : Cx} {pins : List (Addr × Obj)} {σ : St} {H H' : Hp} {s : Shared} {ea : Addr}
theorem ok_within (o : X.Ok) : (Cx.within X ea).Ok :=
  ⟨o.mod, o.kind, o.glob, o.blt, o.above, o.inj, o.has, o.cab, fun z => absurd (show (false : Bool) = true from z) Bool.false_ne_true, o.frames, o.stk, o.exf, o.bs, o.bsz, o.noex, o.exfs, o.funs, o.frf⟩
theorem inv_within (I : Inv X pins σ H s) : Inv (Cx.within X ea) pins σ H s := ⟨ok_within I.ok, I.os, I.bare, I.base, I.loc, I.cell, I.free, I.freeC, I.pin, I.hok, I.len⟩
theorem inv_without (o : X.Ok) (I : Inv (Cx.within X ea) pins σ H s) : Inv X pins σ H s := ⟨o, I.os, I.bare, I.base, I.loc, I.cell, I.free, I.freeC, I.pin, I.hok, I.len⟩
theorem sp_without {D : Ends} {f : Flow} (o : X.Ok) (h : SP (Cx.within X ea) pins D f s) : SP X pins D f s := by
  cases f with
  | next => obtain ⟨σ', H', I, q⟩ := h; exact ⟨σ', H', inv_without o I, q⟩
  | brk => obtain ⟨σ', H', I, q⟩ := h; exact ⟨σ', H', inv_without o I, q⟩
  | cont => obtain ⟨σ', H', I, q⟩ := h; exact ⟨σ', H', inv_without o I, q⟩
  | ret u => obtain ⟨v, σ', H', I, r, q⟩ := h; exact ⟨v, σ', H', inv_without o I, r, q⟩
/-- an exception's notes are written: what stood there ahead of the call is as it was -/
theorem stay_ok {P : Program} {w : World} {l : List Env} {bs h0 hm h2 B : Heap} (fr : h0.FunFrames bs l) (fn : ∀ b ∈ frs l, H b = none) (un : Un (frs l) [] H H' h0 hm) (hok : HOk P w H' hm) (cov : Cov (frs l) h0 hm H' B) (up : hm.UpToSlots h2) (st : B.StaysIn h2) :
    Un (frs l) [] H H' h0 h2 ∧ HOk P w H' h2 ∧ Cov (frs l) h0 h2 H' B := by
  have nx : ∀ b : Addr, b ∉ ([] : List Addr) := fun b z => by simp at z
  have frN : ∀ b ∈ frs l, H' b = none := fun b hb => by
    obtain ⟨_, o, ho, _⟩ := fr.mem hb
    exact un.free b o ho (fn b hb) (nx b)
  have old : ∀ b o, h0.get? b = some o → b ∉ frs l → ∃ o1, hm.get? b = some o1 ∧ B.get? b = some o1 := fun b o e hb => by
    obtain ⟨o1, e1⟩ := un.there b o e (nx b)
    exact ⟨o1, e1, cov b o1 e1 hb (.inl ⟨o, e⟩)⟩
  have trk : ∀ b u, H' b = some u → ∃ o1, hm.get? b = some o1 ∧ B.get? b = some o1 := fun b u e => by
    obtain ⟨o1, e1⟩ := obj_there (hok b u e)
    refine ⟨o1, e1, cov b o1 e1 (fun hb => ?_) (.inr (by rw [e]; simp))⟩
    rw [frN b hb] at e; cases e
  have slt : ∀ b o, h0.get? b = some o → b ∈ frs l → ∃ sl, h2.get? b = some { o with slots := sl } := fun b o e hb => by
    obtain ⟨sl, e1⟩ := un.slot b o e (fn b hb) hb (nx b)
    obtain ⟨_, o', ho', hd⟩ := fr.mem hb
    rw [e] at ho'; cases ho'
    obtain ⟨sl2, e2⟩ := up b _ e1 hd
    exact ⟨sl2, e2⟩
  refine ⟨⟨fun b o e n hb _ => ?_, fun b o e n hb _ => slt b o e hb, un.free, fun b o e _ => ?_, un.tups, un.frzs, un.tbls⟩, fun b u e => ?_, fun b o e hb hc => ?_⟩
  · obtain ⟨o1, e1, e2⟩ := old b o e hb
    have e3 := un.keep b o e n hb (nx b)
    rw [e1] at e3; cases e3
    exact st _ _ e2
  · by_cases hb : b ∈ frs l
    · obtain ⟨sl, q⟩ := slt b o e hb
      exact ⟨_, q⟩
    · obtain ⟨o1, _, e2⟩ := old b o e hb
      exact ⟨o1, st _ _ e2⟩
  · refine (hok b u e).stay (fun c v hc q => ?_) (fun _ q => q) fun _ _ q => q
    have : ∃ u', H' c = some u' := by
      rcases hc with z | z
      · exact ⟨u, by rw [z]; exact e⟩
      · exact ⟨_, z⟩
    obtain ⟨u', hu'⟩ := this
    obtain ⟨o1, q1, q2⟩ := trk c u' hu'
    rw [q] at q1; cases q1
    exact st _ _ q2
  · rcases hc with ⟨o', e'⟩ | hc
    · obtain ⟨o1, _, e2⟩ := old b o' e' hb
      have := st _ _ e2
      rw [e] at this; cases this
      exact e2
    · cases hq : H' b with
      | none => exact absurd hq hc
      | some u =>
        obtain ⟨o1, _, e2⟩ := trk b u hq
        have := st _ _ e2
        rw [e] at this; cases this
        exact e2
end
abbrev XE := Value → St → Hp → Prop
def XP (X : Cx) (pins : List (Addr × Obj)) (E : XE) (e : Value) (s' : Shared) : Prop := ∃ (ea : Addr) (cls a0 : Value) (σ : St) (H0 H' : Hp) (s0 : Shared) (B : Heap), e = .ref ea ∧ Inv X pins σ H0 s0 ∧ s'.os = s0.os ∧ AllBare s'.gens ∧
  Un (frs X.stack) [] H0 H' s0.heap s'.heap ∧ HOk X.prog X.w H' s'.heap ∧ Heap.FlyingW B X.stack ea cls a0 s'.heap ∧ Cov (frs X.stack) s0.heap s'.heap H' B ∧ E cls σ H'
abbrev TEr := St → Hp → VK → XE → Prop
abbrev TSr := Ends → XE → St → Hp → Prop
def PEr (X : Cx) (e : Expr) (t : TEr) : Prop := ∀ (pins : List (Addr × Obj)) (s : Shared) (σ : St) (H : Hp) (Q : VK) (E : XE), Inv X pins σ H s → t σ H Q E → wpAny (model X.prog X.w) X.A (eval e X.env) (EP X pins σ Q) (XP X pins E) s
def PSr (X : Cx) (st : Stmt) (t : TSr) : Prop := ∀ (pins : List (Addr × Obj)) (s : Shared) (σ : St) (H : Hp) (D : Ends) (E : XE), Inv X pins σ H s → t D E σ H → wpAny (model X.prog X.w) X.A (exec st X.env) (SP X pins D) (XP X pins E) s
def PSsr (X : Cx) (st : List Stmt) (t : TSr) : Prop := ∀ (pins : List (Addr × Obj)) (s : Shared) (σ : St) (H : Hp) (D : Ends) (E : XE), Inv X pins σ H s → t D E σ H → wpAny (model X.prog X.w) X.A (execs st X.env) (SP X pins D) (XP X pins E) s
section
variable {X : Cx} {st : Stmt} {rest a b : List Stmt} {e c : Expr} {te : TEr} {t u : TSr} {tc : TT} {pos : Pos}
/-- what does not raise -/
theorem wp_nox {α : Type} {f : Sem α} {Q : α → Shared → Prop} {E : Value → Shared → Prop} {s : Shared} (hno : ∀ e s, X.xe e s → False) (h : wpAny (model X.prog X.w) X.A f Q X.xe s) : wpAny (model X.prog X.w) X.A f Q E s :=
  wpAny_mono h (fun _ _ z => z) fun e s z => (hno e s z).elim
def trCall (sp : Sp) (t : TA) : TEr := fun σ H Q E => t σ H fun vs H1 => sp (vs ++ []) H1 Q fun cls _ H2 => E cls σ H2
theorem pr_call {k j : Nat} {ps : List Str} {sp : Sp} {x : Str} {p : Pos} {es : List Expr} {ta : TA} (hno : ∀ e s, X.xe e s → False) (h : HasE X.prog X.w X.K X.mg X.base j x ps sp) (hr : Room k X.A) (hg : Gl X x) (ha : PA X (e :: es) ta) (hj : j ≤ k := by decide) (hdb : (x == ("__debug__" : Str)) = false := by decide)
    (he : starEach (e :: es) X.env = (false, eval e X.env) :: starEach es X.env := by rfl) (hpl : (backTo pos (starEach es X.env)).any (·.1) = false := by rfl) : PEr X (.Call (.Name x p) (e :: es) [] pos) (trCall sp ta) := by
  intro pins s σ H Q E I hw
  obtain ⟨f, fd, F, b, kp, m⟩ := h
  refine wpAny_Call_Name_kw (ld_glob I hg m ?_ hdb)
  refine PySem.W.callWith_K (h₀ := X.base) I.ok.mod.kin kp (wp_nox hno (thn (ha pos pins s σ H _ I hw) fun us s1 hu => ?_)) he hpl
  obtain ⟨vs, H1, I1, r1, q1⟩ := hu
  refine ⟨I1.kIn, ?_⟩
  have r2 : Vals (vs ++ []) (us ++ []) := r1.append .nil
  have hl : (us ++ []).length = ps.length := by rw [← r2.length]; exact F.len _ _ _ _ q1
  show wpAny _ _ (call (.ref f) ([] ++ us)) _ _ _
  rw [List.nil_append]
  refine wpAny_call (codeAny_mono (F.run X.A X.stack s1 H1 ⟨us, []⟩ (us ++ []) (vs ++ []) Q _ (hr.mono hj) I1.env0 (b s1 us I1.kIn hl) r2 q1) fun r s' hq => ?_)
  cases r with
  | error e =>
    obtain ⟨ea, cls, a0, H', B, rfl, os, bare, un, hok, fl, cov, qE⟩ := hq
    exact ⟨ea, cls, a0, σ, H1, H', s1, B, rfl, I1, os, bare, un, hok, fl, cov, qE⟩
  | ok fl =>
    cases fl with
    | ret u => exact I1.after hq
    | next => exact False.elim hq
    | brk => exact False.elim hq
    | cont => exact False.elim hq
def trDrop (t : TEr) : TSr := fun D E σ H => t σ H (fun _ H1 => D.nx σ H1) E
theorem psr_expr (he : PEr X e te) (hs : swapsWith e none pos.line X.env = pure false := by rfl) : PSr X (.Expr e pos) (trDrop te) := by
  intro pins s σ H D E I h
  exact wpAny_Expr_any (thn (he pins s σ H _ E I h) fun v s1 ⟨x, H1, I1, r1, q1⟩ => ⟨σ, H1, I1, q1⟩) I.quiet hs
def trIf (tc : TT) (t u : TSr) : TSr := fun D E σ H => tc σ H fun b H1 => if b = true then t D E σ H1 else u D E σ H1
theorem psr_if (hno : ∀ e s, X.xe e s → False) (hc : PT X c tc) (ha : PSsr X a t) (hb : PSsr X b u) : PSr X (.If c a b pos) (trIf tc t u) := by
  intro pins s σ H D E I h
  refine wpAny_If (wp_nox hno (thn (hc pins s σ H _ I h) fun d s1 hd => ?_))
  obtain ⟨H1, I1, q1⟩ := hd
  cases d with
  | true => exact ha pins s1 σ H1 D E I1 q1
  | false => exact hb pins s1 σ H1 D E I1 q1
theorem pssr_one (h : PSr X st t) : PSsr X [st] t := by
  intro pins s σ H D E I hw
  refine wpAny_execs_cons (thn (h pins s σ H D E I hw) fun f s1 q => ?_)
  cases f with
  | next => exact wpAny_execs_nil q
  | ret v => exact q
  | brk => exact q
  | cont => exact q
def tHand (K : PySem.W.Frag) : List (Value × TS) → Value → TS
  | [], _ => fun _ _ _ => False
  | (c, t) :: r, cls => fun D σ H => ∃ b, PySem.W.exmOne K cls c = some b ∧ if b = true then t D σ H else tHand K r cls D σ H
/-- the clauses' rules -/
inductive PHs (X : Cx) : List ExceptHandler → List (Value × TS) → Prop
  | nil : PHs X [] []
  | cons {x : Str} {np hp : Pos} {b0 : Stmt} {suite : List Stmt} {cv : Value} {tt : TS} {hs : List ExceptHandler} {L : List (Value × TS)} : Gl X x → X.mg x = some cv → (x == ("__debug__" : Str)) = false → (∀ ea, PSs (Cx.within X ea) (b0 :: suite) tt) → PHs X hs L →
      PHs X (.ExceptHandler (some (.Name x np)) none (b0 :: suite) hp :: hs) ((cv, tt) :: L)
theorem hand_by (hno : ∀ e s, X.xe e s → False) {pins : List (Addr × Obj)} {σ : St} {H0 H' : Hp} {s0 s : Shared} {B : Heap} {ea : Addr} {cls a0 : Value} {D : Ends} (I0 : Inv X pins σ H0 s0) (os : s.os = s0.os) (bare : AllBare s.gens)
    (un : Un (frs X.stack) [] H0 H' s0.heap s.heap) (hok : HOk X.prog X.w H' s.heap) (fl : Heap.FlyingW B X.stack ea cls a0 s.heap) (cov : Cov (frs X.stack) s0.heap s.heap H' B) :
    ∀ {hs : List ExceptHandler} {L : List (Value × TS)}, PHs X hs L → tHand X.K L cls D σ H' → wpAny (model X.prog X.w) X.A (handleBy (.ref ea) X.env hs) (SP X pins D) X.xe s
  | _, _, .nil, h => h.elim
  | _, _, .cons (x := x) (cv := cv) hg hm hd hsu hr, h => by
    obtain ⟨b, hb, h⟩ := h
    have I : Inv X pins σ H' s := I0.call' (ch := []) os un hok bare fun b z => absurd z (by simp)
    have IW : Inv (Cx.within X ea) pins σ H' s := inv_within I
    obtain ⟨oe, hoe, hoc⟩ := fl.there
    have LT : PySem.W.Looks (model X.prog X.w) s.heap (typeOf (.ref ea)) cls := hoc ▸ (PySem.W.Looks.ld hoe).andThen .now
    refine wpAny_handleBy_cons (codeAny_handlers_test (ld_glob (X := Cx.within X ea) IW hg hm ?_ hd)) (by intro q; cases q)
    refine (PySem.W.exm_one (K := X.K) I.kIn LT hb).here ?_
    cases b with
    | true =>
      rw [if_pos rfl] at h
      refine codeAny_handlers_suite (lands_againW fl fun h2 fl2 up => ?_)
      obtain ⟨z1, z2, _⟩ := stay_ok I0.stack I0.stkFree un hok cov up fl2.1
      have I2 : Inv (Cx.within X ea) pins σ H' { s with heap := h2 } := inv_within (I0.call' (s' := { s with heap := h2 }) (ch := []) os z1 z2 bare fun b z => absurd z (by simp))
      refine wpAny_mono (hsu ea pins _ σ H' D I2 h) (fun f s3 q => ?_) fun e s3 q => (hno e s3 q).elim
      exact sp_without I0.ok q
    | false =>
      rw [if_neg Bool.false_ne_true] at h
      exact hand_by hno I0 os bare un hok fl cov hr h
def tTry (K : PySem.W.Frag) (tb : TSr) (L : List (Value × TS)) : TS := fun D σ H => tb D (fun cls σ' H' => tHand K L cls D σ' H') σ H
theorem ps_try {h0 : ExceptHandler} {hs : List ExceptHandler} {body : List Stmt} {L : List (Value × TS)} (hno : ∀ e s, X.xe e s → False) (O : X.stack = X.env :: X.outer ∧ X.env.frame = some X.env.locals) (hb : PSsr X body t) (hh : PHs X (h0 :: hs) L) : PS X (.Try body (h0 :: hs) [] [] pos) (tTry X.K t L) := by
  intro pins s σ H D I h
  refine wpAny_Try_except (wpAny_mono (hb pins s σ H D _ I h) (fun f s1 q => ?_) fun e s1 q => ?_)
  · cases f with
    | next => exact wpAny_execs_nil q
    | ret v => exact q
    | brk => exact q
    | cont => exact q
  · obtain ⟨ea, cls, a0, σ1, H0, H1, s0, B, rfl, I0, os, bare, un, hok, fl, cov, qE⟩ := q
    have fl' := fl
    rw [O.1] at fl'
    have hfr : X.A.frames = some (X.env :: X.outer) := by rw [I0.ok.frames, O.1]
    refine wpAny_looks_onW hfr O.2 fl' fun h4 he4 up4 => wpAny_landsW he4 fun h5 fl5 up5 => ?_
    rw [← O.1] at fl5
    obtain ⟨z1, z2, z3⟩ := stay_ok I0.stack I0.stkFree un hok cov (up4.trans up5) fl5.1
    exact hand_by (s := { s1 with heap := h5 }) hno I0 os bare z1 z2 fl5 z3 hh qE
end
end L3
namespace L3
open PySem PySem.Spec L2
open PyProof.Rows hiding St
theorem noteFrame_env {x : Value} {u v : Env} (h : u.frame = v.frame) : noteFrame x u = noteFrame x v := by unfold noteFrame PySem.frameOf; rw [h]
/-- an exception that is on its way, its last station by fl -/
structure OnWay (B : Heap) (l : List Env) (ea : Addr) (cls a0 fl : Value) (h : Heap) : Prop where
  st : B.StaysIn h
  new : B.get? ea = none
  fr : h.FunFrames B l
  tr : h.TracedAtW B ea cls a0 fl
section
variable {M : Model} {A : Around} {E : Value → Shared → Prop} {s : Shared} {B : Heap} {l outer : List Env} {env : Env} {ea L : Addr} {cls a0 fl : Value} {Q : Unit → Shared → Prop}
theorem onway_flight (R : OnWay B l ea cls a0 fl s.heap) (fr : Option Addr) (k : ∀ g, OnWay B l ea cls a0 (fr.elim .none fun f => rawInt f) g → s.heap.UpToSlots g → Q () { s with heap := g }) : wpAny M A (setFlight (.ref ea) fr) Q E s := by
  obtain ⟨st, new, hl, oe, vs, T, oT, ts, he, hc, hd, h1, nT, neT, hT, dT, h3⟩ := R
  have lt3 : 3 < ts.size := (Array.getElem?_eq_some_iff.mp h3).1
  have same : ∀ b, b ≠ T → (s.heap.update T (Obj.mapFields (·.setIfInBounds 3 (fr.elim Value.none fun f => rawInt f)))).get? b = s.heap.get? b := fun b hb => Heap.get?_update_other _ _ (Ne.symm hb)
  have nrec : ∀ b o, s.heap.get? b = some o → (∀ ws, o.data ≠ .fields ws) → b ≠ T := fun b o hb hn z => by
    subst z; rw [hT] at hb; cases hb; exact hn ts dT
  unfold setFlight
  refine wpAny_bind (wpAny_field he hd h1 ?_)
  rw [if_pos (by simp : (Value.ref T != Value.none) = true)]
  refine wpAny_setField hT dT lt3 (k _ ⟨fun b o z => ?_, new, ?_, ?_⟩ fun b o z y => ⟨o.slots, ?_⟩)
  · exact (same b fun y => by subst y; rw [nT] at z; cases z).trans (st b o z)
  · exact hl.of_keeps fun b o z y => ⟨o, (same b (nrec b o z y)).trans z, rfl⟩
  · exact ⟨oe, vs, T, _, _, (same ea (Ne.symm neT)).trans he, hc, hd, h1, nT, neT, Heap.get?_update_self _ hT (Obj.isFreed_of_fields (Obj.data_mapFields dT _)), Obj.data_mapFields dT _, by simp [lt3]⟩
  · exact (same b (nrec b o z y)).trans z
theorem onway_pass {α : Type} {what : String} {Q : α → Shared → Prop} (R : OnWay B l ea cls a0 fl s.heap) (k : ∀ fl' g, OnWay B l ea cls a0 fl' g → s.heap.UpToSlots g → E (.ref ea) { s with heap := g }) : wpAny M A (PySem.passOn what (.ref ea) env : Sem α) Q E s := by
  obtain ⟨_, _, _, oe, vs, T, oT, ts, he, hc, hd, h1, _⟩ := id R
  unfold PySem.passOn
  refine wpAny_bind (wpAny_field he hd h1 ?_)
  rw [if_neg (by simp : ¬ ((Value.ref T == Value.none) = true))]
  first
    | exact wpAny_bind (wpAny_pure (wpAny_bind (onway_flight R _ fun g x y => wpAny_throw (k _ g x y))))
    | exact wpAny_bind (onway_flight R _ fun g x y => wpAny_throw (k _ g x y))
theorem onway_leave (hfr : A.frames = some (env :: outer)) (hf : env.frame = some L) (R : OnWay B (env :: outer) ea cls a0 fl s.heap) (k : ∀ g, Heap.FlyingW B outer ea cls a0 g → s.heap.UpToSlots g → Q () { s with heap := g }) : wpAny M A (leaving env (.ref ea)) Q E s := by
  obtain ⟨st, new, hl, oe, vs, T, oT, ts, he, ⟨hc, h0⟩, hd, h1, nT, neT, hT, dT, h3⟩ := R
  by_cases z : fl = rawInt L
  · subst z
    unfold leaving
    refine wpAny_bind (wpAny_noteFrame_againW hf (base := B) (cls := cls) (a0 := a0) ⟨oe, vs, T, oT, ts, he, ⟨hc, h0⟩, hd, h1, nT, neT, hT, dT, h3⟩ ?_)
    refine wpAny_landsW (base := B) (l := env :: outer) (L := L) (cls := cls) (a0 := a0) ⟨st, new, hl, oe, vs, T, oT, ts, he, ⟨hc, h0⟩, hd, h1, nT, neT, hT, dT, h3⟩ fun g y up => ?_
    obtain ⟨y1, y2, ⟨_, _, y3⟩, y4⟩ := y
    exact k g ⟨y1, y2, y3, y4⟩ up
  · subst hc
    have same : ∀ b, b ≠ T → (s.heap.update T (Obj.mapFields (·.setIfInBounds 3 Value.none))).get? b = s.heap.get? b := fun b hb => Heap.get?_update_other _ _ (Ne.symm hb)
    have nrec : ∀ b o, s.heap.get? b = some o → (∀ ws, o.data ≠ .fields ws) → b ≠ T := fun b o hb hn z => by
      subst z; rw [hT] at hb; cases hb; exact hn ts dT
    unfold leaving noteFrame
    simp only [hf]
    refine wpAny_bind (wpAny_bind (wpAny_field he hd h1 ?_))
    rw [if_pos (by simp : (Value.ref T != Value.none) = true)]
    refine wpAny_bind (wpAny_field hT dT h3 ?_)
    rw [if_neg (by simpa using z : ¬ ((fl == rawInt L) = true))]
    refine wpAny_bind (wpAny_setField hT dT (Array.getElem?_eq_some_iff.mp h3).1 ?_)
    refine wpAny_newEntryW hfr (hl.of_keeps fun b o e n => ⟨o, (same b (nrec b o e n)).trans e, rfl⟩) hf ((same ea (Ne.symm neT)).trans he) (fun b o e => (same b fun y => by subst y; rw [nT] at e; cases e).trans (st b o e)) new hd (Array.getElem?_eq_some_iff.mp h1).1 h0 fun g y => ?_
    obtain ⟨y1, ⟨_, _, y2⟩, y3, y4⟩ := y
    exact k g ⟨y1, new, y2, y3⟩ fun b o e n => y4 b o ((same b (nrec b o e n)).trans e) n
end
/-- behind a def's frame that is left, told from the def's entry -/
theorem left_ok0 {X : Cx} {pins : List (Addr × Obj)} {σ : St} {H' : Hp} {s : Shared} {h2 B : Heap} (O : Own X) (I : Inv X pins σ H' s) (cov : Cov (frs X.stack) X.s₀.heap s.heap H' B) (up : s.heap.UpToSlots h2) (st : B.StaysIn h2) :
    Un (frs X.outer) [] X.H₀ H' X.s₀.heap h2 ∧ HOk X.prog X.w H' h2 ∧ Cov (frs X.outer) X.s₀.heap h2 H' B := by
  have u0 := I.base
  rw [O.ex] at u0
  have nx : ∀ b : Addr, b ∉ ([] : List Addr) := fun b z => by simp at z
  have old : ∀ b o, X.s₀.heap.get? b = some o → b ∉ X.fs → ∃ o1, s.heap.get? b = some o1 ∧ B.get? b = some o1 := fun b o e hb => by
    obtain ⟨o', e'⟩ := u0.there b o e (nx b)
    exact ⟨o', e', cov b o' e' (O.low I e hb) (.inl ⟨o, e⟩)⟩
  have trk : ∀ b u, H' b = some u → ∃ o1, s.heap.get? b = some o1 ∧ B.get? b = some o1 := fun b u e => by
    obtain ⟨o1, e1⟩ := obj_there (I.hok b u e)
    refine ⟨o1, e1, cov b o1 e1 (fun hb => ?_) (.inr (by rw [e]; simp))⟩
    rw [I.stkFree b hb] at e; cases e
  refine ⟨⟨fun b o e n hb _ => ?_, fun b o e n hb _ => ?_, u0.free, fun b o e _ => ?_, u0.tups, u0.frzs, u0.tbls⟩, fun b u e => ?_, fun b o e hb hc => ?_⟩
  · obtain ⟨o1, e1, e2⟩ := old b o e hb
    have e3 := u0.keep b o e n hb (nx b)
    rw [e1] at e3; cases e3
    exact st _ _ e2
  · obtain ⟨sl, e1⟩ := u0.slot b o e n hb (nx b)
    obtain ⟨_, o', ho', hd⟩ := I.ok.funs.mem hb
    rw [e] at ho'; cases ho'
    obtain ⟨sl3, e3⟩ := up b _ e1 hd
    exact ⟨sl3, e3⟩
  · by_cases hb : b ∈ X.fs
    · obtain ⟨sl, q1⟩ := u0.slot b o e (I.ok.frf b hb) hb (nx b)
      obtain ⟨_, o2, ho2, hd⟩ := I.ok.funs.mem hb
      rw [e] at ho2; cases ho2
      obtain ⟨sl3, q3⟩ := up b _ q1 hd
      exact ⟨_, q3⟩
    · obtain ⟨o1, _, e2⟩ := old b o e hb
      exact ⟨o1, st _ _ e2⟩
  · refine (I.hok b u e).stay (fun c v hc q => ?_) (fun _ q => q) fun _ _ q => q
    have : ∃ u', H' c = some u' := by
      rcases hc with z | z
      · exact ⟨u, by rw [z]; exact e⟩
      · exact ⟨_, z⟩
    obtain ⟨u', hu'⟩ := this
    obtain ⟨o1, q1, q2⟩ := trk c u' hu'
    rw [q] at q1; cases q1
    exact st _ _ q2
  · rcases hc with ⟨o', e'⟩ | hc
    · obtain ⟨o1, _, e2⟩ := old b o' e' hb
      have := st _ _ e2
      rw [e] at this; cases this
      exact e2
    · cases hq : H' b with
      | none => exact absurd hq hc
      | some u =>
        obtain ⟨o1, _, e2⟩ := trk b u hq
        have := st _ _ e2
        rw [e] at this; cases this
        exact e2
section
variable {P : Program} {w : World} {K : PySem.W.Frag} {mg : Str → Option Value} {base : Heap} {N : List Str} {qual : Str} {sc0 : Scope} {f : Addr} {cd : Value} {A : Around} {outer : List Env} {sx : Shared} {Hx : Hp} {E : XK}
variable {N' : List Str} {ix : List (Option Nat)} {scope : Scope} {cl : List (Str × Addr)} {pins pl : List (Addr × Obj)} {σ : St} {H : Hp} {s : Shared} {fp : List Addr}
/-- what the element raises goes on out of the def -/
theorem comp_err {X : Cx} (hX : X = cxE P w K mg base N qual sc0 f cd A outer sx Hx E) {EB : Value → Hp → Prop} {Q : Value → Shared → Prop} {acc e : Value} {s' : Shared} (S : CompSc X N' ix scope cl) (I : Inv X pins σ H s) (hf : ∀ b ∈ fp, FpOk X pins H b) (hlt : ∀ b ∈ fp, b < s.heap.objs.size)
    (hq : ∀ cls H', EB cls H' → E cls none H') (x : XP (blk X N' scope cl pins fp s H) pl (fun cls _ H' => EB cls H') e s') :
    notedBy (model X.prog X.w) X.A (compEnvC scope cl (s.heap.push emptyL).objs.size X.env) (fun e s' => compPost (model X.prog X.w) X.A X.xe none Q acc (s.heap.push emptyL).objs.size (.error e) s') e s' := by
  subst hX
  obtain ⟨ea, cls, a0, σ1, H0, H', s0, B, rfl, J, os, bare, un, hok, fl, cov, q⟩ := x
  have eC : (s.heap.push emptyL).objs.size = s.heap.objs.size + 1 := Heap.size_push ..
  have nx : ∀ b : Addr, b ∉ ([] : List Addr) := fun b z => by simp at z
  have O : Own (cxE P w K mg base N qual sc0 f cd A outer sx Hx E) := own_of
  show wpAny _ _ (noteFrame (.ref ea) (compEnvC scope cl _ (cxE P w K mg base N qual sc0 f cd A outer sx Hx E).env)) _ _ s'
  rw [noteFrame_env (u := compEnvC scope cl (s.heap.push emptyL).objs.size (cxE P w K mg base N qual sc0 f cd A outer sx Hx E).env) (v := (cxE P w K mg base N qual sc0 f cd A outer sx Hx E).env) rfl]
  refine wpAny_looks_onW (outer := outer) I.ok.frames rfl fl fun h4 he4 up4 => ?_
  obtain ⟨z1, z2, z3⟩ := stay_ok J.stack J.stkFree un hok cov up4 he4.1
  have hCs : (s.heap.push emptyL).objs.size ∉ frs (cxE P w K mg base N qual sc0 f cd A outer sx Hx E).stack := fun hb => by
    obtain ⟨_, o, ho, _⟩ := J.ok.funs.mem hb
    exact Nat.lt_irrefl _ (Heap.lt_size (h := s.heap.push emptyL) ho)
  obtain ⟨m, hn, _⟩ := J.loc
  have hn' : s0.heap.Ns (s.heap.push emptyL).objs.size m := hn
  have fC0 : H0 (s.heap.push emptyL).objs.size = none := J.free
  obtain ⟨oC, _, _, hoC, _⟩ := id hn'
  have fC : H' (s.heap.push emptyL).objs.size = none := z1.free _ oC hoC fC0 (nx _)
  have bC : ∃ o, B.get? (s.heap.push emptyL).objs.size = some o := ⟨oC, z3 _ _ (z1.keep _ oC hoC fC0 hCs (nx _)) hCs (.inl ⟨_, hoC⟩)⟩
  refine ⟨m, hn'.at' fun o e => z1.keep _ o e fC0 hCs (nx _), fun h5 sb cenv hcenv => ?_⟩
  have nB : ∀ {b : Addr}, B.get? b = none → b ≠ (s.heap.push emptyL).objs.size := fun e z => by
    obtain ⟨o, ho⟩ := bC
    rw [z, ho] at e; cases e
  have stB : (PySem.W.hideAll B [(s.heap.push emptyL).objs.size]).StaysIn B := fun b o e => PySem.W.of_hideAll _ e
  have R5 : OnWay (PySem.W.hideAll B [(s.heap.push emptyL).objs.size]) ((cxE P w K mg base N qual sc0 f cd A outer sx Hx E).env :: outer) ea cls a0 (rawInt (cxE P w K mg base N qual sc0 f cd A outer sx Hx E).env.locals) h5 := by
    obtain ⟨f1, f2, f3, oe, vs, T, oT, ts, a1, a2, a3, a4, a5, a6, a7, a8⟩ := PySem.W.heldW_base stB he4
    obtain ⟨_, g2, g3, oe', vs', T', oT', ts', b1, b2, b3, b4, b5, b6, b7, b8⟩ := he4
    have nea := nB g2
    rw [a1] at b1; cases b1
    rw [a3] at b3; cases b3
    rw [a4] at b4; cases b4
    have nT := nB b5
    refine ⟨fun b o e => ?_, f2, ?_, oe, vs, T, oT, ts, (sb.2 _ nea).trans a1, a2, a3, a4, a5, a6, (sb.2 _ nT).trans a7, a8⟩
    · have hb : b ≠ (s.heap.push emptyL).objs.size := fun z => by
        rw [z, PySem.W.hideAll_none _ (List.mem_singleton.mpr rfl)] at e; cases e
      exact (sb.2 b hb).trans (f1 b o e)
    · have : ∀ (l : List Env), h4.FunFrames B l → h5.FunFrames (PySem.W.hideAll B [(s.heap.push emptyL).objs.size]) l := by
        intro l
        induction l with
        | nil => intro _; trivial
        | cons u r ih =>
          rintro ⟨c1, ⟨L, o, c2, c3, c4, c5⟩, c6⟩
          exact ⟨c1, ⟨L, o, c2, PySem.W.fresh_of_stays stB c3, (sb.2 _ (nB c3)).trans c4, c5⟩, ih c6⟩
      exact this _ g3
  have u5 : Un (frs (cxE P w K mg base N qual sc0 f cd A outer sx Hx E).stack) (s.heap.objs.size :: fp) H H' (s.heap.push emptyL) h4 := Un.trans J.base (z1.mono (fun _ y => y) fun _ y => absurd y (nx _))
  have nC : ∀ {b : Addr} {o : Obj}, (s.heap.push emptyL).get? b = some o → b ≠ (s.heap.push emptyL).objs.size := fun e => Nat.ne_of_lt (Heap.lt_size e)
  have hk5 : HOk P w H' h5 := fun b o e => by
    refine (z2 b o e).stay (fun c v hc q => (sb.2 c ?_).trans q) (fun _ q => q) fun _ _ q => q
    rintro rfl
    rcases hc with hc | hc
    · rw [← hc, fC] at e; cases e
    · rw [fC] at hc; cases hc
  have I3 : Inv (cxE P w K mg base N qual sc0 f cd A outer sx Hx E) pins σ H { s with heap := s.heap.push emptyL } := I.kept (t' := s.toks) fun b o e => Heap.get?_push_of_some _ e
  have hDf : FpOk (cxE P w K mg base N qual sc0 f cd A outer sx Hx E) pins H s.heap.objs.size := I.fpOk (Nat.le_refl _) (I.hok.fresh (Nat.le_refl _))
  have I5 : Inv (cxE P w K mg base N qual sc0 f cd A outer sx Hx E) pins σ H' { s' with heap := h5 } := by
    refine I3.call' (ch := s.heap.objs.size :: fp) (os.trans J.os) ⟨fun b o e n' hb hx => (sb.2 b (nC e)).trans (u5.keep b o e n' hb hx), fun b o e n' hb hx => ?_, u5.free, fun b o e hx => ?_, u5.tups, u5.frzs, u5.tbls⟩ hk5 bare ?_
    · obtain ⟨sl, q⟩ := u5.slot b o e n' hb hx
      exact ⟨sl, (sb.2 b (nC e)).trans q⟩
    · obtain ⟨o', q⟩ := u5.there b o e hx
      exact ⟨o', (sb.2 b (nC e)).trans q⟩
    · refine fp_step (H := H) fun b hb => ?_
      rcases List.mem_cons.mp hb with rfl | hb
      · exact hDf
      · exact hf b hb
  have cov5 : Cov (frs (cxE P w K mg base N qual sc0 f cd A outer sx Hx E).stack) sx.heap h5 H' (PySem.W.hideAll B [(s.heap.push emptyL).objs.size]) := fun b o e hb hc => by
    have lo : ∀ {o'}, sx.heap.get? b = some o' → b < s.heap.objs.size ∧ b ∉ s.heap.objs.size :: fp := fun e' => by
      have l1 : b < sx.heap.objs.size := Heap.lt_size e'
      have l2 : sx.heap.objs.size ≤ s.heap.objs.size := I.sz
      refine ⟨Nat.lt_of_lt_of_le l1 l2, fun z => ?_⟩
      rcases List.mem_cons.mp z with z | z
      · rw [z] at l1; exact absurd (Nat.lt_of_lt_of_le l1 l2) (Nat.lt_irrefl _)
      · rcases (hf b z).2.2.2.1 with y | y
        · exact nx _ y
        · exact absurd (Nat.lt_of_lt_of_le l1 y) (Nat.lt_irrefl _)
    have nb : b ≠ (s.heap.push emptyL).objs.size := fun z => by
      rcases hc with ⟨o', e'⟩ | hc
      · have := (lo e').1
        rw [z, eC] at this
        exact absurd (Nat.lt_trans (Nat.lt_succ_self _) this) (Nat.lt_irrefl _)
      · rw [z, fC] at hc; exact hc rfl
    have e4 : h4.get? b = some o := (sb.2 b nb).symm.trans e
    refine PySem.W.hideAll_get _ (z3 b o e4 hb ?_) (fun z => nb (List.mem_singleton.mp z))
    rcases hc with ⟨o', e'⟩ | hc
    · have u0 := I3.base
      rw [O.ex] at u0
      obtain ⟨o1, e1⟩ := u0.there b o' e' (nx b)
      obtain ⟨o2, e2⟩ := J.base.there b o1 e1 (lo e').2
      exact .inl ⟨o2, e2⟩
    · exact .inr hc
  refine onway_pass R5 fun fl' h6 R6 up6 => ?_
  show wpAny _ _ (leaving _ (.ref ea)) _ _ _
  refine onway_leave (outer := outer) I.ok.frames rfl R6 fun h7 fl7 up7 => ?_
  obtain ⟨y1, y2, y3⟩ := left_ok0 O I5 cov5 (up6.trans up7) fl7.1
  exact ⟨ea, cls, a0, H', _, rfl, I5.os, bare, y1, y2, fl7, y3, hq cls H' q⟩
end
def CompAtE (J : It) (ix : List (Option Nat)) (g : TG) (tt : TT) (te : TEr) (E : Value → Hp → Prop) (σ : St) (Q : VK) (H1 : Hp) : Prop := ∃ W : Nat → Nat → List V → Hp → Prop, (∃ m, W 0 m [] H1) ∧ ∀ i m ys H, W i m ys H →
  (J.stop i H ∧ ys.length ≤ sizeLine ∧ ∀ p, H p = none → Q (.ref p) (upd H p (.lst ys))) ∨
  (J.go i H ∧ ys.length ≤ sizeLine ∧ ∃ N : List V → Hp → Prop, (∀ zs H', N zs H' → ∃ m', m' < m ∧ W (i + 1) m' zs H') ∧
    ∀ x H', J.yld i H x H' → g x (slots ix σ) H' fun σ2 H2 => Ext (slots ix σ) σ2 ∧ tt σ2 H2 fun ok H3 => if ok = true then te σ2 H3 (fun y H4 => N (ys ++ [y]) H4) (fun cls _ H4 => E cls H4) else N ys H3)
def tCompE (wi : TI) (ix : List (Option Nat)) (g : TG) (tt : TT) (te : TEr) (E : XK) : TE := fun σ H Q => wi σ H fun J H1 => CompAtE J ix g tt te (fun cls H' => E cls none H') σ Q H1
section
variable {X : Cx} {N' : List Str} {ix : List (Option Nat)} {scope : Scope} {cl : List (Str × Addr)} {pins : List (Addr × Obj)} {σ : St} {H : Hp} {s : Shared} {fp : List Addr}
theorem thn0 {α : Type} {t : Sem α} {Q Q' : α → Shared → Prop} {M : Model} {A : Around} {E : Value → Shared → Prop} {s : Shared} (h : wpAny M A t Q (fun _ _ => False) s) (hQ : ∀ a s, Q a s → Q' a s) : wpAny M A t Q' E s := wpAny_mono h hQ fun _ _ x => x.elim
theorem comp_runE {elt tg iter : Expr} {ifs : List Expr} {pos : Pos} {g : TG} {tt : TT} {te : TEr} {J : It} {it : Addr} {tn : Nat → Heap → Prop} {s4 : Shared} {Q : VK} {R : Result → Shared → Prop} {EB : Value → Hp → Prop}
    (hc : X.calm = true) (S : CompSc X N' ix scope cl) (I : Inv X pins σ H s) (T : Turn X.prog X.w X.K tg J fp it tn) (hf : ∀ b ∈ fp, FpOk X pins H b) (hlt : ∀ b ∈ fp, b < s.heap.objs.size)
    (hg : PG (blk X N' scope cl pins fp s H) tg g) (hif : PIf (blk X N' scope cl pins fp s H) ifs tt) (he : PEr (blk X N' scope cl pins fp s H) elt te)
    (J0 : Inv (blk X N' scope cl pins fp s H) [] (slots ix σ) H s4) (st0 : tn 0 s4.heap) (hD0 : s4.heap.get? s.heap.objs.size = some { cls := .type "list", data := .seq ([] : List Value).toArray 0 })
    (W : Nat → Nat → List V → Hp → Prop) (m0 : Nat) (w0 : W 0 m0 [] H)
    (turn : ∀ i m ys H, W i m ys H → (J.stop i H ∧ ys.length ≤ sizeLine ∧ ∀ p, H p = none → Q (.ref p) (upd H p (.lst ys))) ∨
      (J.go i H ∧ ys.length ≤ sizeLine ∧ ∃ N : List V → Hp → Prop, (∀ zs H', N zs H' → ∃ m', m' < m ∧ W (i + 1) m' zs H') ∧
        ∀ x H', J.yld i H x H' → g x (slots ix σ) H' fun σ2 H2 => Ext (slots ix σ) σ2 ∧ tt σ2 H2 fun ok H3 => if ok = true then te σ2 H3 (fun y H4 => N (ys ++ [y]) H4) (fun cls _ H4 => EB cls H4) else N ys H3))
    (hE : ∀ pl e s', XP (blk X N' scope cl pins fp s H) pl (fun cls _ H' => EB cls H') e s' → notedBy (model X.prog X.w) X.A (compEnvC scope cl (s.heap.push emptyL).objs.size X.env) (fun e s' => R (.error e) s') e s')
    (fin : ∀ (ys : List V) (Hz : Hp) (its : List Value) (k : Nat) (pl : List (Addr × Obj)) (s2 : Shared), Inv (blk X N' scope cl pins fp s H) pl (slots ix σ) Hz s2 → s2.heap.get? s.heap.objs.size = some { cls := .type "list", data := .seq its.toArray k } → Hz s.heap.objs.size = none →
      Vals ys its → ys.length ≤ sizeLine → (∀ p, Hz p = none → Q (.ref p) (upd Hz p (.lst ys))) → R (.ok .next) s2) :
    codeAny (model X.prog X.w) X.A (.compLoop (.ListComp elt [⟨tg, iter, ifs, 0⟩] scope pos) 0 (.ref it) (.ref s.heap.objs.size) (compEnvC scope cl (s.heap.push emptyL).objs.size X.env)) R s4 := by
  refine comp_loop (EE := fun e s' => ∃ pl, XP (blk X N' scope cl pins fp s H) pl (fun cls _ H' => EB cls H') e s') (fun n s' => ∃ (i : Nat) (ys : List V) (Hz : Hp) (its : List Value) (k : Nat), Inv (blk X N' scope cl pins fp s H) [] (slots ix σ) Hz s' ∧ tn i s'.heap ∧ (∀ b ∈ fp, Hz b = none) ∧
    s'.heap.get? s.heap.objs.size = some { cls := .type "list", data := .seq its.toArray k } ∧ Hz s.heap.objs.size = none ∧ Vals ys its ∧ W i n ys Hz) (fun e s' z => by obtain ⟨pl, z⟩ := z; exact hE pl e s' z) ?_ m0
    ⟨0, [], H, [], 0, J0, st0, fun b hb => (hf b hb).1, hD0, I.hok.fresh (Nat.le_refl _), .nil, w0⟩
  rintro n s' ⟨i, ys, Hz, its, k, J1, st1, fz, hD, hz, rv, w1⟩
  have own := blk_own (fp := fp) (N' := N') S I hz
  have J2 : Inv (blk X N' scope cl pins fp s H) [(s.heap.objs.size, { cls := .type "list", data := .seq its.toArray k })] (slots ix σ) Hz s' := J1.pins_of fun p hp => by
    have e : p = (s.heap.objs.size, { cls := .type "list", data := .seq its.toArray k }) := by simpa using hp
    subst e
    exact ⟨hD, hz, own.2.1, own.2.2.1, fun v z => nomatch z⟩
  have atD : ∀ {pl : List (Addr × Obj)} {σ' : St} {H' : Hp} {s'' : Shared}, Inv (blk X N' scope cl pins fp s H) ([(s.heap.objs.size, { cls := .type "list", data := .seq its.toArray k })] ++ pl) σ' H' s'' →
      s''.heap.get? s.heap.objs.size = some { cls := .type "list", data := .seq its.toArray k } ∧ H' s.heap.objs.size = none := fun J' => by
    have q := J'.pin (s.heap.objs.size, { cls := .type "list", data := .seq its.toArray k }) (List.mem_append_right _ (List.mem_append_left _ (List.mem_cons_self ..)))
    exact ⟨q.1, q.2.1⟩
  have hlen := rv.length
  rcases turn i n ys Hz w1 with ⟨stop, hsz, q⟩ | ⟨go, hsz, N, hN, step⟩
  · refine thn0 (T.done (blk X N' scope cl pins fp s H) rfl rfl rfl hc i _ s' _ Hz (fun _ _ => False) J2 (blk_fp S I hf hlt fz) st1 stop) fun r s2 ⟨hr, J3⟩ => .inl ⟨hr, ?_⟩
    have d := atD (pl := []) J3
    exact fin ys Hz its k _ s2 J3 d.1 d.2 rv hsz q
  · refine thn0 (T.item (blk X N' scope cl pins fp s H) rfl rfl rfl hc i _ s' _ Hz (fun _ _ => False) J2 (blk_fp S I hf hlt fz) st1 go) fun r s1 ⟨u, hr, h4⟩ => .inr ⟨u, hr, thn0 h4 fun _ s5 ⟨x, H5, J5, r5, y5, st5, fr5⟩ => ?_⟩
    have J5' := J5.pinned (blk_fp S I hf hlt fr5) (T.obj _ _ st5)
    refine thn0 (hg _ s5 _ H5 x u _ J5' r5 (step x H5 y5)) fun _ s6 ⟨σ6, H6, J6, ext, q6⟩ => ?_
    refine thn0 (hif _ s6 σ6 H6 _ J6 q6) fun ok s7 ⟨H7, J7, q7⟩ => ?_
    have tnK : ∀ {σ' : St} {H' : Hp} {s'' : Shared}, Inv (blk X N' scope cl pins fp s H) ([(s.heap.objs.size, { cls := .type "list", data := .seq its.toArray k })] ++ pinsAt fp s5.heap) σ' H' s'' → tn (i + 1) s''.heap ∧ ∀ b ∈ fp, H' b = none := fun J' =>
      ⟨T.keep _ _ _ st5 fun b hb o e => (J'.pin (b, o) (List.mem_append_right _ (List.mem_append_right _ (mem_pinsAt hb e)))).1, fun b hb => by
        obtain ⟨o, e, _⟩ := T.obj _ _ st5 b hb
        exact (J'.pin (b, o) (List.mem_append_right _ (List.mem_append_right _ (mem_pinsAt hb e)))).2.1⟩
    cases ok with
    | false =>
      rw [if_neg Bool.false_ne_true] at q7
      obtain ⟨m', hm, w7⟩ := hN _ _ q7
      have d := atD J7
      have t := tnK J7
      refine .inr ⟨rfl, m', hm, i + 1, ys, H7, its, k, (J7.pins_of fun p hp => absurd hp (by simp)).weak ext.len.symm fun j v => ext.get j v, t.1, t.2, d.1, d.2, rv, w7⟩
    | true =>
      rw [if_pos rfl] at q7
      refine .inl ⟨rfl, wpAny_mono (he _ s7 σ6 H7 _ _ J7 q7) (fun xv s8 ⟨y, H8, J8, r8, q8⟩ => ?_) fun e s8 z => ⟨_, z⟩⟩
      obtain ⟨m', hm, w8⟩ := hN _ _ q8
      have d := atD J8
      have t := tnK J8
      have own8 := blk_own (fp := fp) (N' := N') S I d.2
      have J9 : Inv (blk X N' scope cl pins fp s H) [] (slots ix σ) H8 s8 := (J8.pins_of fun p hp => absurd hp (by simp)).weak ext.len.symm fun j v => ext.get j v
      refine wpAny_list_append_plain (hsz := by rw [List.size_toArray, ← hlen]; exact hsz) ⟨k, d.1⟩ fun h' hl' sb => ?_
      obtain ⟨k', hk'⟩ := hl'
      refine ⟨m', hm, i + 1, ys ++ [y], H8, its ++ [xv], k', J9.turned (t' := s8.toks) (fun b o hb e => (sb.2 b hb).trans e) own8.1 own8.2.1 own8.2.2.2.1 own8.2.2.2.2.1 own8.2.2.2.2.2,
        T.keep _ _ _ t.1 fun b hb o e => (sb.2 b (Nat.ne_of_lt (hlt b hb))).trans e, t.2, by simpa using hk', d.2, rv.append (.cons r8 .nil), w8⟩
end
section
variable {P : Program} {w : World} {K : PySem.W.Frag} {mg : Str → Option Value} {base : Heap} {N : List Str} {qual : Str} {sc0 : Scope} {f : Addr} {cd : Value} {A : Around} {outer : List Env} {sx : Shared} {Hx : Hp} {E : XK}
/-- a comprehension in a def that may raise -/
theorem pe_compE {X : Cx} (hX : X = cxE P w K mg base N qual sc0 f cd A outer sx Hx E) {N' : List Str} {ix : List (Option Nat)} {scope : Scope} {cl : List (Str × Addr)} {elt tg iter : Expr} {ifs : List Expr} {pos : Pos} {wi : TI} {g : TG} {tt : TT} {te : TEr}
    (hc : X.calm = true) (S : CompSc X N' ix scope cl) (hi : PI X tg iter wi)
    (body : ∀ (C : Addr) (ex : List Addr) (pn : List (Addr × Obj)) (s : Shared) (H : Hp), PG (cxComp X N' scope cl C ex pn s H) tg g ∧ PIf (cxComp X N' scope cl C ex pn s H) ifs tt ∧ PEr (cxComp X N' scope cl C ex pn s H) elt te)
    (hs : ∀ x, foldedSetIterable iter X.env x = pure x := by intro _; rfl) : PE X (.ListComp elt [⟨tg, iter, ifs, 0⟩] scope pos) (tCompE wi ix g tt te E) := by
  intro pins s σ H Q I h
  rw [eval_ListComp]
  refine wpAny_comprehension_free (use := none) rfl hs S.clos S.kind S.names (thn (hi pins s σ H _ I h) fun xv s1 h1 => thn h1 fun itv s2 h2 => ?_)
  obtain ⟨it, fp, tn, J, H2, rfl, I2, T, st2, f2, W, ⟨m0, w0⟩, turn⟩ := h2
  have hlt : ∀ b ∈ fp, b < s2.heap.objs.size := fun b hb => by obtain ⟨o, e, _⟩ := T.obj _ _ st2 b hb; exact Heap.lt_size e
  refine wpAny_newObj_type (wpAny_newFunctionEnv S.nocell (by intro y hy; simp at hy) (fun h₁ hns hsb => ?_) S.kind)
  dsimp only at hns hsb ⊢
  have hk1 : ∀ b o, (s2.heap.push emptyL).get? b = some o → h₁.get? b = some o := fun b o e => hsb.extBut b o (Nat.ne_of_lt (Heap.lt_size e)) (Heap.get?_push_of_some _ e)
  have J0 := comp_start (tk := s2.toks + ([] : List (Str × Value)).length) (N' := N') S I2 f2 hlt hns hk1
  obtain ⟨hg, hif, he⟩ := body (s2.heap.push emptyL).objs.size (s2.heap.objs.size :: fp) (X.pn ++ pins) { s2 with heap := s2.heap.push emptyL } H2
  have st4 : tn 0 h₁ := T.keep _ _ _ st2 fun b hb o e => hk1 b o (Heap.get?_push_of_some _ e)
  have hD4 : h₁.get? s2.heap.objs.size = some { cls := .type "list", data := .seq ([] : List Value).toArray 0 } := hk1 _ _ (Heap.get?_push_size _ rfl)
  have loop := comp_runE (iter := iter) (pos := pos) (Q := Q) (R := compPost (model X.prog X.w) X.A X.xe none (EP X pins σ Q) (.ref s2.heap.objs.size) (s2.heap.push emptyL).objs.size) hc S I2 T f2 hlt hg hif he J0 st4 hD4 W m0 w0 turn
    (fun pl e s' z => comp_err hX S I2 f2 hlt (fun _ _ y => y) z)
    fun ys Hz its k pl s5 J3 dD dz rv hsz q => by
      obtain ⟨m, hn, _⟩ := J3.loc
      exact ⟨m, hn, fun h2 sb => ⟨.ref _, _, comp_end I2 f2 rfl J3 sb dD dz rv hsz, rfl, q _ dz⟩⟩
  exact codeAny_compStart_list loop (T.self _ 0 _ _ _ st4 loop)
end
theorem compE_list {K : PySem.W.Frag} {a : Addr} {xs : List V} {ix : List (Option Nat)} {g : TG} {tt : TT} {te : TEr} {E : Value → Hp → Prop} {σ : St} {H : Hp} {Q : VK} (Pv : Nat → List V → Hp → Prop) (h0 : Pv 0 [] H) (hl : ∀ i ys H, Pv i ys H → SqL K H a xs)
    (hs : ∀ i x ys H, xs[i]? = some x → Pv i ys H → ys.length ≤ sizeLine ∧ g x (slots ix σ) H fun σ2 H2 => Ext (slots ix σ) σ2 ∧ tt σ2 H2 fun ok H3 => if ok = true then te σ2 H3 (fun y H4 => Pv (i + 1) (ys ++ [y]) H4) (fun cls _ H4 => E cls H4) else Pv (i + 1) ys H3)
    (hd : ∀ ys H, Pv xs.length ys H → ys.length ≤ sizeLine ∧ ∀ p, H p = none → Q (.ref p) (upd H p (.lst ys))) :
    CompAtE (Itl K a) ix g tt te E σ Q H := by
  refine ⟨fun i m ys H => m = xs.length - i ∧ i ≤ xs.length ∧ Pv i ys H, ⟨xs.length, by simp, Nat.zero_le _, h0⟩, ?_⟩
  rintro i m ys H ⟨rfl, hi, p⟩
  have q := hl i ys H p
  by_cases hlt : i < xs.length
  · have gx : xs[i]? = some xs[i] := List.getElem?_eq_getElem hlt
    obtain ⟨z, _⟩ := hs i _ ys H gx p
    refine .inr ⟨⟨xs, xs[i], q, gx⟩, z, Pv (i + 1), fun zs H' p' => ⟨xs.length - (i + 1), by (first | lia | omega), rfl, hlt, p'⟩, fun x H' y => ?_⟩
    obtain ⟨e, y⟩ := y
    subst e
    exact (hs i x ys _ (y xs q) p).2
  · obtain rfl : i = xs.length := by (first | lia | omega)
    obtain ⟨z, q'⟩ := hd ys H p
    exact .inl ⟨⟨xs, q, Nat.le_refl _⟩, z, q'⟩
theorem compE_range {lo : Int} {n : Nat} {ix : List (Option Nat)} {g : TG} {tt : TT} {te : TEr} {E : Value → Hp → Prop} {σ : St} {H : Hp} {Q : VK} (Pv : Nat → List V → Hp → Prop) (h0 : Pv 0 [] H)
    (hs : ∀ i ys H, i < n → Pv i ys H → ys.length ≤ sizeLine ∧ g (.int (lo + i)) (slots ix σ) H fun σ2 H2 => Ext (slots ix σ) σ2 ∧ tt σ2 H2 fun ok H3 => if ok = true then te σ2 H3 (fun y H4 => Pv (i + 1) (ys ++ [y]) H4) (fun cls _ H4 => E cls H4) else Pv (i + 1) ys H3)
    (hd : ∀ ys H, Pv n ys H → ys.length ≤ sizeLine ∧ ∀ p, H p = none → Q (.ref p) (upd H p (.lst ys))) :
    CompAtE (Itr lo n) ix g tt te E σ Q H := by
  refine ⟨fun i m ys H => m = n - i ∧ i ≤ n ∧ Pv i ys H, ⟨n, by simp, Nat.zero_le _, h0⟩, ?_⟩
  rintro i m ys H ⟨rfl, hi, p⟩
  by_cases hlt : i < n
  · obtain ⟨z, q⟩ := hs i ys H hlt p
    refine .inr ⟨hlt, z, Pv (i + 1), fun zs H' p' => ⟨n - (i + 1), by (first | lia | omega), rfl, hlt, p'⟩, fun x H' y => ?_⟩
    obtain ⟨rfl, rfl⟩ := y
    exact q
  · obtain rfl : i = n := by (first | lia | omega)
    obtain ⟨z, q⟩ := hd ys H p
    exact .inl ⟨Nat.le_refl _, z, q⟩
end L3
namespace L3
open PySem PySem.Spec L2
open PyProof.Rows hiding St
section
variable {P : Program} {w : World} {K : PySem.W.Frag} {mg : Str → Option Value} {base : Heap} {N : List Str} {qual : Str} {sc0 : Scope} {f : Addr} {cd : Value} {A : Around} {outer : List Env} {sx : Shared} {Hx : Hp} {E : XK}
theorem ps_setCompE {X : Cx} (hX : X = cxE P w K mg base N qual sc0 f cd A outer sx Hx E) {i : Nat} {y : Str} {N' : List Str} {ix : List (Option Nat)} {scope : Scope} {cl : List (Str × Addr)} {elt tg iter : Expr} {ifs : List Expr} {pos pos' spos : Pos} {wi : TI} {g : TG} {tt : TT} {te : TEr}
    (hN : X.N.Nodup) (hi' : X.N[i]? = some y) (hy : X.env.scope.names.lookup y = some .local)
    (hc : X.calm = true) (S : CompSc X N' ix scope cl) (hi : PI X tg iter wi)
    (body : ∀ (C : Addr) (ex : List Addr) (pn : List (Addr × Obj)) (s : Shared) (H : Hp), PG (cxComp X N' scope cl C ex pn s H) tg g ∧ PIf (cxComp X N' scope cl C ex pn s H) ifs tt ∧ PEr (cxComp X N' scope cl C ex pn s H) elt te)
    (hsw : swapsWith (.ListComp elt [⟨tg, iter, ifs, 0⟩] scope pos) (some (.Name y pos')) spos.line X.env = pure true := by rfl)
    (hs : ∀ x, foldedSetIterable iter X.env x = pure x := by intro _; rfl) : PS X (.Assign [.Name y pos'] (.ListComp elt [⟨tg, iter, ifs, 0⟩] scope pos) spos) (tAsg (tCompE wi ix g tt te E) (gName i)) := by
  intro pins s σ H D I h
  rw [exec_Assign_Name_used _ _ _ _ hsw]; refine wpAny_bind (wpAny_standAt (wpAny_bind ?_)); show wpAny _ X.A (do let _ ← comprehension (.ListComp elt [⟨tg, iter, ifs, 0⟩] scope pos) scope X.env _ (newList []) false (eval iter X.env) (some (assign (.Name y pos') X.env))) _ _ s
  have h' : tCompE wi ix g tt te E σ H (fun x H1 => D.nx (σ.set i (some x)) H1) := h
  refine wpAny_bind (wpAny_mono (wpAny_comprehension_free (use := some (assign (.Name y pos') X.env)) (Q := fun _ s' => SP X pins D .next s') rfl hs S.clos S.kind S.names
    (thn (hi pins s σ H _ I h') fun xv s1 h1 => thn h1 fun itv s2 h2 => ?_)) (fun _ s' hq => wpAny_pure (wpAny_pure hq)) fun _ _ e => e)
  obtain ⟨it, fp, tn, J, H2, rfl, I2, T, st2, f2, W, ⟨m0, w0⟩, turn⟩ := h2
  have hlt : ∀ b ∈ fp, b < s2.heap.objs.size := fun b hb => by obtain ⟨o, e, _⟩ := T.obj _ _ st2 b hb; exact Heap.lt_size e
  refine wpAny_newObj_type (wpAny_newFunctionEnv S.nocell (by intro y hy; simp at hy) (fun h₁ hns hsb => ?_) S.kind)
  dsimp only at hns hsb ⊢
  have hk1 : ∀ b o, (s2.heap.push emptyL).get? b = some o → h₁.get? b = some o := fun b o e => hsb.extBut b o (Nat.ne_of_lt (Heap.lt_size e)) (Heap.get?_push_of_some _ e)
  have J0 := comp_start (tk := s2.toks + ([] : List (Str × Value)).length) (N' := N') S I2 f2 hlt hns hk1
  obtain ⟨hg, hif, he⟩ := body (s2.heap.push emptyL).objs.size (s2.heap.objs.size :: fp) (X.pn ++ pins) { s2 with heap := s2.heap.push emptyL } H2
  have st4 : tn 0 h₁ := T.keep _ _ _ st2 fun b hb o e => hk1 b o (Heap.get?_push_of_some _ e)
  have hD4 : h₁.get? s2.heap.objs.size = some { cls := .type "list", data := .seq ([] : List Value).toArray 0 } := hk1 _ _ (Heap.get?_push_size _ rfl)
  have eC : (s2.heap.push emptyL).objs.size = s2.heap.objs.size + 1 := Heap.size_push ..
  have I3 : Inv X pins σ H2 { s2 with heap := s2.heap.push emptyL } := I2.kept (t' := s2.toks) fun b o e => Heap.get?_push_of_some _ e
  have fC := I3.fpOk (H' := H2) (Nat.le_refl _) (I3.hok.fresh (Nat.le_refl _))
  have loop := comp_runE (iter := iter) (pos := pos) (Q := fun x H1 => D.nx (σ.set i (some x)) H1) (R := compPost (model X.prog X.w) X.A X.xe (some (assign (.Name y pos') X.env)) (fun _ s' => SP X pins D .next s') (.ref s2.heap.objs.size) (s2.heap.push emptyL).objs.size) hc S I2 T f2 hlt hg hif he J0 st4 hD4 W m0 w0 turn
    (fun pl e s' z => comp_err (Q := fun _ _ => True) (acc := .none) hX S I2 f2 hlt (fun _ _ y => y) z)
    fun ys Hz its k pl s5 J3 dD dz rv hsz q => by
      obtain ⟨m, hn, _⟩ := J3.loc
      have I5 : Inv X pins σ (upd Hz s2.heap.objs.size (.lst ys)) s5 := comp_end (h2 := s5.heap) I2 f2 rfl J3 (.refl ..) dD dz rv hsz
      show wpAny _ X.A (assign (.Name y pos') X.env (.ref s2.heap.objs.size)) _ _ s5
      refine wpAny_assign_Name (store_ok2 (v := .ref s2.heap.objs.size) I5 hN hi' (.inl hy) rfl (fun s6 I6 ch => ?_) (.inr hy))
      obtain ⟨a, sb, ha⟩ := ch
      have hCa : (s2.heap.push emptyL).objs.size ≠ a := by
        rcases ha with q | q
        · rw [q]; exact fC.2.1
        · exact Ne.symm (fC.2.2.2.2.1 _ _ q)
      have zC : (upd Hz s2.heap.objs.size (.lst ys)) (s2.heap.push emptyL).objs.size = none := by
        rw [upd_ne (by rw [eC]; exact Nat.ne_of_gt (Nat.lt_succ_self _))]; exact J3.free
      refine ⟨m, hn.sameBut sb hCa, fun h3 sb3 => ⟨_, _, I6.turned (t' := s6.toks) (fun b o hb e => (sb3.2 b hb).trans e) zC fC.2.1 fC.2.2.2.1 fC.2.2.2.2.1 fC.2.2.2.2.2, q _ dz⟩⟩
  exact codeAny_compStart_list loop (T.self _ 0 _ _ _ st4 loop)
end
end L3
namespace L3
open PySem PySem.Spec L2
open PyProof.Rows hiding St
section
variable {X : Cx} {tg : Expr}
end
end L3
namespace Tx
open PySem
abbrev blank : Str := Str.ofString " "
abbrev gapS : Str := Str.ofString "?"
/-- the word of a sign or gap -/
def word : Option Int → Str
  | none => gapS
  | some n => Str.ofString (toString n)
end Tx
namespace L3
open PySem PySem.Spec L2
open PyProof.Rows hiding St
/-- a test that tells whether A is so, and leaves all as it was -/
def Tells (t : TT) (σ : St) (H : Hp) (A : Prop) : Prop := ∀ Q : Bool → Hp → Prop, (∀ (b : Bool) (H1 : Hp), Same H H1 → (b = true ↔ A) → Q b H1) → t σ H Q
theorem Tells.and {tA tB : TT} {σ : St} {H : Hp} {A B : Prop} (ha : Tells tA σ H A) (hb : ∀ H1, Same H H1 → Tells tB σ H1 B) : Tells (tAnd tA tB) σ H (A ∧ B) := fun Q q => ha _ fun b H1 g e => by
  cases b with
  | true => exact iteT (hb H1 g _ fun c H2 g2 e2 => q c H2 (g.trans g2) ⟨fun z => ⟨e.mp rfl, e2.mp z⟩, fun z => e2.mpr z.2⟩)
  | false => exact iteF (q false H1 g ⟨fun z => (Bool.false_ne_true z).elim, fun z => (Bool.false_ne_true (e.mpr z.1)).elim⟩)
theorem Tells.or {tA tB : TT} {σ : St} {H : Hp} {A B : Prop} (ha : Tells tA σ H A) (hb : ∀ H1, Same H H1 → Tells tB σ H1 B) : Tells (tOr tA tB) σ H (A ∨ B) := fun Q q => ha _ fun b H1 g e => by
  cases b with
  | true => exact iteT (q true H1 g ⟨fun _ => .inl (e.mp rfl), fun _ => rfl⟩)
  | false => exact iteF (hb H1 g _ fun c H2 g2 e2 => q c H2 (g.trans g2) ⟨fun z => .inr (e2.mp z), fun z => z.elim (fun y => (Bool.false_ne_true (e.mpr y)).elim) e2.mpr⟩)
/-- if, by what the test tells -/
theorem if_by {tc : TT} {t u : TS} {D : Ends} {σ : St} {H : Hp} {A : Prop} (h : Tells tc σ H A) (h1 : A → ∀ H1, Same H H1 → t D σ H1) (h2 : ¬ A → ∀ H1, Same H H1 → u D σ H1) : tIfS tc t u D σ H :=
  h _ fun b H1 g e => by
    cases b with
    | true => exact iteT (h1 (e.mp rfl) H1 g)
    | false => exact iteF (h2 (fun z => Bool.false_ne_true (e.mpr z)) H1 g)
/-- .. as a row of several -/
theorem if_seq {tc : TT} {t u rest : TS} {D : Ends} {σ : St} {H : Hp} {A : Prop} (h : Tells tc σ H A) (h1 : A → ∀ H1, Same H H1 → t { D with nx := rest D } σ H1) (h2 : ¬ A → ∀ H1, Same H H1 → u { D with nx := rest D } σ H1) : tSeq (tIfS tc t u) rest D σ H :=
  if_by (t := t) (u := u) (D := { D with nx := rest D }) h h1 h2
theorem if_nx {tc : TT} {t u rest : TS} {D : Ends} {r : VK} {b c : St → Hp → Prop} {σ : St} {H : Hp} {A : Prop} (h : Tells tc σ H A) (h1 : A → ∀ H1, Same H H1 → t { D with nx := rest D } σ H1) (h2 : ¬ A → ∀ H1, Same H H1 → u { D with nx := rest D } σ H1) :
    tNext { nx := tSeq (tIfS tc t u) rest D, rt := r, bk := b, ct := c } σ H := if_seq h h1 h2
theorem if_gn {tc : TT} {t u rest : TS} {D : Ends} {r : VK} {b c : St → Hp → Prop} {i : Nat} {v : V} {σ : St} {H : Hp} {A : Prop} (h : Tells tc (σ.set i (some v)) H A) (h1 : A → ∀ H1, Same H H1 → t { D with nx := rest D } (σ.set i (some v)) H1)
    (h2 : ¬ A → ∀ H1, Same H H1 → u { D with nx := rest D } (σ.set i (some v)) H1) : gName i v σ H (Ends.nx { nx := tSeq (tIfS tc t u) rest D, rt := r, bk := b, ct := c }) := if_seq (σ := σ.set i (some v)) h h1 h2
end L3
namespace L3
open PySem PySem.Spec L2
open PyProof.Rows hiding St
section
variable {X : Cx}
theorem countP_eqU {x : V} : ∀ {xs : List V} {us : List Value}, Vals xs us → xs.all flatV = true → us.countP (eqU x) = xs.countP fun y => eqV y x
  | _, _, .nil, _ => rfl
  | y :: xs, u :: us, .cons r t, f => by
    rw [List.all_cons, Bool.and_eq_true] at f
    rw [List.countP_cons, List.countP_cons, eqU_of r f.1, countP_eqU t f.2]
inductive rCount : V → List V → Hp → VK → Prop
  | mk {x : V} {vs : List V} {H : Hp} {Q : VK} (l y) (xs : List V) (z_0 : x = .ref l) (z_1 : vs = [y]) (z_2 : H l = some (.lst xs)) (z_3 : flatV y = true) (z_4 : xs.all flatV = true) (z_5 : Q (.int ((xs.countP fun u => eqV u y : Nat) : Int)) H) : rCount x vs H Q
theorem mt_count : MtR X "list.count" rCount := by
  intro pins s σ H x vs v us Q I rx rv h
  obtain ⟨l, y, xs, rfl, rfl, hH, fy, fx, q⟩ := h
  cases rx
  obtain ⟨u, rfl, ru⟩ := vals1 rv
  obtain ⟨z, its, n, r, hl, e⟩ := I.lstM hH
  refine call_meets PySem.F.slot_list_count ⟨_, e, rfl⟩ PySem.F.entry_list_count (PySem.F.args_list_count_2 _ _) (SeqAt.list_countAt l its.toArray n _ _ u (eqU y)) ⟨e, fun w hw => mem_eqAt ru fy r fx w (by simpa using hw), ?_⟩
  rw [show its.toArray.toList = its from rfl, countP_eqU r fx]
  exact ⟨.int _, H, I.tok _, ⟨_, rfl⟩, q⟩
end
structure ExcLk (K : PySem.W.Frag) (C : Addr) : Prop where
  ga : PySem.W.findIn K (.ref C) "__getattribute__" = some (some (.builtin "BaseException.__getattribute__"))
  no : PySem.W.findIn K (.ref C) "__getattr__" = some none
  cl : PySem.W.findIn K (.ref C) "__class__" = some (some (.builtin "object.__class__"))
  get : PySem.W.specialIn K (.builtin "object.__class__") "__get__" = some (some (.builtin "getset_descriptor.__get__"))
  set : PySem.W.takesIn K (.builtin "object.__class__") = some true
  ob : PySem.W.mroIn K C (.type "object") = some true
  be : PySem.W.mroIn K C (.type "BaseException") = some true
  is : ∃ cd, PySem.W.clsIn K C = some cd
section
variable {K : PySem.W.Frag} {prog : Program} {w : World} {A : Around} {E : Value → Shared → Prop} {s : Shared} {x C : Addr} {o : Obj}
open PySem.W PySem.Builtin PySem.Builtin.ObjectAttr PySem.Builtin.Getset_descriptor in
theorem exc_find {M : Model} {h : Heap} (X : K.In h) (F : ExcLk K C) : Looks M h (find (.ref x) (.ref C) "__class__") (.bind (.builtin "getset_descriptor.__get__") (.builtin "object.__class__")) := by
  have L1 := looks_findIn (M := M) X F.cl
  have L2 : Looks M h (getOf (some (.builtin "object.__class__"))) (some (.builtin "getset_descriptor.__get__")) := looks_specialIn X F.get
  have L3 := looks_takesIn (M := M) X F.set
  refine L1.andThen (L2.andThen ?_)
  exact (show Looks M h (dataDescriptor? (some (.builtin "object.__class__")) (some (.builtin "getset_descriptor.__get__"))) (some (.builtin "getset_descriptor.__get__", .builtin "object.__class__")) from L3.andThen .now).andThen (Looks.tag .now)
open PySem.W PySem.Builtin PySem.Builtin.ObjectAttr PySem.Builtin.Getset_descriptor in
theorem exc_type {M : Model} {h : Heap} (ho : h.get? x = some o) (hc : o.cls = .ref C) : Looks M h (typeOf (.ref x)) (.ref C) := hc ▸ (Looks.ld ho).andThen .now
open PySem.W PySem.Builtin PySem.Builtin.ObjectAttr PySem.Builtin.Getset_descriptor in
theorem exc_clsget {R : Result → Shared → Prop} {tp : Value} (X : K.In s.heap) (ho : s.heap.get? x = some o) (hc : o.cls = .ref C) (F : ExcLk K C) (h : R (.ok (.ret (.ref C))) s) :
    codeAny (model prog w) A (.call (.builtin "getset_descriptor.__get__") ⟨[.builtin "object.__class__", .ref x, tp], []⟩) R s := by
  obtain ⟨hh, g, dr, t, os⟩ := s
  have L0 := exc_type (M := model prog w) ho hc
  have L1 := looks_mroIn (M := model prog w) X F.ob
  refine codeAny_call_builtin KF.slot_gs.plain KF.entry_gs (KF.slot_gs.check _ _ _ _ _ _ _ _ KF.type_class (KF.args_gs _ _ _) ?_)
  unfold Builtin.«getset_descriptor.__get__» descrGet
  rw [dga_obj]
  refine wpAny_bind (wpAny_pure ?_)
  unfold descrGetter descrCheckInstance descrNameAndClass isInstance
  simp only [KF.owner_class]
  repeat lk
  refine ⟨Code.quiet_builtin _ (by decide +kernel), codeAny_builtin KF.entry_class ?_⟩
  unfold Builtin.«object.__class__» shownTypeOf
  repeat lk
  exact h
open PySem.W PySem.Builtin PySem.Builtin.ObjectAttr in
theorem exc_entry {tk : Tok} {Q : Fin → Shared → Prop} (X : K.In s.heap) (ho : s.heap.get? x = some o) (hc : o.cls = .ref C) (F : ExcLk K C) (h : Q (.done (.ret (.ref C))) s) :
    wpAny (model prog w) A (Builtin.«object.__getattribute__» ⟨[.ref x, .str "__class__" tk], []⟩) Q E s := by
  obtain ⟨hh, g, dr, t, os⟩ := s
  have L0 := exc_type (M := model prog w) ho hc
  have L1 := exc_find (x := x) (M := model prog w) X F
  unfold Builtin.«object.__getattribute__»
  refine wpAny_bind (wpAny_pure (wpAny_bind (wpAny_pure (wpAny_bind (L0.at (wpAny_bind (L1.at ?_)))))))
  show wpAny _ _ (bindTo _ _ _ _) _ _ _
  unfold bindTo
  refine wpAny_bind (wpAny_holding (wpAny_call (exc_clsget (s := ⟨hh, g, dr, t, os⟩) X ho hc F ?_)))
  exact wpAny_pure h
open PySem.W PySem.Builtin PySem.Builtin.ObjectAttr in
theorem exc_check {nameV : Value} {Q : Unit → Shared → Prop} (X : K.In s.heap) (ho : s.heap.get? x = some o) (hc : o.cls = .ref C) (F : ExcLk K C) (h : Q () s) : wpAny (model prog w) A (checkBuiltinCall "BaseException.__getattribute__" ⟨[.ref x, nameV], []⟩) Q E s := by
  obtain ⟨hh, g, dr, t, os⟩ := s
  have hk : builtinKind "BaseException.__getattribute__" = some .slot := by decide +kernel
  have hsplit : splitId "BaseException.__getattribute__" = some ("BaseException", "__getattribute__") := by decide +kernel
  have ha := PySem.F.args_bexc_ga (.ref x) nameV
  have LI : Looks (model prog w) hh (isInstance (.ref x) (.type "BaseException")) true := (exc_type ho hc).andThen (looks_mroIn X F.be)
  simp only [checkBuiltinCall, hk, hsplit]
  refine wpAny_bind (LI.at ?_)
  repeat (first | assumption | wp_step)
open PySem.W PySem.Builtin PySem.Builtin.ObjectAttr in
theorem exc_class {Q : Option Value → Shared → Prop} (X : K.In s.heap) (ho : s.heap.get? x = some o) (hc : o.cls = .ref C) (F : ExcLk K C) (h : Q (some (.ref C)) { s with toks := s.toks + 1 }) : wpAny (model prog w) A (getAttr? (.ref x) "__class__") Q E s := by
  obtain ⟨hh, g, dr, t, os⟩ := s
  have L0 := exc_type (M := model prog w) ho hc
  have L1 := looks_findIn (M := model prog w) X F.ga
  have L2 := looks_findIn (M := model prog w) X F.no
  have hx2 : (Value.builtin "BaseException.__getattribute__" == Value.builtin "object.__getattribute__") = false := by decide +kernel
  unfold getAttr? getAttrBy? getAttrBy
  refine wpAny_bind (wpAny_mkText (wpAny_bind (wpAny_attempt (wpAny_holding (wpAny_bind (L0.at (wpAny_bind (L1.at ?_))))))))
  dsimp only
  rw [hx2, Bool.and_false, if_neg Bool.false_ne_true]
  unfold getAttrByItsOwn hookBefore
  refine wpAny_bind (show wpAny _ _ (typeLookup (.ref C) "__getattr__") _ _ _ from L2.at ?_)
  refine wpAny_bind (wpAny_attempt (wpAny_holding ?_))
  unfold callGetattribute
  rw [Bool.false_and, if_neg Bool.false_ne_true]
  unfold boundAndCalled
  rw [PySem.F.excAttr_ValueError.ga.bind (.ref x)]
  refine wpAny_bind (wpAny_pure ?_)
  refine wpAny_call (codeAny_call_builtin PySem.F.excAttr_ValueError.ga.plain PySem.F.entry_bexc_ga (exc_check (s := ⟨hh, g, dr, t + 1, os⟩) X ho hc F (exc_entry (s := ⟨hh, g, dr, t + 1, os⟩) X ho hc F ?_)))
  exact wpAny_pure (wpAny_pure h)
end
theorem kitx_exc {K : PySem.W.Frag} {x C : Addr} (F : ExcLk K C) : PySem.W.KitX K (.ref x) (.ref C) (fun h => ∃ o, h.get? x = some o ∧ o.cls = .ref C) where
  ty := fun _ _ _ p => by
    obtain ⟨o, h1, h2⟩ := p
    exact exc_type h1 h2
  it := fun _ _ X _ => by
    obtain ⟨cdD, hcD⟩ := F.is
    unfold PySem.W.clsIn at hcD
    split at hcD
    · rename_i c' d' cd' sl' ho
      intro A' Q' E' s' k q
      unfold isType loadHead
      exact wpAny_bind (wpAny_loadPart (k _ _ (X _ _ ho)) (wpAny_pure q))
    · cases hcD
  ne := fun h tp dd its n sl X htp => by
    obtain ⟨cdD, hcD⟩ := F.is
    refine Bool.eq_false_iff.mpr fun q => ?_
    have e : C = tp := Value.ref.inj (beq_iff_eq.mp q)
    subst e
    unfold PySem.W.clsIn at hcD
    split at hcD
    · rename_i c' d' cd' sl' ho
      have z := (X _ _ ho).symm.trans htp
      cases z
    · cases hcD
  ca := fun X p k => by
    obtain ⟨o, h1, h2⟩ := p
    exact exc_class X h1 h2 F k
/-- within an except suite that has the exception by name -/
abbrev Cx.held (X : Cx) (ea : Addr) (oe : Obj) : Cx := { X with A := X.A.mark (some (.ref ea)), calm := false, pn := (ea, oe) :: X.pn }
inductive rIsinE (K : PySem.W.Frag) (ea : Addr) (cls : Value) : List V → Hp → VK → Prop
  | own {xs : List V} {H : Hp} {Q : VK} (C : Addr) (b : Bool) (z_0 : xs = [.ref ea, .ref C]) (z_1 : PySem.W.kitOne K cls (.ref C) = some b) (z_2 : Q (.bl b) H) : rIsinE K ea cls xs H Q
  | typ {xs : List V} {H : Hp} {Q : VK} (n : String) (b : Bool) (z_0 : xs = [.ref ea, .ty n]) (z_1 : PySem.W.kitOne K cls (.type n) = some b) (z_2 : Q (.bl b) H) : rIsinE K ea cls xs H Q
theorem call_isinE {X : Cx} {ea C : Addr} {oe : Obj} (K : PySem.W.Frag) (hK : X.K = K) (hp : (ea, oe) ∈ X.pn) (hc : oe.cls = .ref C) (F : ExcLk K C) : CallR X (.builtin "isinstance") (rIsinE K ea (.ref C)) := by
  subst hK
  intro pins s σ H xs us Q I r h
  have ho := (I.pin (ea, oe) (List.mem_append_left _ hp)).1
  cases h with
  | own D b z_0 z_1 z_2 =>
    subst z_0
    obtain ⟨u, c, rfl, rx, rc⟩ := vals2 r
    cases rx
    cases rc
    exact PySem.W.kia_one (kitx_exc F) I.kIn ⟨oe, ho, hc⟩ z_1 (fun z => nomatch z) fun tk => ⟨.bl b, H, I.tok _, rfl, z_2⟩
  | typ n b z_0 z_1 z_2 =>
    subst z_0
    obtain ⟨u, c, rfl, rx, rc⟩ := vals2 r
    cases rx
    cases rc
    exact PySem.W.kia_one (kitx_exc F) I.kIn ⟨oe, ho, hc⟩ z_1 (fun z => nomatch z) fun tk => ⟨.bl b, H, I.tok _, rfl, z_2⟩
theorem call_isinG {X : Cx} {ea : Addr} {oe : Obj} {cls : Value} (K : PySem.W.Frag) (hK : X.K = K) (hp : (ea, oe) ∈ X.pn) (hc : oe.cls = cls) (hG : ∃ C, cls = .ref C ∧ ExcLk K C) : CallR X (.builtin "isinstance") (rIsinE K ea cls) := by
  obtain ⟨C, rfl, F⟩ := hG
  exact call_isinE K hK hp hc F
theorem pe_bmK {X : Cx} {T id : String} {name : Str} {r : V → List V → Hp → VK → Prop} {o e : Expr} {es : List Expr} {to : TE} {t : TA} {apos cpos : Pos} (K : PySem.W.Frag) (hK : X.K = K) (pa : PlainAttrs T) (slot : Slot T name id) (hty : typeOf (.builtin id) = pure (.type "method_descriptor")) (hm : MtR X id r) (ho : PE X o to) (ha : PA X (e :: es) t)
    (hbase : attributeBase o name X.env (eval o X.env) = eval o X.env := by rfl)
    (hfew : ((backTo cpos (starEach (e :: es) X.env)).all (fun x => !x.1) && (backToKw cpos (keywordEach [] X.env)).all (fun x => x.1.isSome)
      && decide ((e :: es).length + ([] : List Keyword).length + (if ([] : List Keyword).isEmpty then 0 else 1) < 30)) = true := by rfl)
    (hline : (apos.endLine == cpos.line) = true := by rfl) (hs : starEach (e :: es) X.env = (false, eval e X.env) :: starEach es X.env := by rfl) (hplain : (backTo cpos (starEach es X.env)).any (·.1) = false := by rfl) :
    PE X (.Call (.Attribute o name apos) (e :: es) [] cpos) (tBM K T r to t) := by
  subst hK
  exact pe_bm pa slot hty hm ho ha hbase hfew hline hs hplain
section
variable {X : Cx} {pins : List (Addr × Obj)} {σ : St} {H : Hp} {s : Shared}
/-- the names' values forgotten, the frame's own object changed -/
theorem inv_gone {t' : Nat} {h' : Heap} {m' : Str → Option Value} (I : Inv X pins σ H s) (hn' : h'.Ns X.env.locals m') (hs : Heap.SameBut X.env.locals s.heap h') : Inv X pins (List.replicate X.N.length none) H { s with heap := h', toks := t' } := by
  obtain ⟨m, hn, hl⟩ := id I.loc
  obtain ⟨oL, _, _, hoL, _⟩ := id hn
  have cne := I.cne
  refine ⟨I.ok, I.os, I.bare, ⟨fun b o e n hb hx => ?_, fun b o e n hb hx => ?_, I.base.free, fun b o e hx => ?_, I.base.tups, I.base.frzs, I.base.tbls⟩, ⟨m', hn', fun j y v' e1 e2 e3 => ?_⟩, fun y c e => ?_, I.free, I.freeC, fun p hp => ?_, fun b ob e => ?_, by simp⟩
  · exact (hs.2 b (Nat.ne_of_lt (Nat.lt_of_lt_of_le (Heap.lt_size e) I.ok.above))).trans (I.base.keep b o e n hb hx)
  · obtain ⟨sl, e1⟩ := I.base.slot b o e n hb hx
    exact ⟨sl, (hs.2 b (Nat.ne_of_lt (Nat.lt_of_lt_of_le (Heap.lt_size e) I.ok.above))).trans e1⟩
  · obtain ⟨o', e1⟩ := I.base.there b o e hx
    exact ⟨o', (hs.2 b (Nat.ne_of_lt (Nat.lt_of_lt_of_le (Heap.lt_size e) I.ok.above))).trans e1⟩
  · rw [List.getElem?_replicate] at e2
    split at e2 <;> cases e2
  · obtain ⟨w', z⟩ := I.cell y c e
    exact ⟨w', z.sameBut hs (cne y c e)⟩
  · obtain ⟨e, n, ne, nf, d⟩ := I.pin p hp
    exact ⟨(hs.2 p.1 ne).trans e, n, ne, nf, d⟩
  · refine (I.hok b ob e).stay (fun c w' hc q => (hs.2 c ?_).trans q) (fun _ q => q) fun _ _ q => q
    rintro rfl
    rcases hc with rfl | hc
    · rw [I.free] at e; cases e
    · rw [I.free] at hc; cases hc
end
def tTryAs (K : PySem.W.Frag) (c : Value) (i : Nat) (G : Value → Prop) (tb : TSr) (ts : Value → Addr → TS) : TS := fun D σ H => tb D (fun cls σ' H' => G cls ∧ PySem.W.exmOne K cls c = some true ∧ ∀ ea, H' ea = none → ts cls ea { nx := fun _ _ => False, rt := D.rt } (σ'.set i (some (.ref ea))) H') σ H
section
variable {X : Cx} {t : TSr} {pos : Pos}
theorem ps_tryAs {x n : Str} {i : Nat} {c : Value} {np hp : Pos} {b0 : Stmt} {suite body : List Stmt} {G : Value → Prop} {ts : Value → Addr → TS} (hno : ∀ e s, X.xe e s → False) (O : X.stack = X.env :: X.outer ∧ X.env.frame = some X.env.locals) (hb : PSsr X body t)
    (hg : Gl X x) (hm : X.mg x = some c) (hN : X.N.Nodup) (hi : X.N[i]? = some n) (hl : X.env.kindOf n = some .local) (hl2 : X.env.scope.names.lookup n = some .local) (hsu : ∀ (cls : Value) (ea : Addr) (oe : Obj), G cls → oe.cls = cls → PSs (Cx.held X ea oe) (b0 :: suite) (ts cls ea)) (hd : (x == ("__debug__" : Str)) = false := by decide) :
    PS X (.Try body [.ExceptHandler (some (.Name x np)) (some n) (b0 :: suite) hp] [] [] pos) (tTryAs X.K c i G t ts) := by
  intro pins s σ H D I h
  refine wpAny_Try_except (wpAny_mono (hb pins s σ H D _ I h) (fun f s1 q => ?_) fun e s1 q => ?_)
  · cases f with
    | next => exact wpAny_execs_nil q
    | ret v => exact q
    | brk => exact q
    | cont => exact q
  · obtain ⟨ea, cls, a0, σ1, H0, H1, s0, B, rfl, I0, os, bare, un, hok, fl, cov, qG, qm, qE⟩ := q
    have fl' := fl
    rw [O.1] at fl'
    have hfr : X.A.frames = some (X.env :: X.outer) := by rw [I0.ok.frames, O.1]
    refine wpAny_looks_onW hfr O.2 fl' fun h4 he4 up4 => wpAny_landsW he4 fun h5 fl5 up5 => ?_
    rw [← O.1] at fl5
    obtain ⟨z1, z2, z3⟩ := stay_ok I0.stack I0.stkFree un hok cov (up4.trans up5) fl5.1
    have I1 : Inv X pins σ1 H1 { s1 with heap := h5 } := I0.call' (ch := []) os z1 z2 bare fun b z => absurd z (by simp)
    have IW : Inv (Cx.within X ea) pins σ1 H1 { s1 with heap := h5 } := inv_within I1
    obtain ⟨oe, hoe, hoc⟩ := fl5.there
    have LT : PySem.W.Looks (model X.prog X.w) h5 (typeOf (.ref ea)) cls := hoc ▸ (PySem.W.Looks.ld hoe).andThen .now
    refine wpAny_handleBy_cons (codeAny_handlers_test (ld_glob (X := Cx.within X ea) IW hg hm ?_ hd)) (by intro q; cases q)
    refine (PySem.W.exm_one (K := X.K) I1.kIn LT qm).here ?_
    refine codeAny_handlers_suite_as (lands_againW fl5 fun h6 fl6 up6 => ?_)
    obtain ⟨y1, y2, y3⟩ := stay_ok I0.stack I0.stkFree z1 z2 z3 up6 fl6.1
    have I2 : Inv X pins σ1 H1 { s1 with heap := h6 } := I0.call' (s' := { s1 with heap := h6 }) (ch := []) os y1 y2 bare fun b z => absurd z (by simp)
    refine store_ok2 (v := .ref ea) I2 hN hi (.inl hl2) rfl (fun s7 I7 ch => ?_) (.inr hl2)
    -- the exception's object
    obtain ⟨f1, f2, f3, o6, vs6, T6, oT6, ts6, ho6, ⟨hc6, _⟩, hd6, _⟩ := fl6
    have nfr : ea ∉ frs X.stack := fun hb => by
      obtain ⟨_, o, ho, hnf⟩ := f3.mem hb
      rw [ho6] at ho; cases ho
      exact hnf vs6 hd6
    have nH : H1 ea = none := by
      cases hq : H1 ea with
      | none => rfl
      | some u =>
        have := y3 ea o6 ho6 nfr (.inr (by rw [hq]; simp))
        rw [f2] at this; cases this
    have nL : ea ≠ X.env.locals := fun z => nfr (by
      rw [O.1]
      exact List.mem_filterMap.mpr ⟨X.env, List.mem_cons_self .., by rw [O.2, z]⟩)
    have nfs : ea ∉ X.fs := fun z => nfr (by
      rw [O.1]
      unfold Cx.fs frs at z
      unfold frs
      obtain ⟨u, hu, e⟩ := List.mem_filterMap.mp z
      exact List.mem_filterMap.mpr ⟨u, List.mem_cons_of_mem _ hu, e⟩)
    obtain ⟨a', sb, ha'⟩ := ch
    have nea : ea ≠ a' := by
      rcases ha' with z | z
      · rw [z]; exact nL
      · intro e
        rw [← e] at z
        obtain ⟨v, oc, hoc', hdc⟩ := I2.cell _ _ z
        rw [ho6] at hoc'; cases hoc'
        rw [hd6] at hdc; cases hdc
    have ho7 : s7.heap.get? ea = some o6 := (sb.2 ea nea).trans ho6
    have I8 : Inv (Cx.held X ea o6) pins (σ1.set i (some (.ref ea))) H1 s7 := by
      refine ⟨⟨I7.ok.mod, I7.ok.kind, I7.ok.glob, I7.ok.blt, I7.ok.above, I7.ok.inj, I7.ok.has, I7.ok.cab, fun z => absurd (show (false : Bool) = true from z) Bool.false_ne_true, I7.ok.frames, I7.ok.stk, I7.ok.exf, I7.ok.bs, I7.ok.bsz, I7.ok.noex, I7.ok.exfs, I7.ok.funs, I7.ok.frf⟩,
        I7.os, I7.bare, I7.base, I7.loc, I7.cell, I7.free, I7.freeC, fun p hp => ?_, I7.hok, I7.len⟩
      rcases List.mem_cons.mp hp with z | z
      · subst z
        exact ⟨ho7, nH, nL, nfs, fun v z => by rw [show (ea, o6).2.data = .fields vs6 from hd6] at z; cases z⟩
      · exact I7.pin p z
    refine wpAny_mono (hsu cls ea o6 qG hc6 pins s7 _ H1 _ I8 (qE ea nH)) (fun f s8 q => ?_) fun e s8 q => (hno e s8 q).elim
    cases f with
    | next => obtain ⟨_, _, _, q⟩ := q; exact q.elim
    | brk => obtain ⟨_, _, _, q⟩ := q; exact q.elim
    | cont => obtain ⟨_, _, _, q⟩ := q; exact q.elim
    | ret u =>
      obtain ⟨v, σ9, H9, I9, r9, q9⟩ := q
      have I10 : Inv X pins σ9 H9 s8 := ⟨I1.ok, I9.os, I9.bare, I9.base, I9.loc, I9.cell, I9.free, I9.freeC, fun p hp => I9.pin p (List.mem_cons_of_mem _ hp), I9.hok, I9.len⟩
      obtain ⟨m9, hn9, _⟩ := id I10.loc
      refine wpAny_nameGoes hl hn9 (by rw [I1.ok.kind]; rfl) fun h' m' hn' sb' => ?_
      exact ⟨v, _, H9, inv_gone I10 hn' sb', r9, q9⟩
end
end L3
namespace Sy
open PySem PySem.Spec L2 L3
open PyProof.Rows hiding St
seal L2.PSs L2.PS L2.PE L2.PT L2.PW L2.PA L2.PG L2.PGs L2.PI L3.PIf
theorem small {n : Nat} (h : n ≤ 1000) : n ≤ sizeLine := Nat.le_of_lt (small1000 h)
/-- a new list of ints, all else as it was -/
def NewL (H : Hp) (ns : List Int) (Q : VK) : Prop := ∀ (r : Addr) (H' : Hp), Same H H' → H r = none → H' r = some (.lst (ns.map V.int)) → Q (.ref r) H'
theorem same_new {H : Hp} {p : Addr} (h : H p = none) (o : HO) : Same H (upd H p o) := fun b u q => by rw [upd_ne (ne_of_none q h)]; exact q
abbrev IL (K : PySem.W.Frag) (H : Hp) (a : Addr) (ns : List Int) : Prop := SqL K H a (ns.map V.int)
def Ok (p : Int) : Prop := SM.Fld p ∧ p ≤ 1000
theorem Ok.pos {p : Int} (h : Ok p) : 0 < p := h.1.pos
theorem md {a p : Int} (h : 0 < p) : 0 ≤ a % p ∧ a % p < p := ⟨Int.emod_nonneg _ (by (first | lia | omega)), Int.emod_lt_of_pos _ h⟩
theorem cml {i j p : Int} (h0 : 0 ≤ i) (h1 : i < p) (hp : p ≤ 1000) : CMul i j := .inl ⟨by (first | lia | omega), by (first | lia | omega)⟩
theorem cmr {i j p : Int} (h0 : 0 ≤ j) (h1 : j < p) (hp : p ≤ 1000) : CMul i j := .inr ⟨by (first | lia | omega), by (first | lia | omega)⟩
def top (i : Nat) : Stmt := PySem.Challenge.pw_straysign_k09_refused.main.body.getD i (.Pass ⟨0, 0, 0, 0⟩)
inductive spAdded : List V → Hp → VK → XK → Prop
  | mk {vs : List V} {H : Hp} {Q : VK} {E_ : XK} (p a b : Int) (z_0 : vs = [.int p, .int a, .int b]) (z_1 : 0 < p) (z_2 : Q (.int ((a + b) % p)) H) : spAdded  vs H Q E_
inductive spLess : List V → Hp → VK → XK → Prop
  | mk {vs : List V} {H : Hp} {Q : VK} {E_ : XK} (p a b : Int) (z_0 : vs = [.int p, .int a, .int b]) (z_1 : 0 < p) (z_2 : Q (.int ((a - b) % p)) H) : spLess  vs H Q E_
inductive spMul : List V → Hp → VK → XK → Prop
  | mk {vs : List V} {H : Hp} {Q : VK} {E_ : XK} (p a b : Int) (z_0 : vs = [.int p, .int a, .int b]) (z_1 : 0 < p) (z_2 : CMul a b) (z_3 : Q (.int ((a * b) % p)) H) : spMul  vs H Q E_
inductive spPower : List V → Hp → VK → XK → Prop
  | mk {vs : List V} {H : Hp} {Q : VK} {E_ : XK} (p a n : Int) (z_0 : vs = [.int p, .int a, .int n]) (z_1 : 0 < p) (z_2 : p ≤ 1000) (z_3 : 0 ≤ a) (z_4 : a < p) (z_5 : 0 ≤ n) (z_6 : Q (.int (SM.pow p a n.toNat)) H) : spPower  vs H Q E_
inductive spInv : List V → Hp → VK → XK → Prop
  | mk {vs : List V} {H : Hp} {Q : VK} {E_ : XK} (p a : Int) (z_0 : vs = [.int p, .int a]) (z_1 : 2 ≤ p) (z_2 : p ≤ 1000) (z_3 : 0 ≤ a) (z_4 : a < p) (z_5 : Q (.int (SM.inv p a)) H) : spInv  vs H Q E_
inductive spSignAt (K : PySem.W.Frag) : List V → Hp → VK → XK → Prop
  | mk {vs : List V} {H : Hp} {Q : VK} {E_ : XK} (p : Int) (c : Addr) (x : Int) (cs : List Int) (z_0 : vs = [.int p, .ref c, .int x]) (z_1 : 0 < p) (z_2 : p ≤ 1000) (z_3 : IL K H c cs) (z_4 : Q (.int (SM.signAt p cs x)) H) : spSignAt K vs H Q E_
inductive spAlong (K : PySem.W.Frag) : List V → Hp → VK → XK → Prop
  | mk {vs : List V} {H : Hp} {Q : VK} {E_ : XK} (p : Int) (c : Addr) (n : Nat) (cs : List Int) (z_0 : vs = [.int p, .ref c, .int (n : Int)]) (z_1 : 0 < p) (z_2 : p ≤ 1000) (z_3 : n ≤ 1000) (z_4 : IL K H c cs) (z_5 : NewL H (SM.along p cs n) Q) : spAlong K vs H Q E_
inductive spSum (K : PySem.W.Frag) : List V → Hp → VK → XK → Prop
  | mk {vs : List V} {H : Hp} {Q : VK} {E_ : XK} (p : Int) (a b : Addr) (xs ys : List Int) (z_0 : vs = [.int p, .ref a, .ref b]) (z_1 : 0 < p) (z_2 : IL K H a xs) (z_3 : IL K H b ys) (z_4 : xs.length ≤ 1000) (z_5 : NewL H (SM.sumC p xs ys) Q) : spSum K vs H Q E_
inductive spScaled (K : PySem.W.Frag) : List V → Hp → VK → XK → Prop
  | mk {vs : List V} {H : Hp} {Q : VK} {E_ : XK} (p : Int) (c : Addr) (f : Int) (cs : List Int) (z_0 : vs = [.int p, .ref c, .int f]) (z_1 : 0 < p) (z_2 : (-(2 ^ 64) < f ∧ f < 2 ^ 64)) (z_3 : IL K H c cs) (z_4 : cs.length ≤ 1000) (z_5 : NewL H (SM.scal p cs f) Q) : spScaled K vs H Q E_
inductive spWo : List V → Hp → VK → XK → Prop
  | mk {vs : List V} {H : Hp} {Q : VK} {E_ : XK} (p : Int) (c : Addr) (x : Int) (cs : List Int) (z_0 : vs = [.int p, .ref c, .int x]) (z_1 : 0 < p) (z_2 : (-(2 ^ 64) < x ∧ x < 2 ^ 64)) (z_3 : H c = some (.lst (cs.map V.int))) (z_4 : cs.length ≤ 900) (z_5 : NewL H (SM.woN p cs x) Q) : spWo  vs H Q E_
inductive spCt (K : PySem.W.Frag) : List V → Hp → VK → XK → Prop
  | mk {vs : List V} {H : Hp} {Q : VK} {E_ : XK} (p : Int) (a b : Addr) (xs ss : List Int) (z_0 : vs = [.int p, .ref a, .ref b]) (z_1 : 2 ≤ p) (z_2 : p ≤ 1000) (z_3 : IL K H a xs) (z_4 : IL K H b ss) (z_5 : xs.length ≤ 800) (z_6 : (∀ x ∈ xs, -(2 ^ 64) < x ∧ x < 2 ^ 64)) (z_7 : NewL H (SM.ct p xs ss) Q) : spCt K vs H Q E_
inductive spIsSign : List V → Hp → VK → XK → Prop
  | mk {vs : List V} {H : Hp} {Q : VK} {E_ : XK} (p a : Int) (z_0 : vs = [.int p, .int a]) (z_1 : Q (.bl (decide (0 ≤ a ∧ a < p))) H) : spIsSign  vs H Q E_
inductive spLonger (K : PySem.W.Frag) : List V → Hp → VK → XK → Prop
  | mk {vs : List V} {H : Hp} {Q : VK} {E_ : XK} (p : Int) (a : Addr) (ws : List Int) (n : Nat) (z_0 : vs = [.int p, .ref a, .int (n : Int)]) (z_1 : 2 ≤ p) (z_2 : p ≤ 1000) (z_3 : n ≤ 1000) (z_4 : IL K H a ws) (z_5 : ws.length ≤ 800) (z_6 : NewL H (SM.lengthened p ws n) Q) : spLonger K vs H Q E_
/-- measures of loops: the int at a name, the length of the list at a name -/
def mI (σ : St) (k : Nat) : Int := match σ[k]? with
  | some (some (.int i)) => i
  | _ => 0
def mLen (H : Hp) (o : Option (Option V)) : Nat := match o with
  | some (some (.ref a)) => (match H a with | some (.lst l) => l.length | _ => 0)
  | _ => 0
theorem drop_step {cs : List Int} {i : Nat} (h : i < cs.length) : ∃ a : Int, (cs.map V.int)[(cs.map V.int).length - 1 - i]? = some (.int a) ∧ cs.drop (cs.length - (i + 1)) = a :: cs.drop (cs.length - i) := by
  have hk : cs.length - 1 - i < cs.length := by (first | lia | omega)
  refine ⟨cs[cs.length - 1 - i], ?_, ?_⟩
  · rw [List.length_map, List.getElem?_map, List.getElem?_eq_getElem hk]; rfl
  · have e := List.drop_eq_getElem_cons hk
    rw [show cs.length - (i + 1) = cs.length - 1 - i by (first | lia | omega), e, show cs.length - 1 - i + 1 = cs.length - i by (first | lia | omega)]
theorem signAt_mem {p : Int} (hp : 0 < p) (c : List Int) (x : Int) : 0 ≤ SM.signAt p c x ∧ SM.signAt p c x < p := by rw [SM.signAt_ev]; exact md hp
theorem get_int {xs : List Int} {i : Nat} {v : V} (h : (xs.map V.int)[i]? = some v) : ∃ a, v = .int a ∧ xs[i]? = some a := by
  rw [List.getElem?_map] at h
  cases e : xs[i]? with
  | none => rw [e] at h; cases h
  | some a => rw [e] at h; cases h; exact ⟨a, rfl, rfl⟩
theorem take_snoc {α : Type} {xs : List α} {i : Nat} {a : α} (h : xs[i]? = some a) : xs.take (i + 1) = xs.take i ++ [a] := by rw [List.take_add_one, h]; rfl
theorem zip_take {f : Int → Int → Int} {xs ys : List Int} {i : Nat} {a b : Int} (ha : xs[i]? = some a) (hb : ys[i]? = some b) : List.zipWith f (xs.take (i + 1)) (ys.take (i + 1)) = List.zipWith f (xs.take i) (ys.take i) ++ [f a b] := by
  have h1 := (List.getElem?_eq_some_iff.mp ha).1
  have h2 := (List.getElem?_eq_some_iff.mp hb).1
  rw [take_snoc ha, take_snoc hb, List.zipWith_append (by simp; (first | lia | omega))]; rfl
theorem zip_all {f : Int → Int → Int} {xs ys : List Int} : List.zipWith f (xs.take (min xs.length ys.length)) (ys.take (min xs.length ys.length)) = List.zipWith f xs ys := by
  rw [← List.take_zipWith, List.take_of_length_le (by simp)]
theorem zip_len_le {f : Int → Int → Int} {xs ys : List Int} {n : Nat} (h : xs.length ≤ n) (i : Nat) : (List.zipWith f (xs.take i) (ys.take i)).length ≤ n := by simp; (first | lia | omega)
theorem foldl_snoc {α β : Type} {f : β → α → β} {l : List α} {i : Nat} {a : α} {b : β} (h : l[i]? = some a) : (l.take (i + 1)).foldl f b = f ((l.take i).foldl f b) a := by rw [take_snoc h, List.foldl_append]; rfl
theorem ct_len {p : Int} : ∀ (l : List (Int × Int)) (st : List Int × List Int), st.2.length = st.1.length + 1 → (l.foldl (SM.ctTurn p) st).1.length = st.1.length + l.length ∧ (l.foldl (SM.ctTurn p) st).2.length = st.1.length + l.length + 1
  | [], st, h => ⟨rfl, h⟩
  | a :: l, st, h => by
    have h1 : (SM.ctTurn p st a).1.length = st.1.length + 1 := by
      show (SM.sumC p (st.1 ++ [0]) (SM.scal p st.2 _)).length = _
      rw [SM.sumC_len p _ _ (by rw [SM.scal_len]; simp [h])]; simp
    have h2 : (SM.ctTurn p st a).2.length = st.1.length + 2 := by
      show (SM.woN p st.2 a.1).length = _
      rw [SM.woN_len, h]
    have ih := ct_len (p := p) l (SM.ctTurn p st a) (by rw [h1, h2])
    rw [h1] at ih
    rw [List.foldl_cons]
    exact ⟨by rw [ih.1]; simp; (first | lia | omega), by rw [ih.2]; simp; (first | lia | omega)⟩
def stI (p : Int) (xs ss : List Int) (i : Nat) : List Int × List Int := ((xs.zip ss).take i).foldl (SM.ctTurn p) ([], [1])
theorem stI_len {p : Int} {xs ss : List Int} {i : Nat} (h : i ≤ (xs.zip ss).length) : (stI p xs ss i).1.length = i ∧ (stI p xs ss i).2.length = i + 1 := by
  have q := ct_len (p := p) ((xs.zip ss).take i) ([], [1]) rfl
  have e : ((xs.zip ss).take i).length = i := by rw [List.length_take]; (first | lia | omega)
  rw [e] at q
  unfold stI
  exact ⟨by rw [q.1]; simp, by rw [q.2]; simp⟩
theorem ite_no {c A B : Prop} [Decidable c] (h : ¬ c) (b : B) : if decide c = true then A else B := by
  rw [decide_eq_false h]; exact iteF b
theorem ite_yes {c A B : Prop} [Decidable c] (h : c) (b : A) : if decide c = true then A else B := by
  rw [decide_eq_true h]; exact iteT b
theorem fld_no {p d : Int} (F : SM.Fld p) (h2 : 2 ≤ d) (h : d * d ≤ p) : ¬ p % d = 0 := fun e => by
  have h3 : 2 * d ≤ d * d := Int.mul_le_mul_of_nonneg_right h2 (by (first | lia | omega))
  obtain ⟨k, hk⟩ := F.inv d (by (first | lia | omega)) (by (first | lia | omega))
  obtain ⟨c, hc⟩ := Int.dvd_of_emod_eq_zero e
  have : d * (SM.inv p d - c * k) = 1 := by
    have : SM.inv p d * d = 1 + d * c * k := by rw [← hc]; exact hk
    grind
  have h1 : d ∣ 1 := ⟨_, this.symm⟩
  have := Int.le_of_dvd (by decide) h1
  (first | lia | omega)
theorem bt_list : bootBuiltins "list" = some (.type "list") := by decide +kernel
theorem bt_range : bootBuiltins "range" = some (.type "range") := by decide +kernel
theorem rngV_eq (n : Nat) : rngV 0 n = (SM.rng n).map V.int := by
  unfold rngV SM.rng
  rw [List.map_map]
  exact List.map_congr_left fun k _ => by simp
theorem cut_take {xs : List V} {n : Nat} (h : n ≤ xs.length) : cutV xs none (some (n : Int)) = xs.take n := by
  unfold cutV
  rw [HT.sIx_none, HT.sIx_nat, Nat.min_eq_left h, List.drop_zero, Nat.sub_zero]
end Sy
namespace L3
open PySem PySem.Spec L2
open PyProof.Rows hiding St
theorem op_notInK {X : Cx} (K : PySem.W.Frag) (hK : X.K = K) : OpR X (compareOp .NotIn) (rIn K true) := by
  subst hK
  exact op_notIn_seq
theorem Has.up {P : Program} {w : World} {K : PySem.W.Frag} {mg : Str → Option Value} {base : Heap} {j k : Nat} {x : Str} {ps : List Str} {sp : Sp} (h : Has P w K mg base j x ps sp) (hj : j ≤ k := by decide) : Has P w K mg base k x ps sp := by
  obtain ⟨f, fd, F, b, kp, m⟩ := h
  exact ⟨f, fd, F.mono hj, b, kp, m⟩
end L3
namespace L3
open PySem PySem.Spec L2
open PyProof.Rows hiding St
theorem sl_listK {X : Cx} (K : PySem.W.Frag) (hK : X.K = K) : SlR X (rSlL K) := by
  subst hK
  exact sl_list
end L3
namespace L3
open PySem PySem.Spec L2
open PyProof.Rows hiding St
end L3
namespace L3
open PySem PySem.Spec L2
open PyProof.Rows hiding St
inductive rLen (K : PySem.W.Frag) : List V → Hp → VK → Prop
  | mk {xs : List V} {H : Hp} {Q : VK} (p : Addr) (ys : List V) (z_0 : xs = [.ref p]) (z_1 : SqL K H p ys ∨ SqT K H p ys) (z_2 : Q (.int ys.length) H) : rLen K xs H Q
inductive rListOf (K : PySem.W.Frag) : List V → Hp → VK → Prop
  | mk {xs : List V} {H : Hp} {Q : VK} (p : Addr) (ys : List V) (z_0 : xs = [.ref p]) (z_1 : SqL K H p ys ∨ SqT K H p ys) (z_2 : ∀ l, H l = none → Q (.ref l) (upd H l (.lst ys))) : rListOf K xs H Q
section
variable {X : Cx}
theorem call_len_seqK (K : PySem.W.Frag) (hK : X.K = K) : CallR X (.builtin "len") (rLen K) := by
  subst hK
  intro pins s σ H xs us Q I r h
  obtain ⟨p, ys, e, hs, q⟩ := h
  exact call_len_seq pins s σ H xs us Q I r ⟨p, ys, e, hs, q⟩
theorem call_list_ofK (K : PySem.W.Frag) (hK : X.K = K) : CallR X (.type "list") (rListOf K) := by
  subst hK
  intro pins s σ H xs us Q I r h
  obtain ⟨p, ys, e, hs, q⟩ := h
  exact call_list_of pins s σ H xs us Q I r ⟨p, ys, e, hs, q⟩
theorem ix_tupK (K : PySem.W.Frag) (hK : X.K = K) : IxR X (rIxT K) := by
  subst hK
  exact ix_tup
theorem pi_listK {tg l : Expr} {tl : TE} (K : PySem.W.Frag) (hK : X.K = K) (hl : PE X l tl) : PI X tg l (iList K tl) := by
  subst hK
  exact pi_list hl
theorem pi_zipK {es : List Expr} {kt : Nat} {pt : Pos} {a b : Expr} {ta : TA} {p pos : Pos} (K : PySem.W.Frag) (hK : X.K = K) (hg : Gl X "zip") (hm : X.mg "zip" = none) (ha : PA X [a, b] ta) (hs : starEach [a, b] X.env = [(false, eval a X.env), (false, eval b X.env)] := by rfl) (hs2 : starEach [b] X.env = [(false, eval b X.env)] := by rfl) :
    PI X (.Tuple es kt pt) (.Call (.Name "zip" p) [a, b] [] pos) (iZip K ta) := by
  subst hK
  exact pi_zip hg hm ha hs hs2
end
end L3
namespace Sy
open PySem PySem.Spec L2 L3
open PyProof.Rows hiding St
seal L2.PSs L2.PS L2.PE L2.PT L2.PW L2.PA L2.PG L2.PGs L2.PI L3.PIf
def vo : Option Int → V
  | none => .non
  | some i => .int i
abbrev OL (K : PySem.W.Frag) (H : Hp) (a : Addr) (os : List (Option Int)) : Prop := SqL K H a (os.map vo)
def SgOk (p : Int) (os : List (Option Int)) : Prop := ∀ s, some s ∈ os → 0 ≤ s ∧ s < p
/-- lists of ints stand there -/
def LL (H : Hp) : List Addr → List (List Int) → Prop
  | [], [] => True
  | r :: rs, w :: ws => H r = some (.lst (w.map V.int)) ∧ LL H rs ws
  | _, _ => False
theorem LL.same {H H' : Hp} (g : Same H H') : ∀ {rs : List Addr} {ws : List (List Int)}, LL H rs ws → LL H' rs ws
  | [], [], _ => trivial
  | _ :: _, _ :: _, h => ⟨g _ _ h.1, LL.same g h.2⟩
  | [], _ :: _, h => h.elim
  | _ :: _, [], h => h.elim
theorem LL.len {H : Hp} : ∀ {rs : List Addr} {ws : List (List Int)}, LL H rs ws → rs.length = ws.length
  | [], [], _ => rfl
  | _ :: _, _ :: _, h => congrArg (· + 1) (LL.len h.2)
  | [], _ :: _, h => h.elim
  | _ :: _, [], h => h.elim
theorem LL.snoc {H : Hp} {r : Addr} {w : List Int} (hr : H r = some (.lst (w.map V.int))) : ∀ {rs : List Addr} {ws : List (List Int)}, LL H rs ws → LL H (rs ++ [r]) (ws ++ [w])
  | [], [], _ => ⟨hr, trivial⟩
  | _ :: _, _ :: _, h => ⟨h.1, LL.snoc hr h.2⟩
  | [], _ :: _, h => h.elim
  | _ :: _, [], h => h.elim
theorem LL.get {H : Hp} : ∀ {rs : List Addr} {ws : List (List Int)} {i : Nat} {r : Addr}, LL H rs ws → rs[i]? = some r → ∃ w, ws[i]? = some w ∧ H r = some (.lst (w.map V.int))
  | [], [], _, _, _, e => by simp at e
  | a :: _, w :: _, 0, r, h, e => by
    have e' : a = r := by simpa using e
    subst e'
    exact ⟨w, rfl, h.1⟩
  | _ :: _, _ :: _, i + 1, r, h, e => by
    obtain ⟨w, h1, h2⟩ := LL.get (i := i) (r := r) h.2 (by simpa using e)
    exact ⟨w, by simpa using h1, h2⟩
  | [], _ :: _, _, _, h, _ => h.elim
  | _ :: _, [], _, _, h, _ => h.elim
theorem get_ref {rs : List Addr} {i : Nat} {v : V} (h : (rs.map V.ref)[i]? = some v) : ∃ r, v = .ref r ∧ rs[i]? = some r := by
  rw [List.getElem?_map] at h
  cases e : rs[i]? with
  | none => rw [e] at h; cases h
  | some r => rw [e] at h; exact ⟨r, (Option.some.inj h).symm, rfl⟩
/-- pairs of a number and a list of ints stand there -/
def KT (H : Hp) : List Addr → SM.Kp → Prop
  | [], [] => True
  | t :: ts, q :: ks => (∃ r, H t = some (.tup [.int (q.1 : Int), .ref r]) ∧ H r = some (.lst (q.2.map V.int))) ∧ KT H ts ks
  | _, _ => False
theorem KT.same {H H' : Hp} (g : Same H H') : ∀ {ts : List Addr} {ks : SM.Kp}, KT H ts ks → KT H' ts ks
  | [], [], _ => trivial
  | _ :: _, _ :: _, h => by
    obtain ⟨⟨r, h1, h2⟩, h3⟩ := h
    exact ⟨⟨r, g _ _ h1, g _ _ h2⟩, KT.same g h3⟩
  | [], _ :: _, h => h.elim
  | _ :: _, [], h => h.elim
theorem KT.len {H : Hp} : ∀ {ts : List Addr} {ks : SM.Kp}, KT H ts ks → ts.length = ks.length
  | [], [], _ => rfl
  | _ :: _, _ :: _, h => congrArg (· + 1) (KT.len h.2)
  | [], _ :: _, h => h.elim
  | _ :: _, [], h => h.elim
theorem KT.snoc {H : Hp} {t r : Addr} {q : Nat × List Int} (h1 : H t = some (.tup [.int (q.1 : Int), .ref r])) (h2 : H r = some (.lst (q.2.map V.int))) : ∀ {ts : List Addr} {ks : SM.Kp}, KT H ts ks → KT H (ts ++ [t]) (ks ++ [q])
  | [], [], _ => ⟨⟨r, h1, h2⟩, trivial⟩
  | _ :: _, _ :: _, h => ⟨h.1, KT.snoc h1 h2 h.2⟩
  | [], _ :: _, h => h.elim
  | _ :: _, [], h => h.elim
theorem KT.get {H : Hp} : ∀ {ts : List Addr} {ks : SM.Kp} {i : Nat} {t : Addr}, KT H ts ks → ts[i]? = some t → ∃ q r, ks[i]? = some q ∧ H t = some (.tup [.int (q.1 : Int), .ref r]) ∧ H r = some (.lst (q.2.map V.int))
  | [], [], _, _, _, e => by simp at e
  | a :: _, q :: _, 0, t, h, e => by
    have e' : a = t := by simpa using e
    subst e'
    obtain ⟨⟨r, h1, h2⟩, _⟩ := h
    exact ⟨q, r, rfl, h1, h2⟩
  | _ :: _, _ :: _, i + 1, t, h, e => by
    obtain ⟨q, r, h1, h2, h3⟩ := KT.get (i := i) (t := t) h.2 (by simpa using e)
    exact ⟨q, r, by simpa using h1, h2, h3⟩
  | [], _ :: _, _, _, h, _ => h.elim
  | _ :: _, [], _, _, h, _ => h.elim
/-- a list of ints, all else as it was -/
def SomeL (H : Hp) (ns : List Int) (Q : VK) : Prop := ∀ (r : Addr) (H' : Hp), Same H H' → H' r = some (.lst (ns.map V.int)) → Q (.ref r) H'
end Sy
namespace Sy
open PySem PySem.Spec L2 L3
open PyProof.Rows hiding St
seal L2.PSs L2.PS L2.PE L2.PT L2.PW L2.PA L2.PG L2.PGs L2.PI L3.PIf
theorem bt_int : bootBuiltins "int" = some (.type "int") := by decide +kernel
theorem bt_min : bootBuiltins "min" = some (.builtin "min") := by decide +kernel
theorem bt_isin : bootBuiltins "isinstance" = some (.builtin "isinstance") := by decide +kernel
inductive spAt (K : PySem.W.Frag) : List V → Hp → VK → XK → Prop
  | mk {vs : List V} {H : Hp} {Q : VK} {E_ : XK} (a : Addr) (k : Int) (ns : List Int) (z_0 : vs = [.ref a, .int k]) (z_1 : IL K H a ns) (z_2 : 0 ≤ k) (z_3 : ∀ v : Int, Q (.int v) H) : spAt K vs H Q E_
/-- what the sizes are like -/
structure Sizes (p : Int) (n L : Nat) : Prop where
  ok : Ok p
  n1 : 1 ≤ n
  n6 : n ≤ 6
  nL : n ≤ L
  Lp : (L : Int) ≤ p
  L17 : L ≤ n + 11
inductive spSizes (K : PySem.W.Frag) : List V → Hp → VK → XK → Prop
  | mk {vs : List V} {H : Hp} {Q : VK} {E_ : XK} (a : Addr) (ns : List Int) (z_0 : vs = [.ref a]) (z_1 : IL K H a ns) (z_2 : ns.length ≤ 63) (z_3 : ∀ (p : Int) (n L : Nat) (t : Addr) (H' : Hp), Same H H' → Sizes p n L → H' t = some (.tup [.int p, .int (n : Int), .int (L : Int)]) → Q (.ref t) H') : spSizes K vs H Q E_
section
variable {P : Program} {w : World} {K : PySem.W.Frag} {mg : Str → Option Value} {base : Heap}
theorem sc_at : FnScope ["_law_script", "_law_k"] ["_law_script", "_law_k"] (defScope (top 53)) := ⟨rfl, rfl, rfl, by decide +kernel, rfl, by decide +kernel, by decide +kernel⟩
theorem atI_map {ns : List Int} {k : Int} (h0 : 0 ≤ k) (h : k < (ns.length : Int)) : ∃ v : Int, atI (ns.map V.int) k = some (.int v) := by
  have hk : k.toNat < ns.length := by (first | lia | omega)
  refine ⟨ns[k.toNat], ?_⟩
  have q : atI (ns.map V.int) ((k.toNat : Nat) : Int) = some (.int ns[k.toNat]) := atI_nat (by rw [List.getElem?_map, List.getElem?_eq_getElem hk]; rfl)
  rwa [show ((k.toNat : Nat) : Int) = k by (first | lia | omega)] at q
theorem ok_at (D : Def K mg "_law_at" ["_law_script", "_law_k"] (top 53)) (hlen : mg "len" = none) : Has P w K mg base 1 "_law_at" ["_law_script", "_law_k"] (spAt K) := by
  refine D.ok sc_at (fun vs H Q E h => by obtain ⟨a, k, ns, rfl, _⟩ := h; rfl) fun f cdv A outer s H vs Q E hr h => ?_
  obtain ⟨a, k, ns, rfl, ha, h0, q⟩ := h
  have hz : (ns.map V.int).length = ns.length := List.length_map ..
  refine ⟨_, pss_cons (ps_if (pt_cmpR op_lt (pv 1) (pe_callB (call_len_seqK K rfl) rfl hlen PySem.boot_len (pa_cons (pv 0) pa_nil)) (nomark _)) (pss_one (ps_ret (pe_ix (ix_listK K rfl) (pv 0) (pv 1) (fun _ _ => rfl)))) pss_nil) (pss_one (ps_ret pe_int)), ?_⟩
  refine ⟨_, rfl, _, rfl, a, _, rfl, .inl ha, _, _, rfl, rfl, _, rfl, ite2 (fun c => ?_) (fun _ => q 0)⟩
  have hk : k < (((ns.map V.int).length : Nat) : Int) := of_decide_eq_true c
  rw [hz] at hk
  obtain ⟨v, hv⟩ := atI_map h0 hk
  exact ⟨_, rfl, _, rfl, a, _, _, _, rfl, rfl, ha, hv, q v⟩
theorem menu10 (r : Int) (h0 : 0 ≤ r) (h1 : r < 10) : ∃ p : Int, Ok p ∧ atI ([.int 13, .int 11, .int 17, .int 101, .int 31, .int 997, .int 7, .int 5, .int 3, .int 2] : List V) r = some (.int p) := by
  have fl : ∀ q : Nat, q < 408 → SM.noDiv (q + 2) = true → Ok ((q + 2 : Nat) : Int) := fun q hq hd => by
    have := SM.allB_get SM.all_fld q hq
    rw [hd] at this
    exact ⟨SM.fld_of (by (first | lia | omega)) (by (first | lia | omega)) (by simpa using this), by (first | lia | omega)⟩
  have c : r = 0 ∨ r = 1 ∨ r = 2 ∨ r = 3 ∨ r = 4 ∨ r = 5 ∨ r = 6 ∨ r = 7 ∨ r = 8 ∨ r = 9 := by (first | lia | omega)
  rcases c with rfl | rfl | rfl | rfl | rfl | rfl | rfl | rfl | rfl | rfl
  · exact ⟨13, fl 11 (by decide) (by decide +kernel), rfl⟩
  · exact ⟨11, fl 9 (by decide) (by decide +kernel), rfl⟩
  · exact ⟨17, fl 15 (by decide) (by decide +kernel), rfl⟩
  · exact ⟨101, fl 99 (by decide) (by decide +kernel), rfl⟩
  · exact ⟨31, fl 29 (by decide) (by decide +kernel), rfl⟩
  · exact ⟨997, ⟨SM.fld_of (p := 997) (by decide) (by decide) SM.fld_997, by decide⟩, rfl⟩
  · exact ⟨7, fl 5 (by decide) (by decide +kernel), rfl⟩
  · exact ⟨5, fl 3 (by decide) (by decide +kernel), rfl⟩
  · exact ⟨3, fl 1 (by decide) (by decide +kernel), rfl⟩
  · exact ⟨2, fl 0 (by decide) (by decide +kernel), rfl⟩
def divs (q : Int) (i : Nat) : List Int := ((List.range i).map fun (k : Nat) => (2 : Int) + (k : Int)).filter fun d => decide (d < q) && decide (q % d = 0)
theorem divs_nil {q : Nat} (h : divs (q : Int) 19 = []) : SM.noDiv q = true := by
  unfold divs at h
  rw [List.filter_eq_nil_iff] at h
  unfold SM.noDiv
  have all : ∀ (n : Nat) (f : Nat → Bool), (∀ k, k < n → f k = true) → SM.allB f n = true := by
    intro n f
    induction n with
    | zero => intro _; rfl
    | succ n ih => intro hf; show (f n && SM.allB f n) = true; rw [hf n (by (first | lia | omega)), ih fun k hk => hf k (by (first | lia | omega))]; rfl
  refine all 19 _ fun k hk => ?_
  have := h ((2 : Int) + (k : Int)) (List.mem_map.mpr ⟨k, List.mem_range.mpr hk, rfl⟩)
  by_cases h1 : k + 2 < q
  · by_cases h2 : q % (k + 2) = 0
    · exfalso
      apply this
      have h3 : ((q : Int)) % ((2 : Int) + (k : Int)) = 0 := by
        have : ((q % (k + 2) : Nat) : Int) = 0 := by rw [h2]; rfl
        rw [Int.natCast_emod] at this
        rw [show (2 : Int) + (k : Int) = ((k + 2 : Nat) : Int) by (first | lia | omega)]; exact this
      rw [decide_eq_true (show (2 : Int) + (k : Int) < (q : Int) by (first | lia | omega)), decide_eq_true h3]; rfl
    · have : (q % (k + 2)).beq 0 = false := by
        cases e : (q % (k + 2)).beq 0 with
        | false => rfl
        | true => exact absurd (Nat.eq_of_beq_eq_true e) h2
      rw [this]; simp
  · have : (k + 2).blt q = false := by
      cases e : (k + 2).blt q with
      | false => rfl
      | true => exact absurd (Nat.lt_of_lt_of_le (Nat.lt_succ_self _) (Nat.le_of_ble_eq_true e)) h1
    rw [this]; rfl
theorem divs_409 : divs 409 19 = [] := by decide +kernel
theorem filter_one {α : Type} (f : α → Bool) (a : α) : [a].filter f = if f a = true then [a] else [] := by
  cases h : f a <;> simp [h]
theorem divs_snoc (q : Int) (i : Nat) : divs q (i + 1) = divs q i ++ (if (decide ((2 : Int) + (i : Int) < q) && decide (q % ((2 : Int) + (i : Int)) = 0)) = true then [(2 : Int) + (i : Int)] else []) := by
  unfold divs
  rw [List.range_succ, List.map_append, List.filter_append, List.map_singleton, filter_one]
theorem sc_sizes : FnScope ["_law_script", "_law_prime", "_law_size", "_law_wide", "_law_length"] ["_law_script"] (defScope (top 54)) := ⟨rfl, rfl, rfl, by decide +kernel, rfl, by decide +kernel, by decide +kernel⟩
theorem ite_not {c A B : Prop} [Decidable c] (h1 : ¬ c → A) (h2 : c → B) : if (!decide c) = true then A else B := by
  by_cases h : c
  · rw [decide_eq_true h]; exact iteF (h2 h)
  · rw [decide_eq_false h]; exact iteT (h1 h)
theorem divs_len (q : Int) (i : Nat) : (divs q i).length ≤ i := by
  unfold divs
  exact Nat.le_trans (List.length_filter_le _ _) (by simp)
theorem not_409 {q : Nat} (h2 : q ≤ 409) (h : ¬ divs (q : Int) 19 = []) : q + 1 ≤ 409 := by
  by_cases e : q = 409
  · subst e; exact absurd divs_409 h
  · (first | lia | omega)
theorem ok_of_divs {q : Nat} (h2 : 2 ≤ q) (h9 : q ≤ 409) (h : divs (q : Int) 19 = []) : Ok (q : Int) := by
  have hd := divs_nil h
  obtain ⟨k, rfl⟩ : ∃ k, q = k + 2 := ⟨q - 2, by (first | lia | omega)⟩
  have := SM.allB_get SM.all_fld k (by (first | lia | omega))
  rw [hd] at this
  exact ⟨SM.fld_of (by (first | lia | omega)) (by (first | lia | omega)) (by simpa using this), by (first | lia | omega)⟩
/-- the sizes' last rows: any size and length out of what is drawn -/
theorem mod_min (v : Int) {a b : Int} (ha : 0 < a) (hb : 0 < b) : ∃ m : Nat, (1 : Int) + v % (if b < a then b else a) = (m : Int) ∧ 1 ≤ m ∧ (m : Int) ≤ a ∧ (m : Int) ≤ b := by
  have h : 0 < (if b < a then b else a) := by split <;> (first | lia | omega)
  have h' : (if b < a then b else a) ≤ a ∧ (if b < a then b else a) ≤ b := by split <;> (first | lia | omega)
  generalize (if b < a then b else a) = c at h h'
  have m1 := md (a := v) h
  exact ⟨(1 + v % c).toNat, by (first | lia | omega), by (first | lia | omega), by (first | lia | omega), by (first | lia | omega)⟩
theorem min_len (v : Int) {p c : Int} {n : Nat} (hn : (n : Int) ≤ p) (hc : 0 < c) : ∃ L : Nat, (if (n : Int) + v % c < p then (n : Int) + v % c else p) = (L : Int) ∧ n ≤ L ∧ (L : Int) ≤ p ∧ (L : Int) < n + c := by
  have m1 := md (a := v) hc
  split
  · exact ⟨((n : Int) + v % c).toNat, by (first | lia | omega), by (first | lia | omega), by (first | lia | omega), by (first | lia | omega)⟩
  · exact ⟨p.toNat, by (first | lia | omega), by (first | lia | omega), by (first | lia | omega), by (first | lia | omega)⟩
end
end Sy
namespace Sy
open PySem PySem.Spec L2 L3
open PyProof.Rows hiding St
seal L2.PSs L2.PS L2.PE L2.PT L2.PW L2.PA L2.PG L2.PGs L2.PI L3.PIf
section
variable {P : Program} {w : World} {K : PySem.W.Frag} {mg : Str → Option Value} {base : Heap}
set_option maxHeartbeats 4000000 in
theorem ok_sizes (D : Def K mg "_law_sizes" ["_law_script"] (top 54)) (hlen : mg "len" = none) (hrng : mg "range" = none) (hmin : mg "min" = none) (hint : mg "int" = none) (AT : Has P w K mg base 1 "_law_at" ["_law_script", "_law_k"] (spAt K)) :
    Has P w K mg base 2 "_law_sizes" ["_law_script"] (spSizes K) := by
  refine D.ok sc_sizes (fun vs H Q E h => by obtain ⟨a, ns, rfl, _⟩ := h; rfl) fun f cdv A outer s H vs Q E hr h => ?_
  obtain ⟨a, ns, rfl, ha, hn63, q⟩ := h
  have hz : (ns.map V.int).length = ns.length := List.length_map ..
  have wide : decide ((63 : Int) < (((ns.map V.int).length : Nat) : Int)) = false := decide_eq_false (by rw [hz]; (first | lia | omega))
  refine ⟨_, pss_cons (ps_set (i := 1) sc_sizes.nd rfl (Or.inr rfl) (pe_ix (ix_listK K rfl) (pe_lst (pa_int1 (pa_int1 (pa_int1 (pa_int1 (pa_int1 (pa_int1 (pa_int1 (pa_int1 (pa_int1 (pa_int1 pa_int0)))))))))))
      (pe_op op_mod (pcall AT hr rfl (pa_cons (pv 0) (pa_cons pe_int pa_nil))) pe_int) (fun _ _ => rfl)))
    (pss_cut (fun σ' H' => ∃ p : Int, Ok p ∧ Same H H' ∧ σ' = [some (.ref a), some (.int p), none, none, none])
      (ps_if (pt_cmpR op_eq (pe_op op_mod (pe_op op_fdiv (pcall AT hr rfl (pa_cons (pv 0) (pa_cons pe_int pa_nil))) pe_int) pe_int) pe_int (nomark _))
      (pss_cons (ps_set (i := 1) sc_sizes.nd rfl (Or.inr rfl) (pe_op op_add pe_int (pe_op op_mod (pe_op op_fdiv (pcall AT hr rfl (pa_cons (pv 0) (pa_cons pe_int pa_nil))) pe_int) pe_int)))
      (pss_one (ps_while PassesOwn.never (pt_cmpR (op_neL hr.units) (pe_comp (N' := ["_law_part", "_law_prime"]) (ix := [none, some 1]) rfl
          ⟨rfl, by decide +kernel, by decide +kernel, by with_unfolding_all rfl, by exact ⟨rfl, trivial⟩, by exact ⟨⟨_, rfl⟩, trivial⟩, by exact ⟨⟨rfl, rfl, rfl⟩, trivial⟩⟩
          (pi_range2 rfl hrng (pa_cons pe_int (pa_cons pe_int pa_nil)))
          fun C ex pn s H => ⟨pg_name (i := 0) (show (["_law_part", "_law_prime"] : List Str).Nodup by decide +kernel) rfl (Or.inl rfl), pif_one (ptw (pw_and (pt_cmpR op_lt (pv 0) (pv 1) (nomark _)) (pw_and1 (pt_cmpR op_eq (pe_op op_mod (pv 1) (pv 0)) pe_int (nomark _))))), pv 0⟩)
          (pe_lst pa_nil) (nomark _))
        (pss_one (ps_set (i := 1) sc_sizes.nd rfl (Or.inr rfl) (pe_op op_add (pv 1) pe_int)))))) pss_nil)
    (pss_cut (fun σ' H' => ∃ (p : Int) (n : Nat), Ok p ∧ 1 ≤ n ∧ n ≤ 4 ∧ (n : Int) ≤ p ∧ Same H H' ∧ σ' = [some (.ref a), some (.int p), some (.int (n : Int)), none, none])
      (ps_set (i := 2) sc_sizes.nd rfl (Or.inl rfl) (pe_op op_add pe_int (pe_op op_mod (pcall AT hr rfl (pa_cons (pv 0) (pa_cons pe_int pa_nil))) (pe_callB (call_min2 rfl) rfl hmin bt_min (pa_cons pe_int (pa_cons (pv 1) pa_nil))))))
    (pss_cons (ps_set (i := 3) sc_sizes.nd rfl (Or.inl rfl) (pe_ix (ix_listK K rfl) (pe_lst (pa_cons pe_int (pa_cons pe_int pa_nil))) (pe_callTy call_int1 rfl hint bt_int (pa_cons (pe_cmpR op_gt (pe_callB (call_len_seqK K rfl) rfl hlen PySem.boot_len (pa_cons (pv 0) pa_nil)) pe_int (nomark _)) pa_nil)) (fun _ _ => rfl)))
    (pss_cut (fun σ' H' => ∃ (p : Int) (n : Nat), Ok p ∧ 1 ≤ n ∧ n ≤ 6 ∧ (n : Int) ≤ p ∧ Same H H' ∧ σ' = [some (.ref a), some (.int p), some (.int (n : Int)), some (.int 6), none])
      (ps_if (pt_cmpR op_eq (pe_op op_mod (pe_op op_fdiv (pcall AT hr rfl (pa_cons (pv 0) (pa_cons pe_int pa_nil))) pe_int) pe_int) pe_int (nomark _))
        (pss_one (ps_set (i := 2) sc_sizes.nd rfl (Or.inl rfl) (pe_op op_add pe_int (pe_op op_mod (pe_op op_fdiv (pcall AT hr rfl (pa_cons (pv 0) (pa_cons pe_int pa_nil))) pe_int) (pe_callB (call_min2 rfl) rfl hmin bt_min (pa_cons (pv 3) (pa_cons (pv 1) pa_nil))))))) pss_nil)
    (pss_cut (fun σ' H' => ∃ (p : Int) (n L : Nat), Sizes p n L ∧ Same H H' ∧ σ' = [some (.ref a), some (.int p), some (.int (n : Int)), some (.int 6), some (.int (L : Int))])
      (ps_set (i := 4) sc_sizes.nd rfl (Or.inl rfl) (pe_callB (call_min2 rfl) rfl hmin bt_min (pa_cons (pv 1) (pa_cons (pe_op op_add (pv 2) (pe_op op_mod (pcall AT hr rfl (pa_cons (pv 0) (pa_cons pe_int pa_nil))) pe_int)) pa_nil))))
    (pss_cut (fun σ' H' => ∃ (p : Int) (n L : Nat), Sizes p n L ∧ Same H H' ∧ σ' = [some (.ref a), some (.int p), some (.int (n : Int)), some (.int 6), some (.int (L : Int))])
      (ps_if (pt_cmpR op_eq (pe_op op_mod (pe_op op_fdiv (pcall AT hr rfl (pa_cons (pv 0) (pa_cons pe_int pa_nil))) pe_int) pe_int) pe_int (nomark _))
        (pss_one (ps_set (i := 4) sc_sizes.nd rfl (Or.inl rfl) (pe_callB (call_min2 rfl) rfl hmin bt_min (pa_cons (pv 1) (pa_cons (pe_op op_add (pv 2) (pe_op op_mod (pe_op op_fdiv (pcall AT hr rfl (pa_cons (pv 0) (pa_cons pe_int pa_nil))) pe_int) (pe_op op_mul pe_int (pv 3)))) pa_nil))))) pss_nil)
    (pss_one (ps_ret (pe_tup (pa_cons (pv 1) (pa_cons (pv 2) (pa_cons (pv 4) pa_nil)))))))))))), ?_⟩
  refine ⟨by show 10 ≤ sizeLine; decide, fun r0 h0 => ⟨_, rfl, a, 0, ns, rfl, (same_new h0 _).seq ha, by decide, fun v0 => ⟨_, _, rfl, rfl, (show (0 : Int) < 10 by decide), ?_⟩⟩⟩
  have m0 := md (a := v0) (p := 10) (by decide)
  obtain ⟨p, ok, hat⟩ := menu10 (v0 % 10) m0.1 m0.2
  refine ⟨r0, _, _, _, rfl, rfl, SqL.of upd_same, hat, ?_⟩
  have g1 : Same H (upd H r0 (.lst (List.map V.int [13, 11, 17, 101, 31, 997, 7, 5, 3, 2]))) := same_new h0 _
  generalize upd H r0 (.lst (List.map V.int [13, 11, 17, 101, 31, 997, 7, 5, 3, 2])) = H1 at g1 ⊢
  refine ⟨?_, ?_⟩
  · refine ⟨_, rfl, a, 0, ns, rfl, g1.seq ha, by decide, fun v1 => ⟨_, _, rfl, rfl, ⟨by decide, by decide⟩, _, _, rfl, rfl, (show (0 : Int) < 3 by decide), rfl, _, rfl, ite2 (fun _ => ?_) (fun _ => ⟨p, ok, g1, rfl⟩)⟩⟩
    refine ⟨_, rfl, a, 0, ns, rfl, g1.seq ha, by decide, fun v2 => ⟨_, _, rfl, rfl, ⟨by decide, by decide⟩, _, _, rfl, rfl, (show (0 : Int) < 400 by decide), _, _, rfl, rfl, ?_⟩⟩
    have m2 := md (a := v2 / 30) (p := 400) (by decide)
    have e2 : (((2 + v2 / 30 % 400).toNat : Nat) : Int) = 2 + v2 / 30 % 400 := by (first | lia | omega)
    refine ⟨fun m σ H' => ∃ k : Nat, m = 410 - k ∧ 2 ≤ k ∧ k ≤ 409 ∧ Same H H' ∧ σ = [some (.ref a), some (.int (k : Int)), none, none, none], ⟨_, (2 + v2 / 30 % 400).toNat, rfl, by (first | lia | omega), by (first | lia | omega), g1, congrArg (fun z => [some (V.ref a), some (.int z), none, none, none]) e2.symm⟩, ?_⟩
    rintro m σ H2 ⟨k, rfl, k2, k9, g2, rfl⟩
    refine ⟨2, 21, rfl, ⟨by (first | lia | omega), by (first | lia | omega), by (first | lia | omega), by (first | lia | omega)⟩, ?_⟩
    refine comp_range (n := 19) (fun i ys H3 => H3 = H2 ∧ ys = (divs (k : Int) i).map V.int) ⟨rfl, rfl⟩ ?_ ?_
    · rintro i ys H3 hi ⟨rfl, rfl⟩
      refine ⟨small (by rw [List.length_map]; exact Nat.le_trans (divs_len _ i) (by (first | lia | omega))), ⟨rfl, trivial⟩, ⟨_, rfl, _, rfl, _, _, rfl, rfl, _, rfl, ite2 (fun c1 => ?_) (fun c1 => ?_)⟩⟩
      · refine ⟨_, rfl, _, rfl, _, _, rfl, rfl, (show (0 : Int) < 2 + (i : Int) by (first | lia | omega)), rfl, _, rfl, ite2 (fun c2 => ?_) (fun c2 => ?_)⟩
        · have c1' : decide ((2 : Int) + (i : Int) < (k : Int)) = true := c1
          have c2' : (k : Int) % (2 + (i : Int)) = 0 := by
            have := of_decide_eq_true c2
            injection this
          refine ⟨_, rfl, rfl, ?_⟩
          rw [divs_snoc, c1', decide_eq_true c2']; simp
        · have c2' : ¬ (k : Int) % (2 + (i : Int)) = 0 := fun z => c2 (decide_eq_true (congrArg V.int z))
          refine ⟨rfl, ?_⟩
          rw [divs_snoc, decide_eq_false c2', Bool.and_false, if_neg Bool.false_ne_true, List.append_nil]
      · refine ⟨rfl, ?_⟩
        have c1' : decide ((2 : Int) + (i : Int) < (k : Int)) = false := Bool.eq_false_iff.mpr c1
        rw [divs_snoc, c1', Bool.false_and, if_neg Bool.false_ne_true, List.append_nil]
    · rintro ys H3 ⟨rfl, rfl⟩
      refine ⟨small (by rw [List.length_map]; exact Nat.le_trans (divs_len _ 19) (by (first | lia | omega))), fun r1 h1 => ⟨by show 0 ≤ sizeLine; decide, fun r2 h2' => ⟨r1, r2, divs (k : Int) 19, [], rfl, rfl, SqL.of ((same_new h2' _) _ _ upd_same), SqL.of upd_same, _, rfl, ite_not (fun c => ?_) (fun c => ?_)⟩⟩⟩
      · have hk := not_409 k9 c
        have e3 : (k : Int) + 1 = ((k + 1 : Nat) : Int) := by (first | lia | omega)
        refine ⟨fun σ' H' => Same H H' ∧ σ' = [some (.ref a), some (.int ((k + 1 : Nat) : Int)), none, none, none], fun σ' H' z => ⟨410 - (k + 1), by (first | lia | omega), k + 1, rfl, by (first | lia | omega), hk, z.1, z.2⟩, ?_⟩
        exact ⟨_, rfl, _, _, rfl, rfl, g2.trans ((same_new h1 _).trans (same_new h2' _)), congrArg (fun z => [some (V.ref a), some (.int z), none, none, none]) e3⟩
      · exact ⟨k, ok_of_divs k2 k9 c, g2.trans ((same_new h1 _).trans (same_new h2' _)), rfl⟩
  rintro σ2 H2 ⟨p, ok, g, rfl⟩
  have hp := ok.pos
  refine ⟨?_, ?_⟩
  · refine ⟨_, rfl, a, 1, ns, rfl, g.seq ha, by decide, fun v1 => ⟨_, rfl, 4, p, rfl, _, _, rfl, rfl, (show (0 : Int) < (if p < 4 then p else 4) by split <;> (first | lia | omega)), _, _, rfl, rfl, ?_⟩⟩
    obtain ⟨n, en, n1, n4, np⟩ := mod_min v1 (a := 4) (b := p) (by decide) hp
    exact ⟨p, n, ok, n1, by (first | lia | omega), np, g, congrArg (fun z => [some (V.ref a), some (.int p), some (.int z), none, none]) en⟩
  clear ok g hp p
  rintro σ3 H3 ⟨p, n, ok, n1, n4, np, g, rfl⟩
  have hp := ok.pos
  refine ⟨by show 2 ≤ sizeLine; decide, fun r1 h1 => ⟨_, rfl, a, _, rfl, .inl ((g.trans (same_new h1 _)).seq ha), _, _, rfl, rfl, .inr ⟨false, congrArg (fun z => [V.bl z]) wide, r1, _, _, .int 6, rfl, rfl, SqL.of upd_same, rfl, ?_⟩⟩⟩
  have g1 := g.trans (same_new h1 (.lst [.int 6, .int 12]))
  generalize upd H3 r1 (.lst [.int 6, .int 12]) = H4 at g1 ⊢
  refine ⟨?_, ?_⟩
  · refine ⟨_, rfl, a, 1, ns, rfl, g1.seq ha, by decide, fun v2 => ⟨_, _, rfl, rfl, ⟨by decide, by decide⟩, _, _, rfl, rfl, (show (0 : Int) < 8 by decide), rfl, _, rfl, ite2 (fun _ => ?_) (fun _ => ⟨p, n, ok, n1, by (first | lia | omega), np, g1, rfl⟩)⟩⟩
    refine ⟨_, rfl, a, 1, ns, rfl, g1.seq ha, by decide, fun v3 => ⟨_, _, rfl, rfl, ⟨by decide, by decide⟩, _, rfl, _, rfl, 6, p, rfl, _, _, rfl, rfl, (show (0 : Int) < (if p < 6 then p else 6) by split <;> (first | lia | omega)), _, _, rfl, rfl, ?_⟩⟩
    obtain ⟨n', en', n1', n6', np'⟩ := mod_min (v3 / 32) (a := 6) (b := p) (by decide) hp
    exact ⟨p, n', ok, n1', by (first | lia | omega), np', g1, congrArg (fun z => [some (V.ref a), some (.int p), some (.int z), some (.int 6), none]) en'⟩
  clear ok g1 hp n1 n4 np n p
  rintro σ5 H5 ⟨p, n, ok, n1, n6, np, g, rfl⟩
  refine ⟨?_, ?_⟩
  · refine ⟨_, rfl, _, rfl, _, rfl, a, 2, ns, rfl, g.seq ha, by decide, fun v1 => ⟨_, _, rfl, rfl, (show (0 : Int) < 8 by decide), _, _, rfl, rfl, p, _, rfl, ?_⟩⟩
    obtain ⟨L, eL, l1, l2, l3⟩ := min_len v1 (c := 8) np (by decide)
    exact ⟨p, n, L, ⟨ok, n1, n6, l1, l2, by (first | lia | omega)⟩, g, congrArg (fun z => [some (V.ref a), some (.int p), some (.int (n : Int)), some (.int 6), some (.int z)]) eL⟩
  clear ok g n1 n6 np n p
  rintro σ6 H6 ⟨p, n, L, z, g, rfl⟩
  refine ⟨?_, ?_⟩
  · refine ⟨_, rfl, a, 2, ns, rfl, g.seq ha, by decide, fun v2 => ⟨_, _, rfl, rfl, ⟨by decide, by decide⟩, _, _, rfl, rfl, (show (0 : Int) < 8 by decide), rfl, _, rfl, ite2 (fun _ => ?_) (fun _ => ⟨p, n, L, z, g, rfl⟩)⟩⟩
    refine ⟨_, rfl, _, rfl, _, rfl, a, 2, ns, rfl, g.seq ha, by decide, fun v3 => ⟨_, _, rfl, rfl, ⟨by decide, by decide⟩, _, rfl, _, _, rfl, rfl, .inl ⟨by decide, by decide⟩, _, _, rfl, rfl, (show (0 : Int) < 2 * 6 by decide), _, _, rfl, rfl, p, _, rfl, ?_⟩⟩
    obtain ⟨L', eL', l1', l2', l3'⟩ := min_len (v3 / 64) (c := 2 * 6) (n := n) (Int.le_trans (show (n : Int) ≤ (L : Int) by have := z.nL; (first | lia | omega)) z.Lp) (by decide)
    exact ⟨p, n, L', ⟨z.ok, z.n1, z.n6, l1', l2', by (first | lia | omega)⟩, g, congrArg (fun z => [some (V.ref a), some (.int p), some (.int (n : Int)), some (.int 6), some (.int z)]) eL'⟩
  clear z g L n p
  rintro σ7 H7 ⟨p, n, L, z, g, rfl⟩
  exact ⟨_, rfl, _, rfl, _, rfl, by show 3 ≤ sizeLine; decide, fun r h => q p n L r _ (g.trans (same_new h _)) z upd_same⟩
end
end Sy
namespace Sy
open PySem PySem.Spec L2 L3
open PyProof.Rows hiding St
seal L2.PSs L2.PS L2.PE L2.PT L2.PW L2.PA L2.PG L2.PGs L2.PI L3.PIf
section
variable {P : Program} {w : World} {K : PySem.W.Frag} {mg : Str → Option Value} {base : Heap}
theorem same_upd {H H' : Hp} {r : Addr} {o : HO} (g : Same H H') (h : H r = none) : Same H (upd H' r o) := fun b u e => by rw [upd_ne (ne_of_none e h)]; exact g b u e
end
end Sy
namespace Sy
open PySem PySem.Spec L2 L3
open PyProof.Rows hiding St
seal L2.PSs L2.PS L2.PE L2.PT L2.PW L2.PA L2.PG L2.PGs L2.PI L3.PIf
mutual
/-- two values that read the same: the datum, how many parts, how deep -/
inductive Tw (H : Hp) : V → V → PyData → Nat → Nat → Prop
  | non (k : Nat) : Tw H .non .non .none 1 k
  | int (i : Int) (k : Nat) : Tw H (.int i) (.int i) (.int i) 1 k
  | lst {a b : Addr} {xs ys : List V} {ds : List PyData} {n k : Nat} : H a = some (.lst xs) → H b = some (.lst ys) → TwAll H xs ys ds n k → Tw H (.ref a) (.ref b) (.list ds) (n + 1) (k + 1)
inductive TwAll (H : Hp) : List V → List V → List PyData → Nat → Nat → Prop
  | nil (k : Nat) : TwAll H [] [] [] 0 k
  | cons {v w : V} {vs ws : List V} {d : PyData} {ds : List PyData} {n m k : Nat} : Tw H v w d n k → TwAll H vs ws ds m k → TwAll H (v :: vs) (w :: ws) (d :: ds) (n + m) k
end
section
variable {H H' : Hp}
theorem TwAll.dp {K : PySem.W.Frag} (g : Same H H') {vs ws : List V} {ds : List PyData} {n k : Nat} (q : TwAll H vs ws ds n k) : DpAll K H' ws ds :=
  TwAll.rec (motive_1 := fun _ w d _ _ _ => Dp K H' w d) (motive_2 := fun _ ws ds _ _ _ => DpAll K H' ws ds) (fun _ => .non) (fun i _ => .int i) (fun _ h _ ih => .lst (SqL.of (g _ _ h)) ih) (fun _ => .nil) (fun _ _ a b => .cons a b) q
theorem lay_lst {ds : List PyData} {k : Nat} (h : PyData.canLayAll0 ds = true ∧ PyData.depthAll ds ≤ k) : PyData.canLay0 (.list ds) = true ∧ PyData.depth (.list ds) ≤ k + 1 :=
  ⟨by simpa [PyData.canLay0] using h.1, by simp only [PyData.depth]; (first | lia | omega)⟩
theorem lay_cons {d : PyData} {ds : List PyData} {k : Nat} (h1 : PyData.canLay0 d = true ∧ PyData.depth d ≤ k) (h2 : PyData.canLayAll0 ds = true ∧ PyData.depthAll ds ≤ k) : PyData.canLayAll0 (d :: ds) = true ∧ PyData.depthAll (d :: ds) ≤ k := by
  refine ⟨by simp [PyData.canLayAll0, h1.1, h2.1], ?_⟩
  simp only [PyData.depthAll]
  (first | lia | omega)
theorem TwAll.lay {vs ws : List V} {ds : List PyData} {n k : Nat} (q : TwAll H vs ws ds n k) : PyData.canLayAll0 ds = true ∧ PyData.depthAll ds ≤ k :=
  TwAll.rec (motive_1 := fun _ _ d _ k _ => PyData.canLay0 d = true ∧ PyData.depth d ≤ k) (motive_2 := fun _ _ ds _ k _ => PyData.canLayAll0 ds = true ∧ PyData.depthAll ds ≤ k)
    (fun _ => ⟨rfl, by simp [PyData.depth]⟩) (fun _ _ => ⟨rfl, by simp [PyData.depth]⟩) (fun _ _ _ ih => lay_lst ih) (fun _ => ⟨rfl, by simp [PyData.depthAll]⟩) (fun _ _ a b => lay_cons a b) q
theorem TwAll.len {vs ws : List V} {ds : List PyData} {n k : Nat} (q : TwAll H vs ws ds n k) : vs.length = ws.length ∧ ds.length = ws.length ∧ ws.length ≤ n :=
  TwAll.rec (motive_1 := fun _ _ _ n _ _ => 1 ≤ n) (motive_2 := fun vs ws ds n _ _ => vs.length = ws.length ∧ ds.length = ws.length ∧ ws.length ≤ n)
    (fun _ => Nat.le_refl _) (fun _ _ => Nat.le_refl _) (fun _ _ _ _ => Nat.succ_pos _) (fun _ => ⟨rfl, rfl, Nat.le_refl _⟩)
    (fun _ _ a h => ⟨by rw [List.length_cons, List.length_cons, h.1], by rw [List.length_cons, List.length_cons, h.2.1], by rw [List.length_cons]; have := h.2.2; (first | lia | omega)⟩) q
theorem TwAll.shaped {vs ws : List V} {ds : List PyData} {n k : Nat} (q : TwAll H vs ws ds n k) (hk : k ≤ 60) : SeqAt.shaped (.list ds) = true := by
  have h := q.lay
  unfold SeqAt.shaped
  have h1 : PyData.canLay0 (.list ds) = true := by simpa [PyData.canLay0] using h.1
  have h2 : PyData.depth (.list ds) ≤ 64 := by simp only [PyData.depth]; (first | lia | omega)
  rw [h1, decide_eq_true h2]; rfl
end
theorem eqv_nil (ds : List PyData) : PyData.eqv (.list ds) (.list []) = ds.isEmpty := by cases ds <;> simp [PyData.eqv, PyData.eqvAll]
section
variable {P : Program} {w : World} {K : PySem.W.Frag} {mg : Str → Option Value} {base : Heap}
end
end Sy
namespace L3
open PySem PySem.Spec L2
open PyProof.Rows hiding St
section
variable {X : Cx}
end
end L3
namespace Sy
open PySem PySem.Spec L2 L3
open PyProof.Rows hiding St
seal L2.PSs L2.PS L2.PE L2.PT L2.PW L2.PA L2.PG L2.PGs L2.PI L3.PIf
section
variable {P : Program} {w : World} {K : PySem.W.Frag} {mg : Str → Option Value} {base : Heap}
end
end Sy
namespace Sy
open PySem PySem.Spec L2 L3
open PyProof.Rows hiding St
seal L2.PSs L2.PS L2.PE L2.PT L2.PW L2.PA L2.PG L2.PGs L2.PI L3.PIf
inductive spLaw (K : PySem.W.Frag) : List V → Hp → VK → XK → Prop
  | mk {vs : List V} {H : Hp} {Q : VK} {E_ : XK} (a : Addr) (ns : List Int) (z_0 : vs = [.ref a]) (z_1 : IL K H a ns) (z_2 : ns.length ≤ 63) (z_3 : ∀ H', Q (.bl true) H') : spLaw K vs H Q E_
theorem cut_all {xs : List V} {n : Nat} (h : xs.length ≤ n) : cutV xs none (some (n : Int)) = xs := by
  unfold cutV
  rw [HT.sIx_none, HT.sIx_nat, Nat.min_eq_right h, List.drop_zero, Nat.sub_zero, List.take_length]
theorem vo_some (ns : List Int) : (ns.map some).map vo = ns.map V.int := by rw [List.map_map]; rfl
theorem tw_opts {H : Hp} : ∀ (os : List (Option Int)) (k : Nat), ∃ ds, TwAll H (os.map vo) (os.map vo) ds os.length k
  | [], k => ⟨[], .nil k⟩
  | none :: os, k => by
    obtain ⟨ds, h⟩ := tw_opts (H := H) os k
    refine ⟨.none :: ds, ?_⟩
    rw [List.length_cons, Nat.add_comm]
    exact .cons (.non k) h
  | some i :: os, k => by
    obtain ⟨ds, h⟩ := tw_opts (H := H) os k
    refine ⟨.int i :: ds, ?_⟩
    rw [List.length_cons, Nat.add_comm]
    exact .cons (.int i k) h
end Sy
namespace L3
open PySem PySem.Spec L2
open PyProof.Rows hiding St
section
variable {P : Program} {w : World} {K : PySem.W.Frag} {mg : Str → Option Value} {base : Heap} {k : Nat} {x : Str} {ps : List Str}
end
end L3
namespace Sy
open PySem PySem.Spec L2 L3
open PyProof.Rows hiding St
end Sy
namespace Sy
open PySem PySem.Spec L2 L3
open PyProof.Rows hiding St
seal L2.PSs L2.PS L2.PE L2.PT L2.PW L2.PA L2.PG L2.PGs L2.PI L3.PIf
/-- lists stand there -/
def LV (H : Hp) : List Addr → List (List V) → Prop
  | [], [] => True
  | r :: rs, w :: ws => H r = some (.lst w) ∧ LV H rs ws
  | _, _ => False
theorem LV.same {H H' : Hp} (g : Same H H') : ∀ {rs : List Addr} {ws : List (List V)}, LV H rs ws → LV H' rs ws
  | [], [], _ => trivial
  | _ :: _, _ :: _, h => ⟨g _ _ h.1, LV.same g h.2⟩
  | [], _ :: _, h => h.elim
  | _ :: _, [], h => h.elim
theorem LV.len {H : Hp} : ∀ {rs : List Addr} {ws : List (List V)}, LV H rs ws → rs.length = ws.length
  | [], [], _ => rfl
  | _ :: _, _ :: _, h => congrArg (· + 1) (LV.len h.2)
  | [], _ :: _, h => h.elim
  | _ :: _, [], h => h.elim
theorem LV.get {H : Hp} : ∀ {rs : List Addr} {ws : List (List V)} {i : Nat} {w : List V}, LV H rs ws → ws[i]? = some w → ∃ r, rs[i]? = some r ∧ H r = some (.lst w)
  | [], [], _, _, _, e => by simp at e
  | a :: _, v :: _, 0, w, h, e => by
    have e' : v = w := by simpa using e
    subst e'
    exact ⟨a, rfl, h.1⟩
  | _ :: _, _ :: _, i + 1, w, h, e => by
    obtain ⟨r, h1, h2⟩ := LV.get (i := i) (w := w) h.2 (by simpa using e)
    exact ⟨r, by simpa using h1, h2⟩
  | [], _ :: _, _, _, h, _ => h.elim
  | _ :: _, [], _, _, h, _ => h.elim
/-- the count is looked at -/
inductive spCountE (K : PySem.W.Frag) (C : Addr) : List V → Hp → VK → XK → Prop
  | mk {vs : List V} {H : Hp} {Q : VK} {E : XK} (a : Addr) (m : Int) (os : List (Option Int)) (z_0 : vs = [.ref a, .int m]) (z_1 : OL K H a os) (z_2 : os.length ≤ 1000) (z_3 : -(10 ^ 99) < m) (z_4 : m < 10 ^ 99) (z_5 : (¬ (m < 1 ∨ (os.length : Int) % m ≠ 0) → Q .non H)) (z_6 : (∀ (bad : m < 1 ∨ (os.length : Int) % m ≠ 0) H', Same H H' → E (.ref C) none H')) : spCountE K C vs H Q E
end Sy
namespace Sy
open PySem PySem.Spec L2 L3
open PyProof.Rows hiding St
seal L2.PSs L2.PS L2.PE L2.PT L2.PW L2.PA L2.PG L2.PGs L2.PI L3.PIf
section
variable {P : Program} {w : World} {K : PySem.W.Frag} {mg : Str → Option Value} {base : Heap}
theorem sc_added : FnScope ["prime", "one", "two"] ["prime", "one", "two"] (defScope (top 14)) := ⟨rfl, rfl, rfl, by decide +kernel, rfl, by decide +kernel, by decide +kernel⟩
theorem ok_added (D : Def K mg "added" ["prime", "one", "two"] (top 14)) : Has P w K mg base 1 "added" ["prime", "one", "two"] spAdded := by
  refine D.ok sc_added (fun vs H Q E h => by obtain ⟨p, a, b, rfl, _⟩ := h; rfl) fun f cdv A outer s H vs Q E hr h => ?_
  obtain ⟨p, a, b, rfl, hp, q⟩ := h
  refine ⟨_, pss_one (ps_ret (pe_op op_mod (pe_op op_add (pv 1) (pv 2)) (pv 0))), ?_⟩
  exact ⟨_, rfl, _, rfl, _, _, rfl, rfl, _, rfl, _, _, rfl, rfl, hp, q⟩
theorem sc_lessened : FnScope ["prime", "one", "two"] ["prime", "one", "two"] (defScope (top 15)) := ⟨rfl, rfl, rfl, by decide +kernel, rfl, by decide +kernel, by decide +kernel⟩
theorem ok_lessened (D : Def K mg "lessened" ["prime", "one", "two"] (top 15)) : Has P w K mg base 1 "lessened" ["prime", "one", "two"] spLess := by
  refine D.ok sc_lessened (fun vs H Q E h => by obtain ⟨p, a, b, rfl, _⟩ := h; rfl) fun f cdv A outer s H vs Q E hr h => ?_
  obtain ⟨p, a, b, rfl, hp, q⟩ := h
  refine ⟨_, pss_one (ps_ret (pe_op op_mod (pe_op op_sub (pv 1) (pv 2)) (pv 0))), ?_⟩
  exact ⟨_, rfl, _, rfl, _, _, rfl, rfl, _, rfl, _, _, rfl, rfl, hp, q⟩
theorem sc_multiplied : FnScope ["prime", "one", "two"] ["prime", "one", "two"] (defScope (top 16)) := ⟨rfl, rfl, rfl, by decide +kernel, rfl, by decide +kernel, by decide +kernel⟩
theorem ok_multiplied (D : Def K mg "multiplied" ["prime", "one", "two"] (top 16)) : Has P w K mg base 1 "multiplied" ["prime", "one", "two"] spMul := by
  refine D.ok sc_multiplied (fun vs H Q E h => by obtain ⟨p, a, b, rfl, _⟩ := h; rfl) fun f cdv A outer s H vs Q E hr h => ?_
  obtain ⟨p, a, b, rfl, hp, hm, q⟩ := h
  refine ⟨_, pss_one (ps_ret (pe_op op_mod (pe_op op_mul (pv 1) (pv 2)) (pv 0))), ?_⟩
  exact ⟨_, rfl, _, rfl, _, _, rfl, rfl, hm, _, rfl, _, _, rfl, rfl, hp, q⟩
theorem sc_power : FnScope ["prime", "sign", "times", "result", "square", "left"] ["prime", "sign", "times"] (defScope (top 17)) := ⟨rfl, rfl, rfl, by decide +kernel, rfl, by decide +kernel, by decide +kernel⟩
theorem ok_power (D : Def K mg "power" ["prime", "sign", "times"] (top 17)) (M : Has P w K mg base 1 "multiplied" ["prime", "one", "two"] spMul) : Has P w K mg base 2 "power" ["prime", "sign", "times"] spPower := by
  refine D.ok sc_power (fun vs H Q E h => by obtain ⟨p, a, b, rfl, _⟩ := h; rfl) fun f cdv A outer s H vs Q E hr h => ?_
  obtain ⟨p, a, n, rfl, hp, hp2, ha, ha2, hn, q⟩ := h
  refine ⟨_, pss_cons (ps_set (i := 3) sc_power.nd rfl (Or.inl rfl) pe_int) (pss_cons (ps_set (i := 4) sc_power.nd rfl (Or.inl rfl) (pv 1)) (pss_cons (ps_set (i := 5) sc_power.nd rfl (Or.inl rfl) (pv 2))
    (pss_cons (ps_while PassesOwn.never (pt_cmpR op_gt (pv 5) pe_int (nomark _))
      (pss_cons (ps_if (pt_cmpR op_eq (pe_op op_mod (pv 5) pe_int) pe_int (nomark _)) (pss_one (ps_set (i := 3) sc_power.nd rfl (Or.inl rfl) (pcall M hr rfl (pa_cons (pv 0) (pa_cons (pv 3) (pa_cons (pv 4) pa_nil)))))) pss_nil)
      (pss_cons (ps_set (i := 4) sc_power.nd rfl (Or.inl rfl) (pcall M hr rfl (pa_cons (pv 0) (pa_cons (pv 4) (pa_cons (pv 4) pa_nil)))))
      (pss_one (ps_set (i := 5) sc_power.nd rfl (Or.inl rfl) (pe_op op_fdiv (pv 5) pe_int))))))
    (pss_one (ps_ret (pv 3)))))), ?_⟩
  refine ⟨_, rfl, _, rfl, ?_⟩
  refine while_by (fun σ H' => H' = H ∧ ∃ (r sq : Int) (l : Nat), σ = [some (.int p), some (.int a), some (.int n), some (.int r), some (.int sq), some (.int (l : Int))] ∧ 0 ≤ r ∧ r ≤ 1000 ∧ 0 ≤ sq ∧ sq < p ∧ SM.powGo p (l + 1) r sq l = SM.pow p a n.toNat)
    (fun σ _ => (mI σ 5).toNat) ⟨rfl, 1, a, n.toNat, ?_, by (first | lia | omega), by (first | lia | omega), ha, ha2, rfl⟩ ?_ ?_
  · rw [show ((n.toNat : Nat) : Int) = n by (first | lia | omega)]; rfl
  · rintro σ H' ⟨rfl, r, sq, l, rfl, r0, r1, s0, s1, e⟩
    refine ⟨_, rfl, _, _, rfl, rfl, _, rfl, ?_⟩
    refine ite2 (fun c => ?_) (fun c => ?_)
    · have hl : 0 < l := by have := of_decide_eq_true c; (first | lia | omega)
      have e1 : SM.powGo p l (if l % 2 = 1 then (r * sq) % p else r) ((sq * sq) % p) (l / 2) = SM.pow p a n.toNat := by
        rw [← e]
        show _ = (if l = 0 then r else _)
        rw [if_neg (show ¬ l = 0 by (first | lia | omega))]
      have e2 : SM.powGo p (l / 2 + 1) (if l % 2 = 1 then (r * sq) % p else r) ((sq * sq) % p) (l / 2) = SM.pow p a n.toNat := by
        rw [← e1]
        have t1 : l / 2 < 2 ^ (l / 2 + 1) := Nat.lt_trans (Nat.lt_succ_self _) Nat.lt_two_pow_self
        have t2 : l / 2 < 2 ^ l := Nat.lt_of_le_of_lt (Nat.div_le_self ..) Nat.lt_two_pow_self
        exact SM.powGo_fuel _ _ _ _ _ t1 t2
      have hd : ((l : Int) / 2) = ((l / 2 : Nat) : Int) := by (first | lia | omega)
      have sq1 := md (a := sq * sq) hp
      refine ⟨_, rfl, _, _, rfl, rfl, (show (0 : Int) < 2 by decide), rfl, _, rfl, ?_⟩
      refine ite2 (fun c2 => ?_) (fun c2 => ?_)
      · have h2 : l % 2 = 1 := by
          have := of_decide_eq_true c2
          injection this with this
          (first | lia | omega)
        rw [if_pos h2] at e2
        have r2 := md (a := r * sq) hp
        refine ⟨_, rfl, _, rfl, _, rfl, p, r, sq, rfl, hp, cmr s0 s1 hp2, ?_⟩
        refine ⟨_, rfl, _, rfl, _, rfl, p, sq, sq, rfl, hp, cmr s0 s1 hp2, ?_⟩
        refine ⟨_, rfl, _, _, rfl, rfl, ⟨by decide, by decide⟩, ⟨rfl, _, _, l / 2, congrArg (fun z => [some (V.int p), some (.int a), some (.int n), some (.int ((r * sq) % p)), some (.int ((sq * sq) % p)), some (.int z)]) hd, r2.1, by (first | lia | omega), sq1.1, sq1.2, e2⟩, ?_⟩
        show ((l : Int) / 2).toNat < ((l : Int)).toNat
        (first | lia | omega)
      · have h2 : ¬ l % 2 = 1 := fun z => c2 (decide_eq_true (congrArg V.int (show ((l : Int) % 2) = 1 by (first | lia | omega))))
        rw [if_neg h2] at e2
        refine ⟨_, rfl, _, rfl, _, rfl, p, sq, sq, rfl, hp, cmr s0 s1 hp2, ?_⟩
        refine ⟨_, rfl, _, _, rfl, rfl, ⟨by decide, by decide⟩, ⟨rfl, _, _, l / 2, congrArg (fun z => [some (V.int p), some (.int a), some (.int n), some (.int r), some (.int ((sq * sq) % p)), some (.int z)]) hd, r0, r1, sq1.1, sq1.2, e2⟩, ?_⟩
        show ((l : Int) / 2).toNat < ((l : Int)).toNat
        (first | lia | omega)
    · have hl : l = 0 := by
        have : ¬ (0 : Int) < (l : Int) := fun z => c (decide_eq_true z)
        (first | lia | omega)
      subst hl
      refine ⟨_, rfl, ?_⟩
      have er : r = SM.pow p a n.toNat := by rw [← e]; rfl
      rw [er]; exact q
  · rintro σ H' Q1 Q2 hQ ⟨v, e, i, j, e1, e2, k, e3, h⟩
    exact ⟨v, e, i, j, e1, e2, k, e3, hQ _ _ h⟩
theorem sc_inverse : FnScope ["prime", "sign"] ["prime", "sign"] (defScope (top 18)) := ⟨rfl, rfl, rfl, by decide +kernel, rfl, by decide +kernel, by decide +kernel⟩
theorem ok_inverse (D : Def K mg "inverse" ["prime", "sign"] (top 18)) (M : Has P w K mg base 2 "power" ["prime", "sign", "times"] spPower) : Has P w K mg base 3 "inverse" ["prime", "sign"] spInv := by
  refine D.ok sc_inverse (fun vs H Q E h => by obtain ⟨p, a, rfl, _⟩ := h; rfl) fun f cdv A outer s H vs Q E hr h => ?_
  obtain ⟨p, a, rfl, hp, hp2, ha, ha2, q⟩ := h
  refine ⟨_, pss_one (ps_ret (pcall M hr rfl (pa_cons (pv 0) (pa_cons (pv 1) (pa_cons (pe_op op_sub (pv 0) pe_int) pa_nil))))), ?_⟩
  exact ⟨_, rfl, _, rfl, _, rfl, _, _, rfl, rfl, p, a, p - 2, rfl, by (first | lia | omega), hp2, ha, ha2, by (first | lia | omega), q⟩
theorem sc_sign_at : FnScope ["prime", "curve", "place", "total", "number"] ["prime", "curve", "place"] (defScope (top 20)) := ⟨rfl, rfl, rfl, by decide +kernel, rfl, by decide +kernel, by decide +kernel⟩
theorem ok_sign_at (D : Def K mg "sign_at" ["prime", "curve", "place"] (top 20)) (hrev : mg "reversed" = none) (A1 : Has P w K mg base 1 "added" ["prime", "one", "two"] spAdded) (M : Has P w K mg base 1 "multiplied" ["prime", "one", "two"] spMul) :
    Has P w K mg base 2 "sign_at" ["prime", "curve", "place"] (spSignAt K) := by
  refine D.ok sc_sign_at (fun vs H Q E h => by obtain ⟨p, c, x, cs, rfl, _⟩ := h; rfl) fun f cdv A outer s H vs Q E hr h => ?_
  obtain ⟨p, c, x, cs, rfl, hp, hp2, hc, q⟩ := h
  refine ⟨_, pss_cons (ps_set (i := 3) sc_sign_at.nd rfl (Or.inl rfl) pe_int) (pss_cons (ps_for PassesOwn.never rfl (pi_rev rfl hrev (pa_cons (pv 1) pa_nil)) (pg_name (i := 4) sc_sign_at.nd rfl (Or.inl rfl))
    (pss_one (ps_set (i := 3) sc_sign_at.nd rfl (Or.inl rfl) (pcall A1 hr rfl (pa_cons (pv 0) (pa_cons (pcall M hr rfl (pa_cons (pv 0) (pa_cons (pv 3) (pa_cons (pv 2) pa_nil)))) (pa_cons (pv 4) pa_nil)))))))
    (pss_one (ps_ret (pv 3)))), ?_⟩
  refine ⟨_, rfl, c, _, rfl, hc, ?_⟩
  refine for_rev (fun i σ H' => H' = H ∧ ∃ o : Option V, σ = [some (.int p), some (.ref c), some (.int x), some (.int (SM.signAt p (cs.drop (cs.length - i)) x)), o]) ⟨rfl, none, ?_⟩ (fun i σ H' _ h => by rw [h.1]; exact hc) ?_ ?_
  · rw [Nat.sub_zero, List.drop_length]; rfl
  · rintro i v σ H' hi hv ⟨rfl, o, rfl⟩
    rw [List.length_map] at hi
    obtain ⟨a, ha, hd⟩ := drop_step hi
    rw [ha] at hv
    cases hv
    have b := signAt_mem hp (cs.drop (cs.length - i)) x
    refine ⟨_, rfl, _, rfl, _, rfl, _, rfl, p, _, x, rfl, hp, cml b.1 b.2 hp2, _, rfl, p, _, a, rfl, hp, rfl, some (.int a), ?_⟩
    rw [hd]; rfl
  · rintro σ H' ⟨rfl, o, rfl⟩
    refine ⟨_, rfl, ?_⟩
    have e : cs.length - (cs.map V.int).length = 0 := by simp
    rw [e, List.drop_zero]; exact q
theorem sc_signs_along : FnScope ["prime", "curve", "length"] ["prime", "curve", "length"] (defScope (top 21)) := ⟨rfl, rfl, rfl, by decide +kernel, rfl, by decide +kernel, by decide +kernel⟩
theorem ok_signs_along (D : Def K mg "signs_along" ["prime", "curve", "length"] (top 21)) (hrng : mg "range" = none) (S1 : Has P w K mg base 2 "sign_at" ["prime", "curve", "place"] (spSignAt K)) :
    Has P w K mg base 3 "signs_along" ["prime", "curve", "length"] (spAlong K) := by
  refine D.ok sc_signs_along (fun vs H Q E h => by obtain ⟨p, c, n, cs, rfl, _⟩ := h; rfl) fun f cdv A outer s H vs Q E hr h => ?_
  obtain ⟨p, c, n, cs, rfl, hp, hp2, hn, hc, q⟩ := h
  refine ⟨_, pss_one (ps_ret (pe_comp (N' := ["place", "prime", "curve"]) (ix := [none, some 0, some 1]) rfl
    ⟨rfl, by decide +kernel, by decide +kernel, by with_unfolding_all rfl, by exact ⟨rfl, rfl, trivial⟩, by exact ⟨⟨_, rfl⟩, ⟨_, rfl⟩, trivial⟩, by exact ⟨⟨rfl, rfl, rfl⟩, ⟨rfl, rfl, rfl⟩, trivial⟩⟩
    (pi_range1 rfl hrng (pa_cons (pv 2) pa_nil))
    fun C ex pn s H => ⟨pg_name (i := 0) (show (["place", "prime", "curve"] : List Str).Nodup by decide +kernel) rfl (Or.inl rfl), pif_nil, pcall S1 hr rfl (pa_cons (pv 1) (pa_cons (pv 2) (pa_cons (pv 0) pa_nil)))⟩)), ?_⟩
  refine ⟨_, rfl, (n : Int), rfl, by (first | lia | omega), by (first | lia | omega), ?_⟩
  rw [Int.toNat_natCast]
  refine comp_range (fun i ys H' => H' = H ∧ ys = (SM.along p cs i).map V.int) ⟨rfl, rfl⟩ ?_ ?_
  · rintro i ys H' hi ⟨rfl, rfl⟩
    refine ⟨small (by simp [SM.along]; (first | lia | omega)), ⟨rfl, rfl, trivial⟩, ⟨_, rfl, _, rfl, _, rfl, p, c, _, cs, rfl, hp, hp2, hc, rfl, ?_⟩⟩
    simp [SM.along, List.range_succ]
  · rintro ys H' ⟨rfl, rfl⟩
    exact ⟨small (by simp [SM.along]; (first | lia | omega)), fun r hr' => q r _ (same_new hr' _) hr' upd_same⟩
theorem sc_scaled : FnScope ["prime", "curve", "factor"] ["prime", "curve", "factor"] (defScope (top 24)) := ⟨rfl, rfl, rfl, by decide +kernel, rfl, by decide +kernel, by decide +kernel⟩
theorem ok_scaled (D : Def K mg "scaled" ["prime", "curve", "factor"] (top 24)) (M : Has P w K mg base 1 "multiplied" ["prime", "one", "two"] spMul) :
    Has P w K mg base 2 "scaled" ["prime", "curve", "factor"] (spScaled K) := by
  refine D.ok sc_scaled (fun vs H Q E h => by obtain ⟨p, c, x, cs, rfl, _⟩ := h; rfl) fun f cdv A outer s H vs Q E hr h => ?_
  obtain ⟨p, c, x, cs, rfl, hp, hx, hc, hn, q⟩ := h
  refine ⟨_, pss_one (ps_ret (pe_comp (N' := ["number", "prime", "factor"]) (ix := [none, some 0, some 2]) rfl
    ⟨rfl, by decide +kernel, by decide +kernel, by with_unfolding_all rfl, by exact ⟨rfl, rfl, trivial⟩, by exact ⟨⟨_, rfl⟩, ⟨_, rfl⟩, trivial⟩, by exact ⟨⟨rfl, rfl, rfl⟩, ⟨rfl, rfl, rfl⟩, trivial⟩⟩
    (pi_listK K rfl (pv 1))
    fun C ex pn s H => ⟨pg_name (i := 0) (show (["number", "prime", "factor"] : List Str).Nodup by decide +kernel) rfl (Or.inl rfl), pif_nil, pcall M hr rfl (pa_cons (pv 1) (pa_cons (pv 0) (pa_cons (pv 2) pa_nil)))⟩)), ?_⟩
  refine ⟨_, rfl, c, rfl, ⟨_, hc⟩, ?_⟩
  refine comp_list (xs := cs.map V.int) (fun i ys H' => H' = H ∧ ys = (SM.scal p (cs.take i) x).map V.int) ⟨rfl, rfl⟩ (fun i ys H' h => by rw [h.1]; exact hc) ?_ ?_
  · rintro i v ys H' hv ⟨rfl, rfl⟩
    obtain ⟨a, rfl, ha⟩ := get_int hv
    refine ⟨small (by simp [SM.scal]; (first | lia | omega)), ⟨rfl, rfl, trivial⟩, ⟨_, rfl, _, rfl, _, rfl, p, a, x, rfl, hp, .inr hx, rfl, ?_⟩⟩
    rw [take_snoc ha]; simp [SM.scal]
  · rintro ys H' ⟨rfl, rfl⟩
    refine ⟨small (by simp [SM.scal]; (first | lia | omega)), fun r hr' => q r _ (same_new hr' _) hr' ?_⟩
    rw [upd_same, List.length_map, List.take_length]
theorem sc_sum : FnScope ["prime", "one", "two"] ["prime", "one", "two"] (defScope (top 23)) := ⟨rfl, rfl, rfl, by decide +kernel, rfl, by decide +kernel, by decide +kernel⟩
theorem ok_sum (D : Def K mg "sum_of_curves" ["prime", "one", "two"] (top 23)) (hz : mg "zip" = none) (M : Has P w K mg base 1 "added" ["prime", "one", "two"] spAdded) :
    Has P w K mg base 2 "sum_of_curves" ["prime", "one", "two"] (spSum K) := by
  refine D.ok sc_sum (fun vs H Q E h => by obtain ⟨p, a, b, xs, ys, rfl, _⟩ := h; rfl) fun f cdv A outer s H vs Q E hr h => ?_
  obtain ⟨p, a, b, xs, ys, rfl, hp, ha, hb, hn, q⟩ := h
  refine ⟨_, pss_one (ps_ret (pe_comp (N' := ["left", "right", "prime"]) (ix := [none, none, some 0]) rfl
    ⟨rfl, by decide +kernel, by decide +kernel, by with_unfolding_all rfl, by exact ⟨rfl, trivial⟩, by exact ⟨⟨_, rfl⟩, trivial⟩, by exact ⟨⟨rfl, rfl, rfl⟩, trivial⟩⟩
    (pi_zipK K rfl rfl hz (pa_cons (pv 1) (pa_cons (pv 2) pa_nil)))
    fun C ex pn s H => ⟨pg_tupK (n := 2) K rfl rfl (pgs_cons (pg_name (i := 0) (show (["left", "right", "prime"] : List Str).Nodup by decide +kernel) rfl (Or.inl rfl)) (pgs_cons (pg_name (i := 1) (show (["left", "right", "prime"] : List Str).Nodup by decide +kernel) rfl (Or.inl rfl)) pgs_nil)), pif_nil, pcall M hr rfl (pa_cons (pv 2) (pa_cons (pv 0) (pa_cons (pv 1) pa_nil)))⟩)), ?_⟩
  refine ⟨_, rfl, _, rfl, a, b, _, _, rfl, ha, hb, ?_⟩
  refine comp_zip (fun i zs H' => Same H H' ∧ zs = (List.zipWith (fun l r => (l + r) % p) (xs.take i) (ys.take i)).map V.int) ⟨Same.refl H, rfl⟩ (fun i zs H' h => ⟨h.1.seq ha, h.1.seq hb⟩) ?_ (fun i zs H' h => ?_) ?_
  · rintro i v u t zs H' hv hu ht ⟨g, rfl⟩
    obtain ⟨v, rfl, hv'⟩ := get_int hv
    replace hv := hv'
    obtain ⟨u, rfl, hu'⟩ := get_int hu
    replace hu := hu'
    refine ⟨small (by rw [List.length_map]; exact zip_len_le hn i), t, _, rfl, SqT.of upd_same, rfl, _, _, rfl, _, _, rfl, rfl, ⟨rfl, trivial⟩, ⟨_, rfl, _, rfl, _, rfl, p, v, u, rfl, hp, g.trans (same_new ht _), ?_⟩⟩
    rw [zip_take hv hu]; simp
  · obtain ⟨_, rfl⟩ := h
    exact small (by rw [List.length_map]; exact zip_len_le hn i)
  · rintro zs H' ⟨g, rfl⟩ r hr'
    refine q r _ (g.trans (same_new hr' _)) (g.free hr') ?_
    rw [upd_same, List.length_map, List.length_map, zip_all]; rfl
theorem sc_wo : FnScope ["prime", "curve", "place", "raised", "kept"] ["prime", "curve", "place"] (defScope (top 25)) := ⟨rfl, rfl, rfl, by decide +kernel, rfl, by decide +kernel, by decide +kernel⟩
theorem ok_wo (D : Def K mg "with_nought_at" ["prime", "curve", "place"] (top 25)) (hz : mg "zip" = none) (M : Has P w K mg base 2 "scaled" ["prime", "curve", "factor"] (spScaled K)) (L : Has P w K mg base 1 "lessened" ["prime", "one", "two"] spLess) :
    Has P w K mg base 3 "with_nought_at" ["prime", "curve", "place"] spWo := by
  refine D.ok sc_wo (fun vs H Q E h => by obtain ⟨p, c, x, cs, rfl, _⟩ := h; rfl) fun f cdv A outer s H vs Q E hr h => ?_
  obtain ⟨p, c, x, cs, rfl, hp, hx, hc, hn, q⟩ := h
  refine ⟨_, pss_cons (ps_set (i := 3) sc_wo.nd rfl (Or.inl rfl) (pe_op op_cat (pe_lst (pa_cons pe_int pa_nil)) (pv 1)))
    (pss_cons (ps_set (i := 4) sc_wo.nd rfl (Or.inl rfl) (pcall M hr rfl (pa_cons (pv 0) (pa_cons (pe_op op_cat (pv 1) (pe_lst (pa_cons pe_int pa_nil))) (pa_cons (pv 2) pa_nil)))))
    (pss_one (ps_ret (pe_comp (N' := ["up", "down", "prime"]) (ix := [none, none, some 0]) rfl
    ⟨rfl, by decide +kernel, by decide +kernel, by with_unfolding_all rfl, by exact ⟨rfl, trivial⟩, by exact ⟨⟨_, rfl⟩, trivial⟩, by exact ⟨⟨rfl, rfl, rfl⟩, trivial⟩⟩
    (pi_zipK K rfl rfl hz (pa_cons (pv 3) (pa_cons (pv 4) pa_nil)))
    fun C ex pn s H => ⟨pg_tupK (n := 2) K rfl rfl (pgs_cons (pg_name (i := 0) (show (["up", "down", "prime"] : List Str).Nodup by decide +kernel) rfl (Or.inl rfl)) (pgs_cons (pg_name (i := 1) (show (["up", "down", "prime"] : List Str).Nodup by decide +kernel) rfl (Or.inl rfl)) pgs_nil)), pif_nil, pcall L hr rfl (pa_cons (pv 2) (pa_cons (pv 0) (pa_cons (pv 1) pa_nil)))⟩)))), ?_⟩
  refine ⟨by show 1 ≤ sizeLine; decide, fun p1 h1 => ⟨_, rfl, p1, c, _, _, rfl, rfl, upd_same, (same_new h1 _) _ _ hc, small (by simp; (first | lia | omega)), fun p2 h2 => ?_⟩⟩
  have g1 : Same H (upd H p1 (.lst [.int 0])) := same_new h1 _
  have g2 := g1.trans (same_new h2 (.lst ([V.int 0] ++ cs.map V.int)))
  refine ⟨_, rfl, _, rfl, by show 1 ≤ sizeLine; decide, fun p3 h3 => ⟨c, p3, _, _, rfl, rfl, (g2.trans (same_new h3 _)) _ _ hc, upd_same, small (by simp; (first | lia | omega)), fun p4 h4 => ?_⟩⟩
  have g3 := g2.trans (same_new h3 (.lst [.int 0]))
  have g4 := g3.trans (same_new h4 (.lst (cs.map V.int ++ [.int 0])))
  refine ⟨_, rfl, p, p4, x, cs ++ [0], rfl, hp, hx, SqL.of (by rw [upd_same]; simp), by simp; (first | lia | omega), fun p5 H5 g5 n5 e5 => ?_⟩
  have hr3 : H5 p2 = some (.lst ((0 :: cs).map V.int)) := g5 _ _ ((same_new h4 _) _ _ ((same_new h3 _) _ _ (by rw [upd_same]; rfl)))
  have g6 := g4.trans g5
  refine ⟨_, rfl, _, rfl, p2, p5, _, _, rfl, SqL.of hr3, SqL.of e5, ?_⟩
  refine comp_zip (fun i zs H' => Same H5 H' ∧ zs = (List.zipWith (fun u d => (u - d) % p) ((0 :: cs).take i) ((SM.scal p (cs ++ [0]) x).take i)).map V.int) ⟨Same.refl H5, rfl⟩ (fun i zs H' h => ⟨h.1.seq (SqL.of hr3), h.1.seq (SqL.of e5)⟩) ?_ (fun i zs H' h => ?_) ?_
  · rintro i v u t zs H' hv hu ht ⟨g, rfl⟩
    obtain ⟨v, rfl, hv'⟩ := get_int hv
    replace hv := hv'
    obtain ⟨u, rfl, hu'⟩ := get_int hu
    replace hu := hu'
    refine ⟨small (by rw [List.length_map]; exact zip_len_le (by simp; (first | lia | omega)) i), t, _, rfl, SqT.of upd_same, rfl, _, _, rfl, _, _, rfl, rfl, ⟨rfl, trivial⟩, ⟨_, rfl, _, rfl, _, rfl, p, v, u, rfl, hp, g.trans (same_new ht _), ?_⟩⟩
    rw [zip_take hv hu]; simp
  · obtain ⟨_, rfl⟩ := h
    exact small (by rw [List.length_map]; exact zip_len_le (by simp; (first | lia | omega)) i)
  · rintro zs H' ⟨g, rfl⟩ r hr'
    refine q r _ ((g6.trans g).trans (same_new hr' _)) ((g6.trans g).free hr') ?_
    rw [upd_same, List.length_map, List.length_map, zip_all]; rfl
theorem sc_ct : FnScope ["prime", "places", "signs", "curve", "noughts", "place", "sign", "missing", "height", "share"] ["prime", "places", "signs"] (defScope (top 26)) := ⟨rfl, rfl, rfl, by decide +kernel, rfl, by decide +kernel, by decide +kernel⟩
theorem ok_ct (D : Def K mg "curve_through" ["prime", "places", "signs"] (top 26)) (hz : mg "zip" = none) (S1 : Has P w K mg base 2 "sign_at" ["prime", "curve", "place"] (spSignAt K)) (L : Has P w K mg base 1 "lessened" ["prime", "one", "two"] spLess)
    (M : Has P w K mg base 1 "multiplied" ["prime", "one", "two"] spMul) (IV : Has P w K mg base 3 "inverse" ["prime", "sign"] spInv) (SU : Has P w K mg base 2 "sum_of_curves" ["prime", "one", "two"] (spSum K))
    (SC : Has P w K mg base 2 "scaled" ["prime", "curve", "factor"] (spScaled K)) (WO : Has P w K mg base 3 "with_nought_at" ["prime", "curve", "place"] spWo) : Has P w K mg base 4 "curve_through" ["prime", "places", "signs"] (spCt K) := by
  refine D.ok sc_ct (fun vs H Q E h => by obtain ⟨p, a, b, xs, ss, rfl, _⟩ := h; rfl) fun f cdv A outer s H vs Q E hr h => ?_
  obtain ⟨p, a, b, xs, ss, rfl, hp2, hpm, ha, hb, hn, hx, q⟩ := h
  have hp : 0 < p := by (first | lia | omega)
  refine ⟨_, pss_cons (ps_set (i := 3) sc_ct.nd rfl (Or.inl rfl) (pe_lst pa_nil)) (pss_cons (ps_set (i := 4) sc_ct.nd rfl (Or.inl rfl) (pe_lst (pa_cons pe_int pa_nil)))
    (pss_cons (ps_for PassesOwn.never rfl (pi_zipK K rfl rfl hz (pa_cons (pv 1) (pa_cons (pv 2) pa_nil))) (pg_tupK K rfl rfl (pgs_cons (pg_name (i := 5) sc_ct.nd rfl (Or.inl rfl)) (pgs_cons (pg_name (i := 6) sc_ct.nd rfl (Or.inl rfl)) pgs_nil)))
      (pss_cons (ps_set (i := 7) sc_ct.nd rfl (Or.inl rfl) (pcall L hr rfl (pa_cons (pv 0) (pa_cons (pv 6) (pa_cons (pcall S1 hr rfl (pa_cons (pv 0) (pa_cons (pv 3) (pa_cons (pv 5) pa_nil)))) pa_nil)))))
      (pss_cons (ps_set (i := 8) sc_ct.nd rfl (Or.inl rfl) (pcall S1 hr rfl (pa_cons (pv 0) (pa_cons (pv 4) (pa_cons (pv 5) pa_nil)))))
      (pss_cons (ps_set (i := 9) sc_ct.nd rfl (Or.inl rfl) (pcall M hr rfl (pa_cons (pv 0) (pa_cons (pv 7) (pa_cons (pcall IV hr rfl (pa_cons (pv 0) (pa_cons (pv 8) pa_nil))) pa_nil)))))
      (pss_cons (ps_set (i := 3) sc_ct.nd rfl (Or.inl rfl) (pcall SU hr rfl (pa_cons (pv 0) (pa_cons (pe_op op_cat (pv 3) (pe_lst (pa_cons pe_int pa_nil))) (pa_cons (pcall SC hr rfl (pa_cons (pv 0) (pa_cons (pv 4) (pa_cons (pv 9) pa_nil)))) pa_nil)))))
      (pss_one (ps_set (i := 4) sc_ct.nd rfl (Or.inl rfl) (pcall WO hr rfl (pa_cons (pv 0) (pa_cons (pv 4) (pa_cons (pv 5) pa_nil)))))))))))
    (pss_one (ps_ret (pv 3))))), ?_⟩
  refine ⟨by show 0 ≤ sizeLine; decide, fun c0 h0 => ⟨by show 1 ≤ sizeLine; decide, fun c1 h1 => ?_⟩⟩
  have g0 : Same H (upd (upd H c0 (.lst [])) c1 (.lst [.int 1])) := (same_new h0 _).trans (same_new h1 _)
  have e0 : (upd (upd H c0 (.lst [])) c1 (.lst [.int 1])) c0 = some (.lst []) := (same_new h1 _) _ _ upd_same
  have e1 : (upd (upd H c0 (.lst [])) c1 (.lst [.int 1])) c1 = some (.lst [.int 1]) := upd_same
  have f0 : H c0 = none := h0
  generalize (upd (upd H c0 (.lst [])) c1 (.lst [.int 1])) = H1 at g0 e0 e1 ⊢
  refine ⟨_, rfl, _, rfl, a, b, _, _, rfl, g0.seq ha, g0.seq hb, ?_⟩
  have hmin : min (xs.map V.int).length (ss.map V.int).length = (xs.zip ss).length := by simp
  refine for_zip (xs := xs.map V.int) (ys := ss.map V.int) (fun i σ H' => i ≤ (xs.zip ss).length ∧ Same H H' ∧ ∃ (rc rn : Addr) (o5 o6 o7 o8 o9 : Option V), σ = [some (.int p), some (.ref a), some (.ref b), some (.ref rc), some (.ref rn), o5, o6, o7, o8, o9] ∧
    H' rc = some (.lst ((stI p xs ss i).1.map V.int)) ∧ H' rn = some (.lst ((stI p xs ss i).2.map V.int)) ∧ H rc = none) ⟨Nat.zero_le _, g0, c0, c1, none, none, none, none, none, rfl, e0, e1, f0⟩ (fun i σ H' _ h => ⟨h.2.1.seq ha, h.2.1.seq hb⟩) ?_ ?_
  · rintro i v u t σ H2 hv hu ht ⟨hi, g, rc, rn, o5, o6, o7, o8, o9, rfl, ec, en, fc⟩
    obtain ⟨v, rfl, hv'⟩ := get_int hv
    replace hv := hv'
    obtain ⟨u, rfl, hu'⟩ := get_int hu
    replace hu := hu'
    have hzip : (xs.zip ss)[i]? = some (v, u) := by rw [List.getElem?_zip_eq_some]; exact ⟨hv, hu⟩
    have hlt : i < (xs.zip ss).length := (List.getElem?_eq_some_iff.mp hzip).1
    have hls : i < 800 := by have : (xs.zip ss).length ≤ xs.length := by simp; (first | lia | omega)
                             (first | lia | omega)
    have hst : stI p xs ss (i + 1) = SM.ctTurn p (stI p xs ss i) (v, u) := foldl_snoc hzip
    have hlen := stI_len (p := p) hi
    have hxv := hx v (List.mem_of_getElem? hv)
    generalize stI p xs ss i = st at ec en hst hlen
    have gt : Same H2 (upd H2 t (.tup [.int v, .int u])) := same_new ht _
    have g3 := g.trans gt
    have ec3 := gt _ _ ec
    have en3 := gt _ _ en
    refine ⟨t, _, rfl, SqT.of upd_same, rfl, _, _, rfl, _, _, rfl, rfl, ?_⟩
    generalize (upd H2 t (.tup [.int v, .int u])) = H3 at gt g3 ec3 en3 ⊢
    have bh := signAt_mem hp st.2 v
    refine ⟨_, rfl, _, rfl, _, rfl, _, rfl, _, rfl, p, rc, v, st.1, rfl, hp, hpm, SqL.of ec3, p, u, _, rfl, hp, ?_⟩
    have bm := md (a := u - SM.signAt p st.1 v) hp
    refine ⟨_, rfl, _, rfl, _, rfl, p, rn, v, st.2, rfl, hp, hpm, SqL.of en3, ?_⟩
    refine ⟨_, rfl, _, rfl, _, rfl, _, rfl, p, _, rfl, hp2, hpm, bh.1, bh.2, p, _, _, rfl, hp, cml bm.1 bm.2 hpm, ?_⟩
    have bs := md (a := (u - SM.signAt p st.1 v) % p * SM.inv p (SM.signAt p st.2 v)) hp
    refine ⟨_, rfl, _, rfl, by show 1 ≤ sizeLine; decide, fun p1 h1 => ⟨rc, p1, _, _, rfl, rfl, (same_new h1 _) _ _ ec3, upd_same, small (by simp; (first | lia | omega)), fun p2 h2 => ?_⟩⟩
    have g4 : Same H3 (upd (upd H3 p1 (.lst [.int 0])) p2 (.lst (st.1.map V.int ++ [.int 0]))) := (same_new h1 _).trans (same_new h2 _)
    have e2 : (upd (upd H3 p1 (.lst [.int 0])) p2 (.lst (st.1.map V.int ++ [.int 0]))) p2 = some (.lst ((st.1 ++ [0]).map V.int)) := by rw [upd_same]; simp
    generalize (upd (upd H3 p1 (.lst [.int 0])) p2 (.lst (st.1.map V.int ++ [.int 0]))) = H4 at g4 e2 ⊢
    refine ⟨_, rfl, _, rfl, _, rfl, p, rn, _, st.2, rfl, hp, ⟨by (first | lia | omega), by (first | lia | omega)⟩, SqL.of (g4 _ _ en3), by (first | lia | omega), fun p3 H5 g5 n5 e5 => ?_⟩
    refine ⟨p, p2, p3, _, _, rfl, hp, SqL.of (g5 _ _ e2), SqL.of e5, by simp; (first | lia | omega), fun p4 H6 g6 n6 e6 => ?_⟩
    have g7 := g4.trans (g5.trans g6)
    refine ⟨_, rfl, _, rfl, _, rfl, p, rn, v, st.2, rfl, hp, hxv, g7 _ _ en3, by (first | lia | omega), fun p5 H7 g8 n8 e8 => ?_⟩
    refine ⟨by (first | lia | omega), g3.trans (g7.trans g8), p4, p5, _, _, _, _, _, rfl, ?_, ?_, (g3.trans (g4.trans g5)).free n6⟩
    · rw [hst]; exact g8 _ _ e6
    · rw [hst]; exact e8
  · rw [hmin]
    rintro σ H2 ⟨hi, g, rc, rn, o5, o6, o7, o8, o9, rfl, ec, en, fc⟩
    refine ⟨_, rfl, q rc H2 g fc ?_⟩
    rw [ec]
    unfold stI SM.ct
    rw [List.take_length]
theorem sc_is_sign : FnScope ["prime", "number"] ["prime", "number"] (defScope (top 11)) := ⟨rfl, rfl, rfl, by decide +kernel, rfl, by decide +kernel, by decide +kernel⟩
theorem ok_is_sign (D : Def K mg "is_sign" ["prime", "number"] (top 11)) : Has P w K mg base 1 "is_sign" ["prime", "number"] spIsSign := by
  refine D.ok sc_is_sign (fun vs H Q E h => by obtain ⟨p, a, rfl, _⟩ := h; rfl) fun f cdv A outer s H vs Q E hr h => ?_
  obtain ⟨p, a, rfl, q⟩ := h
  refine ⟨_, pss_one (ps_ret (pe_and (pe_cmpR op_ge (pv 1) pe_int (nomark _)) (pe_one (pe_cmpR op_lt (pv 1) (pv 0) (nomark _))))), ?_⟩
  refine ⟨_, rfl, _, _, rfl, rfl, _, rfl, ite2 (fun c => ⟨_, rfl, _, rfl, _, _, rfl, rfl, ?_⟩) (fun c => ?_)⟩
  · have h0 : (0 : Int) ≤ a := of_decide_eq_true c
    show Q (.bl (decide (a < p))) H
    rw [show decide (a < p) = decide (0 ≤ a ∧ a < p) from decide_eq_decide.mpr ⟨fun h => ⟨h0, h⟩, fun h => h.2⟩]
    exact q
  · have h0 : ¬ (0 : Int) ≤ a := fun z => c (decide_eq_true z)
    show Q (.bl false) H
    rw [show false = decide (0 ≤ a ∧ a < p) from (decide_eq_false fun h => h0 h.1).symm]
    exact q
end
end Sy
namespace Sy
open PySem PySem.Spec L2 L3
open PyProof.Rows hiding St
seal L2.PSs L2.PS L2.PE L2.PT L2.PW L2.PA L2.PG L2.PGs L2.PI L3.PIf
section
variable {P : Program} {w : World} {K : PySem.W.Frag} {mg : Str → Option Value} {base : Heap}
theorem sc_lengthened : FnScope ["prime", "word", "length"] ["prime", "word", "length"] (defScope (top 30)) := ⟨rfl, rfl, rfl, by decide +kernel, rfl, by decide +kernel, by decide +kernel⟩
theorem ok_lengthened (D : Def K mg "lengthened" ["prime", "word", "length"] (top 30)) (hl : mg "list" = none) (hrng : mg "range" = none) (hlen : mg "len" = none) (AL : Has P w K mg base 3 "signs_along" ["prime", "curve", "length"] (spAlong K))
    (CT : Has P w K mg base 4 "curve_through" ["prime", "places", "signs"] (spCt K)) : Has P w K mg base 5 "lengthened" ["prime", "word", "length"] (spLonger K) := by
  refine D.ok sc_lengthened (fun vs H Q E h => by obtain ⟨p, a, ws, n, rfl, _⟩ := h; rfl) fun f cdv A outer s H vs Q E hr h => ?_
  obtain ⟨p, a, ws, n, rfl, hp2, hpm, hn, ha, hw, q⟩ := h
  refine ⟨_, pss_one (ps_ret (pcall AL hr rfl (pa_cons (pv 0) (pa_cons (pcall CT hr rfl (pa_cons (pv 0) (pa_cons (pe_callTy (call_list_rng rfl) rfl hl bt_list (pa_cons (pe_callTy call_rangeV rfl hrng bt_range
    (pa_cons (pe_callB (call_len_seqK K rfl) rfl hlen PySem.boot_len (pa_cons (pv 1) pa_nil)) pa_nil)) pa_nil)) (pa_cons (pv 1) pa_nil)))) (pa_cons (pv 2) pa_nil))))), ?_⟩
  have hz : (ws.map V.int).length = ws.length := List.length_map ..
  refine ⟨_, rfl, _, rfl, _, rfl, a, _, rfl, .inl ha, _, rfl, fun r1 h1 => ⟨r1, 0, _, rfl, upd_same, by rw [hz]; (first | lia | omega), by rw [hz]; exact small (by (first | lia | omega)), by rw [hz]; (first | lia | omega), fun r2 h2 => ?_⟩⟩
  have g1 : Same H (upd H r1 (.rng 0 ((ws.map V.int).length : Int))) := same_new h1 _
  have e0 : ((((ws.map V.int).length : Nat) : Int) - 0).toNat = ws.length := by rw [hz]; (first | lia | omega)
  rw [e0, rngV_eq]
  have g2 := g1.trans (same_new h2 (.lst ((SM.rng ws.length).map V.int)))
  refine ⟨_, rfl, p, r2, a, SM.rng ws.length, ws, rfl, hp2, hpm, SqL.of upd_same, g2.seq ha, by simpa [SM.rng] using hw, fun x hx => ?_, fun r3 H3 g3 n3 e3 => ?_⟩
  · obtain ⟨k, hk, rfl⟩ := List.mem_map.mp hx
    have := List.mem_range.mp hk
    (first | lia | omega)
  refine ⟨_, rfl, p, r3, n, _, rfl, by (first | lia | omega), hpm, hn, SqL.of e3, fun r4 H4 g4 n4 e4 => q r4 H4 (g2.trans (g3.trans g4)) ((g2.trans g3).free n4) e4⟩
end
end Sy
namespace Sy
open PySem PySem.Spec L2 L3
open PyProof.Rows hiding St
seal L2.PSs L2.PS L2.PE L2.PT L2.PW L2.PA L2.PG L2.PGs L2.PI L3.PIf
inductive spPowers : List V → Hp → VK → XK → Prop
  | mk {vs : List V} {H : Hp} {Q : VK} {E_ : XK} (p x : Int) (k : Nat) (z_0 : vs = [.int p, .int x, .int (k : Int)]) (z_1 : 0 < p) (z_2 : (-(2 ^ 64) < x ∧ x < 2 ^ 64)) (z_3 : k ≤ 1000) (z_4 : NewL H (SM.powersOf p x k) Q) : spPowers  vs H Q E_
inductive spWithout : List V → Hp → VK → XK → Prop
  | mk {vs : List V} {H : Hp} {Q : VK} {E_ : XK} (p : Int) (a b : Addr) (c u : Nat) (row o : List Int) (z_0 : vs = [.int p, .ref a, .int (c : Int), .ref b]) (z_1 : 0 < p) (z_2 : p ≤ 1000) (z_3 : H a = some (.lst (row.map V.int))) (z_4 : H b = some (.lst (o.map V.int))) (z_5 : SM.Rw p u row) (z_6 : SM.Rw p u o) (z_7 : c < u + 1) (z_8 : u ≤ 900) (z_9 : SomeL H (SM.without p row c o) Q) : spWithout  vs H Q E_
def vL : Option Nat → V
  | none => .non
  | some l => .int (l : Int)
inductive spFirst (K : PySem.W.Frag) : List V → Hp → VK → XK → Prop
  | mk {vs : List V} {H : Hp} {Q : VK} {E_ : XK} (a : Addr) (row : List Int) (z_0 : vs = [.ref a]) (z_1 : IL K H a row) (z_2 : ∀ H', Same H H' → Q (vL (SM.firstNot row)) H') : spFirst K vs H Q E_
inductive spRest : List V → Hp → VK → XK → Prop
  | mk {vs : List V} {H : Hp} {Q : VK} {E_ : XK} (p : Int) (a k : Addr) (u : Nat) (row : List Int) (ts : List Addr) (kept : SM.Kp) (z_0 : vs = [.int p, .ref a, .ref k]) (z_1 : 0 < p) (z_2 : p ≤ 1000) (z_3 : H a = some (.lst (row.map V.int))) (z_4 : H k = some (.lst (ts.map V.ref))) (z_5 : KT H ts kept) (z_6 : SM.Rw p u row) (z_7 : (∀ q ∈ kept, SM.Rw p u q.2)) (z_8 : (∀ q ∈ kept, q.1 < u + 1)) (z_9 : u ≤ 900) (z_10 : SomeL H (SM.restB p row kept) Q) : spRest  vs H Q E_
inductive spSolved : List V → Hp → VK → XK → Prop
  | mk {vs : List V} {H : Hp} {Q : VK} {E_ : XK} (p : Int) (a : Addr) (u : Nat) (rs : List Addr) (rows : List (List Int)) (z_0 : vs = [.int p, .ref a, .int (u : Int)]) (z_1 : Ok p) (z_2 : H a = some (.lst (rs.map V.ref))) (z_3 : LL H rs rows) (z_4 : (∀ r ∈ rows, SM.Rw p u r)) (z_5 : u ≤ 400) (z_6 : rows.length ≤ 400) (z_7 : (SM.solved p rows u = none → ∀ H', Same H H' → Q .non H')) (z_8 : ∀ an, SM.solved p rows u = some an → NewL H an Q) : spSolved  vs H Q E_
inductive spEquation : List V → Hp → VK → XK → Prop
  | mk {vs : List V} {H : Hp} {Q : VK} {E_ : XK} (p x s : Int) (n room : Nat) (z_0 : vs = [.int p, .int x, .int s, .int (n : Int), .int (room : Int)]) (z_1 : 0 < p) (z_2 : p ≤ 1000) (z_3 : (-(2 ^ 64) < x ∧ x < 2 ^ 64)) (z_4 : (-(2 ^ 64) < s ∧ s < 2 ^ 64)) (z_5 : 1 ≤ n) (z_6 : n ≤ 200) (z_7 : room ≤ 200) (z_8 : NewL H (SM.equation p x s n room) Q) : spEquation  vs H Q E_
inductive spDivided (K : PySem.W.Frag) : List V → Hp → VK → XK → Prop
  | mk {vs : List V} {H : Hp} {Q : VK} {E_ : XK} (p : Int) (a b : Addr) (ov un : List Int) (z_0 : vs = [.int p, .ref a, .ref b]) (z_1 : 0 < p) (z_2 : p ≤ 1000) (z_3 : IL K H a ov) (z_4 : IL K H b un) (z_5 : (∀ s ∈ ov, 0 ≤ s ∧ s < p)) (z_6 : ov.length ≤ 900) (z_7 : 1 ≤ un.length) (z_8 : un.length ≤ 900) (z_9 : NewL H (SM.divided p ov un) Q) : spDivided K vs H Q E_
inductive spOnly (K : PySem.W.Frag) : List V → Hp → VK → XK → Prop
  | mk {vs : List V} {H : Hp} {Q : VK} {E_ : XK} (p : Int) (a b : Addr) (n room : Nat) (xs ss : List Int) (z_0 : vs = [.int p, .ref a, .ref b, .int (n : Int), .int (room : Int)]) (z_1 : Ok p) (z_2 : IL K H a xs) (z_3 : IL K H b ss) (z_4 : (∀ x ∈ xs, 0 ≤ x ∧ x < 1000)) (z_5 : (∀ s ∈ ss, 0 ≤ s ∧ s < p)) (z_6 : 1 ≤ n) (z_7 : n ≤ 100) (z_8 : room ≤ 100) (z_9 : xs.length ≤ 400) (z_10 : (SM.onlyC p xs ss n room = none → ∀ H', Same H H' → Q .non H')) (z_11 : ∀ c, SM.onlyC p xs ss n room = some c → NewL H c Q) : spOnly K vs H Q E_
theorem get_at {row : List Int} {k : Nat} (h : k < row.length) : atI (row.map V.int) (k : Int) = some (.int (row.getD k 0)) := by
  refine atI_nat ?_
  rw [List.getElem?_map, List.getElem?_eq_getElem h, List.getD_eq_getElem?_getD, List.getElem?_eq_getElem h]; rfl
theorem same_up {H H' : Hp} {r : Addr} {o : HO} (g : Same H H') (h : H r = none) : Same H (upd H' r o) := fun b u e => by rw [upd_ne (ne_of_none e h)]; exact g b u e
theorem powGo_small {p : Int} (hp : 0 < p) (hpm : p ≤ 1000) : ∀ (f : Nat) (r q : Int) (n : Nat), 0 ≤ r → r ≤ 1000 → 0 ≤ SM.powGo p f r q n ∧ SM.powGo p f r q n ≤ 1000
  | 0, r, _, _, h0, h1 => ⟨h0, h1⟩
  | f + 1, r, q, n, h0, h1 => by
    show 0 ≤ (if n = 0 then r else SM.powGo p f (if n % 2 = 1 then (r * q) % p else r) ((q * q) % p) (n / 2)) ∧ (if n = 0 then r else SM.powGo p f (if n % 2 = 1 then (r * q) % p else r) ((q * q) % p) (n / 2)) ≤ 1000
    split
    · exact ⟨h0, h1⟩
    · have m := md (a := r * q) hp
      split
      · exact powGo_small hp hpm f _ _ _ m.1 (by (first | lia | omega))
      · exact powGo_small hp hpm f _ _ _ h0 h1
theorem inv_small {p a : Int} (hp2 : 2 ≤ p) (hpm : p ≤ 1000) : -(2 ^ 64) < SM.inv p a ∧ SM.inv p a < 2 ^ 64 := by
  have h := powGo_small (p := p) (by (first | lia | omega)) hpm ((p - 2).toNat + 1) 1 a (p - 2).toNat (by (first | lia | omega)) (by (first | lia | omega))
  have h' : 0 ≤ SM.inv p a ∧ SM.inv p a ≤ 1000 := h
  (first | lia | omega)
section
variable {P : Program} {w : World} {K : PySem.W.Frag} {mg : Str → Option Value} {base : Heap}
theorem sc_powers : FnScope ["prime", "place", "count", "powers", "following"] ["prime", "place", "count"] (defScope (top 22)) := ⟨rfl, rfl, rfl, by decide +kernel, rfl, by decide +kernel, by decide +kernel⟩
theorem ok_powers (D : Def K mg "powers_of" ["prime", "place", "count"] (top 22)) (hlen : mg "len" = none) (M : Has P w K mg base 1 "multiplied" ["prime", "one", "two"] spMul) : Has P w K mg base 2 "powers_of" ["prime", "place", "count"] spPowers := by
  refine D.ok sc_powers (fun vs H Q E h => by obtain ⟨p, a, b, rfl, _⟩ := h; rfl) fun f cdv A outer s H vs Q E hr h => ?_
  obtain ⟨p, x, k, rfl, hp, hx, hk, q⟩ := h
  refine ⟨_, (pss_cons (ps_set (i := 3) sc_powers.nd rfl (Or.inl rfl) (pe_lst pa_nil))
    (pss_cons (ps_set (i := 4) sc_powers.nd rfl (Or.inl rfl) pe_int)
    (pss_cons (ps_while PassesOwn.never (pt_cmpR op_lt (pe_callB (call_len_seqK K rfl) rfl hlen PySem.boot_len (pa_cons (pv 3) pa_nil)) (pv 2) (nomark _)) (pss_cons (ps_expr (pe_bm PySem.F.plainAttrs_list PySem.F.slot_list_append PySem.F.type_list_append mt_append (pv 3) (pa_cons (pv 4) pa_nil)))
    (pss_one (ps_set (i := 4) sc_powers.nd rfl (Or.inl rfl) (pcall M hr rfl (pa_cons (pv 0) (pa_cons (pv 4) (pa_cons (pv 1) pa_nil))))))))
    (pss_one (ps_ret (pv 3)))))), ?_⟩
  refine ⟨by show 0 ≤ sizeLine; decide, fun r0 h0 => ?_⟩
  have g0 : Same H (upd H r0 (.lst [])) := same_new h0 _
  refine while_by (fun σ H' => Same H H' ∧ ∃ i : Nat, i ≤ k ∧ H' r0 = some (.lst ((SM.powersOf p x i).map V.int)) ∧ σ = [some (.int p), some (.int x), some (.int (k : Int)), some (.ref r0), some (.int (SM.pwI p x i))])
    (fun _ H' => k - mLen H' (some (some (.ref r0)))) ⟨g0, 0, Nat.zero_le _, upd_same, rfl⟩ ?_ ?_
  · rintro σ H' ⟨g, i, hi, e, rfl⟩
    have hz : ((SM.powersOf p x i).map V.int).length = i := by rw [List.length_map, SM.powersOf_len]
    refine ⟨_, rfl, r0, _, rfl, .inl (SqL.of e), _, rfl, _, _, rfl, rfl, _, rfl, ?_⟩
    refine ite2 (fun c => ?_) (fun c => ?_)
    · have hlt : i < k := by
        have := of_decide_eq_true c
        rw [hz] at this
        (first | lia | omega)
      refine ⟨_, rfl, .inl ⟨rfl, _, SqL.of e⟩, _, rfl, r0, _, _, rfl, rfl, e, Nat.lt_of_le_of_lt (by rw [hz]; (first | lia | omega)) (small1000 (n := 1000) (Nat.le_refl _)), ?_⟩
      refine ⟨_, rfl, _, rfl, _, rfl, p, SM.pwI p x i, x, rfl, hp, .inr hx, ⟨same_up g h0, i + 1, by (first | lia | omega), ?_, rfl⟩, ?_⟩
      · rw [upd_same]; simp [SM.powersOf, List.range_succ]
      · have m1 : mLen (upd H' r0 (.lst ((SM.powersOf p x i).map V.int ++ [.int (SM.pwI p x i)]))) (some (some (.ref r0))) = ((SM.powersOf p x i).map V.int ++ [V.int (SM.pwI p x i)]).length := by unfold mLen; dsimp only; rw [upd_same]
        have m2 : mLen H' (some (some (.ref r0))) = ((SM.powersOf p x i).map V.int).length := by unfold mLen; dsimp only; rw [e]
        show k - mLen (upd H' r0 (.lst ((SM.powersOf p x i).map V.int ++ [.int (SM.pwI p x i)]))) (some (some (.ref r0))) < k - mLen H' (some (some (.ref r0)))
        rw [m1, m2, List.length_append, hz]
        show k - (i + 1) < k - i
        (first | lia | omega)
    · have hik : i = k := by
        have : ¬ (((SM.powersOf p x i).map V.int).length : Int) < (k : Int) := fun z => c (decide_eq_true z)
        rw [hz] at this
        (first | lia | omega)
      subst hik
      exact ⟨_, rfl, q r0 H' g h0 e⟩
  · rintro σ H' Q1 Q2 hQ ⟨v, e, a, ys, e1, e2, v2, e3, i, j, e4, e5, k, e6, h⟩
    exact ⟨v, e, a, ys, e1, e2, v2, e3, i, j, e4, e5, k, e6, hQ _ _ h⟩
theorem sc_without : FnScope ["prime", "row", "column", "other", "times"] ["prime", "row", "column", "other"] (defScope (top 36)) := ⟨rfl, rfl, rfl, by decide +kernel, rfl, by decide +kernel, by decide +kernel⟩
theorem ok_without (D : Def K mg "without" ["prime", "row", "column", "other"] (top 36)) (hz : mg "zip" = none) : Has P w K mg base 1 "without" ["prime", "row", "column", "other"] spWithout := by
  refine D.ok sc_without (fun vs H Q E h => by obtain ⟨p, a, b, c, u, row, o, rfl, _⟩ := h; rfl) fun f cdv A outer s H vs Q E hr h => ?_
  obtain ⟨p, a, b, c, u, row, o, rfl, hp, hpm, ha, hb, R1, R2, hc, hu, q⟩ := h
  refine ⟨_, (pss_cons (ps_set (i := 4) sc_without.nd rfl (Or.inr rfl) (pe_ix (ix_listK K rfl) (pv 1) (pv 2) (fun _ _ => rfl)))
    (pss_cons (ps_if (pt_cmpR op_eq (pv 4) pe_int (nomark _)) (pss_one (ps_ret (pv 1))) pss_nil)
    (pss_one (ps_ret (pe_comp (N' := ["number", "taken", "prime", "times"]) (ix := [none, none, some 0, some 4]) rfl
      ⟨rfl, by decide +kernel, by decide +kernel, by with_unfolding_all rfl, by exact ⟨rfl, rfl, trivial⟩, by exact ⟨⟨_, rfl⟩, ⟨_, rfl⟩, trivial⟩, by exact ⟨⟨rfl, rfl, rfl⟩, ⟨rfl, rfl, rfl⟩, trivial⟩⟩
      (pi_zipK K rfl rfl hz (pa_cons (pv 1) (pa_cons (pv 3) pa_nil)))
      fun C ex pn s H => ⟨pg_tupK (n := 2) K rfl rfl (pgs_cons (pg_name (i := 0) (show (["number", "taken", "prime", "times"] : List Str).Nodup by decide +kernel) rfl (Or.inl rfl)) (pgs_cons (pg_name (i := 1) (show (["number", "taken", "prime", "times"] : List Str).Nodup by decide +kernel) rfl (Or.inl rfl)) pgs_nil)), pif_nil,
        pe_op op_mod (pe_op op_sub (pv 0) (pe_op op_mul (pv 3) (pv 1))) (pv 2)⟩))))), ?_⟩
  have hcl : c < row.length := by rw [R1.len]; exact hc
  refine ⟨_, rfl, _, rfl, a, _, _, _, rfl, rfl, SqL.of ha, get_at hcl, ?_⟩
  refine ⟨_, rfl, rfl, _, rfl, ?_⟩
  by_cases h0 : row.getD c 0 = 0
  · refine ite_yes (congrArg V.int h0) ⟨_, rfl, q a H (Same.refl H) ?_⟩
    unfold SM.without
    rw [if_pos h0]; exact ha
  · refine ite_no (fun z => h0 (by injection z)) ?_
    refine ⟨_, rfl, _, rfl, a, b, _, _, rfl, SqL.of ha, SqL.of hb, ?_⟩
    refine comp_zip (fun i zs H' => Same H H' ∧ zs = (List.zipWith (fun n t => (n - row.getD c 0 * t) % p) (row.take i) (o.take i)).map V.int) ⟨Same.refl H, rfl⟩ (fun i zs H' h => ⟨SqL.of (h.1 _ _ ha), SqL.of (h.1 _ _ hb)⟩) ?_ (fun i zs H' h => ?_) ?_
    · rintro i v t r zs H' hv ht hr' ⟨g, rfl⟩
      obtain ⟨v, rfl, hv'⟩ := get_int hv
      obtain ⟨t, rfl, ht'⟩ := get_int ht
      have bt := R2.sg t (List.mem_of_getElem? ht')
      refine ⟨small (by rw [List.length_map]; exact zip_len_le (by rw [R1.len]; (first | lia | omega)) i), r, _, rfl, SqT.of upd_same, rfl, _, _, rfl, _, _, rfl, rfl, ⟨rfl, rfl, trivial⟩, ⟨_, rfl, _, rfl, _, rfl, _, _, rfl, rfl, cmr bt.1 bt.2 hpm, _, _, rfl, rfl, _, rfl, _, _, rfl, rfl, hp, g.trans (same_new hr' _), ?_⟩⟩
      rw [zip_take hv' ht']; simp
    · rw [h.2, List.length_map]
      exact small (zip_len_le (by rw [R1.len]; (first | lia | omega)) i)
    · rintro zs H' ⟨g, rfl⟩ r hr'
      refine q r _ (g.trans (same_new hr' _)) ?_
      rw [upd_same, List.length_map, List.length_map, zip_all]
      unfold SM.without
      rw [if_neg h0]
theorem sc_first : FnScope ["row", "column", "number"] ["row"] (defScope (top 37)) := ⟨rfl, rfl, rfl, by decide +kernel, rfl, by decide +kernel, by decide +kernel⟩
theorem ok_first (D : Def K mg "first_not_nought" ["row"] (top 37)) (he : mg "enumerate" = none) : Has P w K mg base 1 "first_not_nought" ["row"] (spFirst K) := by
  refine D.ok sc_first (fun vs H Q E h => by obtain ⟨a, row, rfl, _⟩ := h; rfl) fun f cdv A outer s H vs Q E hr h => ?_
  obtain ⟨a, row, rfl, ha, q⟩ := h
  refine ⟨_, (pss_cons (ps_for PassesOwn.never rfl (pi_enum rfl he (pa_cons (pv 0) pa_nil)) (pg_tupK K rfl rfl (pgs_cons (pg_name (i := 1) sc_first.nd rfl (Or.inl rfl)) (pgs_cons (pg_name (i := 2) sc_first.nd rfl (Or.inl rfl)) pgs_nil)))
      (pss_one (ps_if (pt_cmpR op_ne (pv 2) pe_int (nomark _)) (pss_one (ps_ret (pv 1))) pss_nil)))
    (pss_one (ps_ret pe_non))), ?_⟩
  refine ⟨_, rfl, a, _, rfl, ha, ?_⟩
  refine for_enum (xs := row.map V.int) (fun i σ H' => Same H H' ∧ SM.fnn row (row.length - i) i = SM.firstNot row ∧ ∃ o1 o2 : Option V, σ = [some (.ref a), o1, o2]) ⟨Same.refl H, rfl, none, none, rfl⟩ (fun i σ H' _ h => h.1.seq ha) ?_ ?_
  · rintro i v t σ H' hv ht ⟨g, e, o1, o2, rfl⟩
    obtain ⟨v, rfl, hv'⟩ := get_int hv
    have hi := (List.getElem?_eq_some_iff.mp hv').1
    have hg : row.getD i 0 = v := by rw [List.getD_eq_getElem?_getD, hv']; rfl
    have g2 := g.trans (same_new ht (.tup [.int (i : Int), .int v]))
    obtain ⟨f, hf⟩ : ∃ f, row.length - i = f + 1 := ⟨row.length - i - 1, by (first | lia | omega)⟩
    rw [hf] at e
    unfold SM.fnn at e
    rw [hg] at e
    refine ⟨t, _, rfl, SqT.of upd_same, rfl, _, _, rfl, _, _, rfl, rfl, ?_⟩
    refine ⟨_, rfl, rfl, _, rfl, ?_⟩
    by_cases h0 : v = 0
    · rw [if_pos h0] at e
      have hd : (!decide (V.int v = V.int 0)) = false := by rw [decide_eq_true (congrArg V.int h0)]; rfl
      rw [hd]
      exact iteF ⟨g2, by rw [show row.length - (i + 1) = f by (first | lia | omega)]; exact e, _, _, rfl⟩
    · rw [if_neg h0] at e
      have hd : (!decide (V.int v = V.int 0)) = true := by rw [decide_eq_false (fun z => h0 (by injection z))]; rfl
      rw [hd]
      refine iteT ⟨_, rfl, ?_⟩
      have := q _ g2
      rw [← e] at this
      exact this
  · rintro σ H' ⟨g, e, o1, o2, rfl⟩
    have := q _ g
    rw [List.length_map, Nat.sub_self] at e
    rw [← e] at this
    exact this
theorem sc_rest : FnScope ["prime", "row", "kept", "rest", "column", "other"] ["prime", "row", "kept"] (defScope (top 38)) := ⟨rfl, rfl, rfl, by decide +kernel, rfl, by decide +kernel, by decide +kernel⟩
theorem ok_rest (D : Def K mg "rest_beside" ["prime", "row", "kept"] (top 38)) (W : Has P w K mg base 1 "without" ["prime", "row", "column", "other"] spWithout) : Has P w K mg base 2 "rest_beside" ["prime", "row", "kept"] spRest := by
  refine D.ok sc_rest (fun vs H Q E h => by obtain ⟨p, a, k, u, row, ts, kept, rfl, _⟩ := h; rfl) fun f cdv A outer s H vs Q E hr h => ?_
  obtain ⟨p, a, k, u, row, ts, kept, rfl, hp, hpm, ha, hk, kt, R, RK, LK, hu, q⟩ := h
  refine ⟨_, (pss_cons (ps_set (i := 3) sc_rest.nd rfl (Or.inl rfl) (pv 1))
    (pss_cons (ps_for PassesOwn.never rfl (pi_listK K rfl (pv 2)) (pg_tupK K rfl rfl (pgs_cons (pg_name (i := 4) sc_rest.nd rfl (Or.inl rfl)) (pgs_cons (pg_name (i := 5) sc_rest.nd rfl (Or.inl rfl)) pgs_nil)))
      (pss_one (ps_set (i := 3) sc_rest.nd rfl (Or.inl rfl) (pcall W hr rfl (pa_cons (pv 0) (pa_cons (pv 3) (pa_cons (pv 4) (pa_cons (pv 5) pa_nil))))))))
    (pss_one (ps_ret (pv 3))))), ?_⟩
  refine ⟨_, rfl, _, rfl, k, rfl, ⟨_, SqL.of hk⟩, ?_⟩
  refine for_list (xs := ts.map V.ref) (fun i σ H' => Same H H' ∧ ∃ (r : Addr) (o4 o5 : Option V), H' r = some (.lst ((SM.restB p row (kept.take i)).map V.int)) ∧ SM.Rw p u (SM.restB p row (kept.take i)) ∧ σ = [some (.int p), some (.ref a), some (.ref k), some (.ref r), o4, o5])
    ⟨Same.refl H, a, none, none, ha, R, rfl⟩ (fun i σ H' _ h => SqL.of (h.1 _ _ hk)) ?_ ?_
  · rintro i v σ H' hv ⟨g, r, o4, o5, er, Rr, rfl⟩
    obtain ⟨t, rfl, ht⟩ := get_ref hv
    obtain ⟨qq, ro, hq, e1, e2⟩ := kt.get ht
    have hm := List.mem_of_getElem? hq
    have hsn : kept.take (i + 1) = kept.take i ++ [qq] := take_snoc hq
    have hst : SM.restB p row (kept.take (i + 1)) = SM.without p (SM.restB p row (kept.take i)) qq.1 qq.2 := by
      unfold SM.restB
      rw [hsn, List.foldl_append]; rfl
    refine ⟨t, _, rfl, SqT.of (g _ _ e1), rfl, _, _, rfl, _, _, rfl, rfl, ?_⟩
    refine ⟨_, rfl, _, rfl, _, rfl, _, rfl, p, r, ro, qq.1, u, _, qq.2, rfl, hp, hpm, er, g _ _ e2, Rr, RK qq hm, LK qq hm, hu, fun r2 H2 g2 e2' => ?_⟩
    refine ⟨g.trans g2, r2, _, _, ?_, ?_, rfl⟩
    · rw [hst]; exact e2'
    · rw [hst]; exact SM.without_rw hp Rr (RK qq hm)
  · rintro σ H' ⟨g, r, o4, o5, er, Rr, rfl⟩
    refine ⟨_, rfl, q r H' g ?_⟩
    rw [er, List.length_map, kt.len, List.take_length]
end
end Sy
namespace Sy
open PySem PySem.Spec L2 L3
open PyProof.Rows hiding St
seal L2.PSs L2.PS L2.PE L2.PT L2.PW L2.PA L2.PG L2.PGs L2.PI L3.PIf
theorem rep_nought (u : Nat) : (List.replicate u [V.int 0]).flatten = (List.replicate u (0 : Int)).map V.int := by
  induction u with
  | zero => rfl
  | succ u ih => rw [List.replicate_succ, List.flatten_cons, ih, List.replicate_succ, List.map_cons]; rfl
theorem vi_ne {a b : Nat} (h : a ≠ b) : ¬ V.int (a : Int) = V.int (b : Int) := fun z => h (by injection z with z; (first | lia | omega))
theorem ixN_nat {k n : Nat} (h : k < n) : ixN n (k : Int) = some k := by
  unfold ixN
  rw [if_pos (by (first | lia | omega))]
  first
  | (rw [if_pos (by (first | lia | omega))]; simp)
  | simp; (first | lia | omega)
theorem drop_get' {α : Type} {cs : List α} {i : Nat} {a : α} (h : cs[i]? = some a) : cs.drop i = a :: cs.drop (i + 1) := by
  obtain ⟨hi, e⟩ := List.getElem?_eq_some_iff.mp h
  rw [List.drop_eq_getElem_cons hi, e]
section
variable {P : Program} {w : World} {K : PySem.W.Frag} {mg : Str → Option Value} {base : Heap}
theorem sc_solved : FnScope ["prime", "rows", "unknowns", "kept", "row", "rest", "lead", "fresh", "answer", "column"] ["prime", "rows", "unknowns"] (defScope (top 39)) := ⟨rfl, rfl, rfl, by decide +kernel, rfl, by decide +kernel, by decide +kernel⟩
set_option maxHeartbeats 2000000 in
theorem ok_solved (D : Def K mg "solved" ["prime", "rows", "unknowns"] (top 39)) (W : Has P w K mg base 1 "without" ["prime", "row", "column", "other"] spWithout) (FN : Has P w K mg base 1 "first_not_nought" ["row"] (spFirst K))
    (RB : Has P w K mg base 2 "rest_beside" ["prime", "row", "kept"] spRest) (IV : Has P w K mg base 3 "inverse" ["prime", "sign"] spInv) (SC : Has P w K mg base 2 "scaled" ["prime", "curve", "factor"] (spScaled K)) :
    Has P w K mg base 4 "solved" ["prime", "rows", "unknowns"] spSolved := by
  refine D.ok sc_solved (fun vs H Q E h => by obtain ⟨p, a, u, rs, rows, rfl, _⟩ := h; rfl) fun f cdv A outer s H vs Q E hr h => ?_
  obtain ⟨p, a, u, rs, rows, rfl, ok, ha, ll, hR, hu, hrl, q0, q1⟩ := h
  have hp := ok.pos
  have hp2 := ok.1.two
  have hpm := ok.2
  refine ⟨_, (pss_cons (ps_set (i := 3) sc_solved.nd rfl (Or.inl rfl) (pe_lst pa_nil))
    (pss_cut (fun σ' H' => Same H H' ∧ ∃ (kept : SM.Kp) (ts : List Addr) (k : Addr) (o4 o5 o6 o7 : Option V), SM.slGo p u rows [] = some kept ∧ SM.KI p u kept ∧ kept.length ≤ 400 ∧ H' k = some (.lst (ts.map V.ref)) ∧ KT H' ts kept ∧
        σ' = [some (.int p), some (.ref a), some (.int (u : Int)), some (.ref k), o4, o5, o6, o7, none, none])
      (ps_for PassesOwn.never rfl (pi_listK K rfl (pv 1)) (pg_name (i := 4) sc_solved.nd rfl (Or.inl rfl)) (pss_cons (ps_set (i := 5) sc_solved.nd rfl (Or.inl rfl) (pcall RB hr rfl (pa_cons (pv 0) (pa_cons (pv 4) (pa_cons (pv 3) pa_nil)))))
    (pss_cons (ps_set (i := 6) sc_solved.nd rfl (Or.inr rfl) (pcall FN hr rfl (pa_cons (pv 5) pa_nil)))
    (pss_cons (ps_if (pt_cmpR op_eq (pv 6) (pv 2) (nomark _)) (pss_one (ps_ret pe_non)) pss_nil)
    (pss_one (ps_if (pt_cmpR op_notN (pv 6) pe_non (nomark _)) (pss_cons (ps_set (i := 7) sc_solved.nd rfl (Or.inr rfl) (pcall SC hr rfl (pa_cons (pv 0) (pa_cons (pv 5) (pa_cons (pcall IV hr rfl (pa_cons (pv 0) (pa_cons (pe_ix (ix_listK K rfl) (pv 5) (pv 6) (fun _ _ => rfl)) pa_nil))) pa_nil)))))
    (pss_one (ps_set (i := 3) sc_solved.nd rfl (Or.inl rfl) (pe_op op_cat
            (pe_comp (N' := ["column", "other", "prime", "lead", "fresh"]) (ix := [none, none, some 0, some 6, some 7]) rfl
              ⟨rfl, by decide +kernel, by decide +kernel, by with_unfolding_all rfl, by exact ⟨rfl, rfl, rfl, trivial⟩, by exact ⟨⟨_, rfl⟩, ⟨_, rfl⟩, ⟨_, rfl⟩, trivial⟩, by exact ⟨⟨rfl, rfl, rfl⟩, ⟨rfl, rfl, rfl⟩, ⟨rfl, rfl, rfl⟩, trivial⟩⟩
              (pi_listK K rfl (pv 3))
              fun C ex pn s H => ⟨pg_tupK (n := 2) K rfl rfl (pgs_cons (pg_name (i := 0) (show (["column", "other", "prime", "lead", "fresh"] : List Str).Nodup by decide +kernel) rfl (Or.inl rfl)) (pgs_cons (pg_name (i := 1) (show (["column", "other", "prime", "lead", "fresh"] : List Str).Nodup by decide +kernel) rfl (Or.inl rfl)) pgs_nil)), pif_nil,
                pe_tup (pa_cons (pv 0) (pa_cons (pcall W hr rfl (pa_cons (pv 2) (pa_cons (pv 1) (pa_cons (pv 3) (pa_cons (pv 4) pa_nil))))) pa_nil))⟩)
            (pe_lst (pa_cons (pe_tup (pa_cons (pv 6) (pa_cons (pv 7) pa_nil))) pa_nil)))))) pss_nil))))))
    (pss_cons (ps_set (i := 8) sc_solved.nd rfl (Or.inl rfl) (pe_op op_rep (pe_lst (pa_cons pe_int pa_nil)) (pv 2)))
    (pss_cons (ps_for PassesOwn.never rfl (pi_listK K rfl (pv 3)) (pg_tupK K rfl rfl (pgs_cons (pg_name (i := 9) sc_solved.nd rfl (Or.inl rfl)) (pgs_cons (pg_name (i := 4) sc_solved.nd rfl (Or.inl rfl)) pgs_nil)))
      (pss_one (ps_asg (pe_ix (ix_listK K rfl) (pv 4) (pv 2) (fun _ _ => rfl)) (pg_sub (pv 8) (pv 9) set_list))))
    (pss_one (ps_ret (pv 8))))))), ?_⟩
  have hz : ∀ l : List Int, (l.map V.int).length = l.length := fun l => List.length_map ..
  refine ⟨by show 0 ≤ sizeLine; decide, fun k0 h0 => ⟨?_, ?_⟩⟩
  · have g0 : Same H (upd H k0 (.lst [])) := same_new h0 _
    refine ⟨_, rfl, a, rfl, ⟨_, SqL.of (g0 _ _ ha)⟩, ?_⟩
    refine for_list (xs := rs.map V.ref) (fun i σ H' => Same H H' ∧ ∃ (kept : SM.Kp) (ts : List Addr) (k : Addr) (o4 o5 o6 o7 : Option V), SM.slGo p u (rows.drop i) kept = SM.slGo p u rows [] ∧ SM.KI p u kept ∧ kept.length ≤ i ∧ H' k = some (.lst (ts.map V.ref)) ∧ KT H' ts kept ∧
        σ = [some (.int p), some (.ref a), some (.int (u : Int)), some (.ref k), o4, o5, o6, o7, none, none]) ⟨g0, [], [], k0, none, none, none, none, rfl, SM.KI.nil, Nat.le_refl _, upd_same, trivial, rfl⟩ (fun i σ H' _ h => SqL.of (h.1 _ _ ha)) ?_ ?_
    · rintro i v σ H1 hv ⟨g, kept, ts, k, o4, o5, o6, o7, e, KK, hkl, ek, kt, rfl⟩
      obtain ⟨r, rfl, hri⟩ := get_ref hv
      obtain ⟨row, hrow, er⟩ := ll.get hri
      have hi : i < rows.length := (List.getElem?_eq_some_iff.mp hrow).1
      have Rr := hR row (List.mem_of_getElem? hrow)
      have RB' := SM.restB_rw hp KK.rw Rr
      rw [drop_get' hrow] at e
      rw [show SM.slGo p u (row :: rows.drop (i + 1)) kept = (match SM.slTurn p u kept row with | none => none | some k => SM.slGo p u (rows.drop (i + 1)) k) from rfl] at e
      refine ⟨_, rfl, _, rfl, _, rfl, p, r, k, u, row, ts, kept, rfl, hp, hpm, g _ _ er, ek, kt, Rr, KK.rw, fun q hq => by have := KK.lt q hq; (first | lia | omega), by (first | lia | omega), fun r5 H2 g2 e5 => ?_⟩
      refine ⟨_, rfl, r5, _, rfl, SqL.of e5, fun H3 g3 => ?_⟩
      have gg := g.trans (g2.trans g3)
      have e5' := g3 _ _ e5
      have ek' := (g2.trans g3) _ _ ek
      have kt' := kt.same (g2.trans g3)
      cases hf : SM.firstNot (SM.restB p row kept) with
      | none =>
        have et : SM.slTurn p u kept row = some kept := by unfold SM.slTurn; rw [hf]
        rw [et] at e
        refine ⟨_, rfl, _, rfl, rfl, _, rfl, ite_no (fun z => nomatch z) ?_⟩
        refine ⟨_, rfl, rfl, _, rfl, ?_⟩
        exact iteF ⟨gg, kept, ts, k, _, _, _, _, e, KK, by (first | lia | omega), ek', kt', rfl⟩
      | some l =>
        obtain ⟨hl1, hl2, hl3⟩ := SM.firstNot_some hf
        rw [RB'.len] at hl1
        by_cases hlu : l = u
        · have et : SM.slTurn p u kept row = none := by unfold SM.slTurn; rw [hf]; exact if_pos hlu
          rw [et] at e
          refine ⟨_, rfl, _, rfl, rfl, _, rfl, ite_yes (congrArg V.int (by rw [hlu])) ?_⟩
          refine q0 ?_ H3 gg
          unfold SM.solved
          rw [← e]; rfl
        · have et : SM.slTurn p u kept row = some (SM.keptN p kept (SM.restB p row kept) l) := by unfold SM.slTurn; rw [hf]; exact if_neg hlu
          rw [et] at e
          refine ⟨_, rfl, _, rfl, rfl, _, rfl, ite_no (vi_ne hlu) ?_⟩
          refine ⟨_, rfl, rfl, _, rfl, ?_⟩
          refine iteT ?_
          have bl := RB'.get hp l
          refine ⟨_, rfl, _, rfl, _, rfl, _, rfl, _, rfl, r5, _, _, _, rfl, rfl, SqL.of e5', get_at (by rw [RB'.len]; exact hl1), p, _, rfl, hp2, hpm, bl.1, bl.2, ?_⟩
          have KN := SM.keptN_ok ok.1 KK Rr hf hlu
          have FW := SM.fresh_rw (l := l) hp RB'
          have hin : -(2 ^ 64) < SM.inv p ((SM.restB p row kept).getD l 0) ∧ SM.inv p ((SM.restB p row kept).getD l 0) < 2 ^ 64 := inv_small hp2 hpm
          refine ⟨p, r5, _, _, rfl, hp, hin, SqL.of e5', by rw [RB'.len]; (first | lia | omega), fun r7 H4 g4 n4 e7 => ?_⟩
          have ek4 := g4 _ _ ek'
          refine ⟨_, rfl, k, rfl, ⟨_, SqL.of ek4⟩, ?_⟩
          refine comp_list (xs := ts.map V.ref) (fun j ys H' => Same H4 H' ∧ ∃ zs : List Addr, ys = zs.map V.ref ∧ KT H' zs ((kept.take j).map fun q => (q.1, SM.without p q.2 l (SM.fresh p (SM.restB p row kept) l))) ∧ zs.length ≤ 400) ⟨Same.refl _, [], rfl, trivial, by show 0 ≤ 400; (first | lia | omega)⟩ (fun j ys H' h => SqL.of (h.1 _ _ ek4)) ?_ ?_
          · rintro j v ys H5 hv ⟨g5, zs, rfl, ktz, hzl⟩
            obtain ⟨t, rfl, ht⟩ := get_ref hv
            obtain ⟨qq, ro, hq, t1, t2⟩ := (kt'.same (g4.trans g5)).get ht
            have hm := List.mem_of_getElem? hq
            have hjl : j < kept.length := (List.getElem?_eq_some_iff.mp hq).1
            have hzj : zs.length = j := by rw [ktz.len, List.length_map, List.length_take]; (first | lia | omega)
            refine ⟨small (by rw [List.length_map]; (first | lia | omega)), t, _, rfl, SqT.of t1, rfl, _, _, rfl, _, _, rfl, rfl, ⟨rfl, rfl, rfl, trivial⟩, ?_⟩
            refine ⟨_, rfl, _, rfl, _, rfl, _, rfl, _, rfl, p, ro, r7, l, u, qq.2, _, rfl, hp, hpm, t2, g5 _ _ e7, KK.rw qq hm, FW, by (first | lia | omega), by (first | lia | omega), fun r8 H6 g6 e8 => ?_⟩
            refine ⟨by show 2 ≤ sizeLine; decide, fun t9 h9 => ?_⟩
            refine ⟨(g5.trans g6).trans (same_new h9 _), zs ++ [t9], by simp, ?_, by rw [List.length_append]; show zs.length + 1 ≤ 400; (first | lia | omega)⟩
            rw [take_snoc hq, List.map_append]
            refine KT.snoc (r := r8) (q := (qq.1, SM.without p qq.2 l (SM.fresh p (SM.restB p row kept) l))) upd_same (same_new h9 _ _ _ e8) (ktz.same (g6.trans (same_new h9 _)))
          · rintro ys H5 ⟨g5, zs, rfl, ktz, hzl⟩
            refine ⟨small (by rw [List.length_map]; (first | lia | omega)), fun pl hpl => ?_⟩
            have gp := same_new hpl (.lst (zs.map V.ref))
            refine ⟨_, rfl, _, rfl, by show 2 ≤ sizeLine; decide, fun t9 h9 => ?_⟩
            refine ⟨by show 1 ≤ sizeLine; decide, fun l9 hl9 => ?_⟩
            have g9 : Same H5 (upd (upd (upd H5 pl (.lst (zs.map V.ref))) t9 (.tup [.int (l : Int), .ref r7])) l9 (.lst [.ref t9])) := gp.trans ((same_new h9 _).trans (same_new hl9 _))
            refine ⟨pl, l9, _, _, rfl, rfl, ((same_new h9 _).trans (same_new hl9 _)) _ _ upd_same, upd_same, small (by rw [List.length_map]; show zs.length + 1 ≤ 1000; (first | lia | omega)), fun pc hpc => ?_⟩
            have hzk : zs.length = kept.length := by rw [ktz.len, List.length_map, List.length_map, kt.len, List.length_take]; (first | lia | omega)
            have g10 := g9.trans (same_new hpc (.lst (zs.map V.ref ++ [.ref t9])))
            refine ⟨(gg.trans (g4.trans g5)).trans g10, _, zs ++ [t9], pc, _, _, _, _, e, KN, ?_, by rw [upd_same]; simp, ?_, rfl⟩
            · unfold SM.keptN
              rw [List.length_append, List.length_map]
              show kept.length + 1 ≤ i + 1
              (first | lia | omega)
            · unfold SM.keptN
              refine KT.snoc (r := r7) (q := (l, SM.fresh p (SM.restB p row kept) l)) (same_new hpc _ _ _ (same_new hl9 _ _ _ upd_same)) (g10 _ _ (g5 _ _ e7)) ?_
              have ktz' := ktz.same g10
              rw [List.length_map, kt.len, List.take_length] at ktz'
              exact ktz'
    · rintro σ H1 ⟨g, kept, ts, k, o4, o5, o6, o7, e, KK, hkl, ek, kt, rfl⟩
      rw [List.length_map, ll.len, List.drop_length] at e
      rw [List.length_map, ll.len] at hkl
      exact ⟨g, kept, ts, k, _, _, _, _, e.symm, KK, by (first | lia | omega), ek, kt, rfl⟩
  · rintro σ H1 ⟨g, kept, ts, k, o4, o5, o6, o7, e, KK, hkl, ek, kt, rfl⟩
    have es : SM.solved p rows u = some (SM.answer u kept) := by unfold SM.solved; rw [e]; rfl
    refine ⟨by show 1 ≤ sizeLine; decide, fun l1 hl1 => ⟨_, rfl, l1, (u : Int), _, rfl, rfl, upd_same, by (first | lia | omega), by (first | lia | omega), small (by show 1 * ((u : Int)).toNat ≤ 1000; (first | lia | omega)), fun r0 h0 => ?_⟩⟩
    rw [Int.toNat_natCast, rep_nought]
    have gA := (same_new hl1 (.lst [V.int 0])).trans (same_new h0 (.lst ((List.replicate u (0 : Int)).map V.int)))
    have n0 : H1 r0 = none := (same_new hl1 (.lst [V.int 0])).free h0
    refine ⟨_, rfl, k, rfl, ⟨_, SqL.of (gA _ _ ek)⟩, ?_⟩
    refine for_list (xs := ts.map V.ref) (fun i σ H' => Same H1 H' ∧ ∃ o4 o9 : Option V, H' r0 = some (.lst (((kept.take i).foldl (fun a q => a.set q.1 (q.2.getD u 0)) (List.replicate u 0)).map V.int)) ∧ ((kept.take i).foldl (fun a q => a.set q.1 (q.2.getD u 0)) (List.replicate u (0 : Int))).length = u ∧
        σ = [some (.int p), some (.ref a), some (.int (u : Int)), some (.ref k), o4, o5, o6, o7, some (.ref r0), o9]) ⟨gA, o4, none, upd_same, by simp, rfl⟩ (fun i σ H' _ h => SqL.of (h.1 _ _ ek)) ?_ ?_
    · rintro i v σ H2 hv ⟨g2, o4, o9, e0, hlen, rfl⟩
      obtain ⟨t, rfl, ht⟩ := get_ref hv
      obtain ⟨qq, ro, hq, t1, t2⟩ := (kt.same g2).get ht
      have hm := List.mem_of_getElem? hq
      refine ⟨t, _, rfl, SqT.of t1, rfl, _, _, rfl, _, _, rfl, rfl, ?_⟩
      refine ⟨_, rfl, _, rfl, ro, _, _, _, rfl, rfl, SqL.of t2, get_at (by rw [(KK.rw qq hm).len]; (first | lia | omega)), ?_⟩
      refine ⟨_, rfl, _, rfl, r0, _, _, qq.1, rfl, rfl, e0, ixN_nat (by rw [hz, hlen]; exact KK.lt qq hm), ?_⟩
      refine ⟨same_up g2 n0, _, _, ?_, ?_, rfl⟩
      · rw [upd_same, take_snoc hq, List.foldl_append]
        show some (HO.lst _) = some (HO.lst _)
        rw [← List.map_set]; rfl
      · rw [take_snoc hq, List.foldl_append]
        show (List.set _ _ _).length = u
        rw [List.length_set]; exact hlen
    · rintro σ H2 ⟨g2, o4, o9, e0, hlen, rfl⟩
      refine ⟨_, rfl, q1 _ es r0 H2 (g.trans g2) (g.free n0) ?_⟩
      rw [e0, List.length_map, kt.len, List.take_length]; rfl
end
end Sy
namespace Sy
open PySem PySem.Spec L2 L3
open PyProof.Rows hiding St
seal L2.PSs L2.PS L2.PE L2.PT L2.PW L2.PA L2.PG L2.PGs L2.PI L3.PIf
theorem cut_take' {xs : List V} {n : Nat} (h : n ≤ xs.length) : cutV xs none (some (n : Int)) = xs.take n := by
  unfold cutV
  rw [HT.sIx_none, HT.sIx_nat, Nat.min_eq_left h, List.drop_zero, Nat.sub_zero]
theorem cut_drop' {xs : List V} {n : Nat} (h : n ≤ xs.length) : cutV xs (some (n : Int)) none = xs.drop n := by
  unfold cutV
  rw [HT.sIx_none, HT.sIx_nat, Nat.min_eq_left h, List.take_of_length_le (by rw [List.length_drop]; exact Nat.le_refl _)]
theorem cut_last {xs : List V} (h : 1 ≤ xs.length) : cutV xs none (some (-1)) = xs.dropLast := by
  have e : HT.sIx xs.length xs.length (some (-1)) = xs.length - 1 := by
    show (if (-1 : Int) < 0 then ((-1 : Int) + (xs.length : Int)).toNat else min (-1 : Int).toNat xs.length) = _
    rw [if_pos (by decide)]; (first | lia | omega)
  unfold cutV
  rw [HT.sIx_none, e, List.drop_zero, Nat.sub_zero, List.dropLast_eq_take]
theorem at_last {row : List Int} (h : 1 ≤ row.length) : atI (row.map V.int) (-1) = some (.int (row.getLastD 0)) := by
  have e : ixN (row.map V.int).length (-1) = some (row.length - 1) := by
    unfold ixN
    rw [if_neg (by decide), List.length_map, if_pos (by (first | lia | omega))]
    exact congrArg some (by (first | lia | omega))
  unfold atI
  rw [e, SM.last_get]
  show (row.map V.int)[row.length - 1]? = _
  rw [List.getElem?_map, List.getElem?_eq_getElem (show row.length - 1 < row.length by (first | lia | omega)), List.getD_eq_getElem?_getD, List.getElem?_eq_getElem (show row.length - 1 < row.length by (first | lia | omega))]; rfl
section
variable {P : Program} {w : World} {K : PySem.W.Frag} {mg : Str → Option Value} {base : Heap}
theorem sc_equation : FnScope ["prime", "place", "sign", "size", "room", "powers", "times_sign"] ["prime", "place", "sign", "size", "room"] (defScope (top 40)) := ⟨rfl, rfl, rfl, by decide +kernel, rfl, by decide +kernel, by decide +kernel⟩
theorem ok_equation (D : Def K mg "equation" ["prime", "place", "sign", "size", "room"] (top 40)) (PW : Has P w K mg base 2 "powers_of" ["prime", "place", "count"] spPowers) (SC : Has P w K mg base 2 "scaled" ["prime", "curve", "factor"] (spScaled K))
    (LE : Has P w K mg base 1 "lessened" ["prime", "one", "two"] spLess) : Has P w K mg base 3 "equation" ["prime", "place", "sign", "size", "room"] spEquation := by
  refine D.ok sc_equation (fun vs H Q E h => by obtain ⟨p, x, s, n, room, rfl, _⟩ := h; rfl) fun f cdv A outer s H vs Q E hr h => ?_
  obtain ⟨p, x, sg, n, room, rfl, hp, hpm, hx, hs, hn, hn2, hroom, q⟩ := h
  refine ⟨_, (pss_cons (ps_set (i := 5) sc_equation.nd rfl (Or.inl rfl) (pcall PW hr rfl (pa_cons (pv 0) (pa_cons (pv 1) (pa_cons (pe_op op_add (pv 3) (pv 4)) pa_nil)))))
    (pss_cons (ps_set (i := 6) sc_equation.nd rfl (Or.inl rfl) (pcall SC hr rfl (pa_cons (pv 0) (pa_cons (pv 5) (pa_cons (pv 2) pa_nil)))))
    (pss_one (ps_ret (pe_op op_cat (pe_op op_cat (pv 5) (pe_comp (N' := ["number", "prime"]) (ix := [none, some 0]) rfl
        ⟨rfl, by decide +kernel, by decide +kernel, by with_unfolding_all rfl, by exact ⟨rfl, trivial⟩, by exact ⟨⟨_, rfl⟩, trivial⟩, by exact ⟨⟨rfl, rfl, rfl⟩, trivial⟩⟩
        (pi_listK K rfl (pe_slice (sl_listK K rfl) (pv 6) po_none (po_some (pv 4))))
        fun C ex pn s H => ⟨pg_name (i := 0) (show (["number", "prime"] : List Str).Nodup by decide +kernel) rfl (Or.inl rfl), pif_nil, pcall LE hr rfl (pa_cons (pv 1) (pa_cons pe_int (pa_cons (pv 0) pa_nil)))⟩))
      (pe_lst (pa_cons (pe_ix (ix_listK K rfl) (pv 6) (pv 4) (fun _ _ => rfl)) pa_nil))))))), ?_⟩
  have hz : ∀ l : List Int, (l.map V.int).length = l.length := fun l => List.length_map ..
  refine ⟨_, rfl, _, rfl, _, rfl, _, rfl, _, _, rfl, rfl, p, x, n + room, by simp, hp, hx, by (first | lia | omega), fun r5 H1 g1 n1 e1 => ?_⟩
  have hpl := SM.powersOf_len p x (n + room)
  have hsl : (SM.scal p (SM.powersOf p x (n + room)) sg).length = n + room := by rw [SM.scal_len, hpl]
  refine ⟨_, rfl, _, rfl, _, rfl, p, r5, sg, _, rfl, hp, hs, SqL.of e1, by (first | lia | omega), fun r6 H2 g2 n2 e2 => ?_⟩
  refine ⟨_, rfl, _, rfl, _, rfl, _, rfl, r6, _, rfl, SqL.of e2, fun r7 h7 => ?_⟩
  rw [cut_take' (by rw [hz, hsl]; (first | lia | omega)), ← List.map_take]
  have g3 := same_new h7 (.lst (((SM.scal p (SM.powersOf p x (n + room)) sg).take room).map V.int))
  have e7 : (upd H2 r7 (.lst (((SM.scal p (SM.powersOf p x (n + room)) sg).take room).map V.int))) r7 = some (.lst (((SM.scal p (SM.powersOf p x (n + room)) sg).take room).map V.int)) := upd_same
  generalize upd H2 r7 (.lst (((SM.scal p (SM.powersOf p x (n + room)) sg).take room).map V.int)) = H3 at g3 e7 ⊢
  refine ⟨r7, rfl, ⟨_, SqL.of e7⟩, ?_⟩
  refine comp_list (xs := (((SM.scal p (SM.powersOf p x (n + room)) sg).take room).map V.int)) (fun i ys H' => H' = H3 ∧ ys = ((((SM.scal p (SM.powersOf p x (n + room)) sg).take room).take i).map fun m => (0 - m) % p).map V.int) ⟨rfl, rfl⟩ (fun i ys H' h => by rw [h.1]; exact SqL.of e7) ?_ ?_
  · rintro i v ys H' hv ⟨rfl, rfl⟩
    obtain ⟨v, rfl, hv'⟩ := get_int hv
    refine ⟨small (by rw [hz, List.length_map, List.length_take, List.length_take]; (first | lia | omega)), ⟨rfl, trivial⟩, ⟨_, rfl, _, rfl, p, 0, v, rfl, hp, rfl, ?_⟩⟩
    rw [take_snoc hv', List.map_append, List.map_append]; rfl
  · rintro ys H' ⟨rfl, rfl⟩
    rw [hz ((SM.scal p (SM.powersOf p x (n + room)) sg).take room), List.take_length]
    refine ⟨small (by rw [hz, List.length_map, List.length_take]; (first | lia | omega)), fun r8 h8 => ?_⟩
    have g4 := g3.trans (same_new h8 (.lst ((((SM.scal p (SM.powersOf p x (n + room)) sg).take room).map fun m => (0 - m) % p).map V.int)))
    refine ⟨r5, r8, _, _, rfl, rfl, g4 _ _ (g2 _ _ e1), upd_same, small (by rw [hz, hz, hpl, List.length_map, List.length_take]; (first | lia | omega)), fun r9 h9 => ?_⟩
    have g5 := g4.trans (same_new h9 (.lst ((SM.powersOf p x (n + room)).map V.int ++ (((SM.scal p (SM.powersOf p x (n + room)) sg).take room).map fun m => (0 - m) % p).map V.int)))
    refine ⟨_, rfl, _, rfl, r6, _, _, _, rfl, rfl, SqL.of (g5 _ _ e2), get_at (by rw [hsl]; (first | lia | omega)), by show 1 ≤ sizeLine; decide, fun r10 h10 => ?_⟩
    refine ⟨r9, r10, _, _, rfl, rfl, same_new h10 _ _ _ upd_same, upd_same, small (by rw [List.length_append, hz, hz, hpl, List.length_map, List.length_take]; show _ + 1 ≤ 1000; (first | lia | omega)), fun r11 h11 => ?_⟩
    refine q r11 _ ((g1.trans (g2.trans g5)).trans ((same_new h10 _).trans (same_new h11 _))) ?_ ?_
    · exact (g1.trans (g2.trans g5)).free ((same_new h10 _).free h11)
    · rw [upd_same]
      unfold SM.equation
      simp
theorem sc_divided : FnScope ["prime", "over", "under", "left", "shares", "share", "start", "top"] ["prime", "over", "under"] (defScope (top 27)) := ⟨rfl, rfl, rfl, by decide +kernel, rfl, by decide +kernel, by decide +kernel⟩
set_option maxHeartbeats 1000000 in
theorem ok_divided (D : Def K mg "divided" ["prime", "over", "under"] (top 27)) (hlist : mg "list" = none) (hlen : mg "len" = none) (hzip : mg "zip" = none) (hrev : mg "reversed" = none)
    (LE : Has P w K mg base 1 "lessened" ["prime", "one", "two"] spLess) (M : Has P w K mg base 1 "multiplied" ["prime", "one", "two"] spMul) : Has P w K mg base 2 "divided" ["prime", "over", "under"] (spDivided K) := by
  refine D.ok sc_divided (fun vs H Q E h => by obtain ⟨p, a, b, ov, un, rfl, _⟩ := h; rfl) fun f cdv A outer s H vs Q E hr h => ?_
  obtain ⟨p, a, b, ov, un, rfl, hp, hpm, ha, hb, hs, hol, hu1, hul, q⟩ := h
  refine ⟨_, (pss_cons (ps_set (i := 3) sc_divided.nd rfl (Or.inl rfl) (pe_callTy (call_list_ofK K rfl) rfl hlist bt_list (pa_cons (pv 1) pa_nil)))
    (pss_cons (ps_set (i := 4) sc_divided.nd rfl (Or.inl rfl) (pe_lst pa_nil))
    (pss_cons (ps_while PassesOwn.never (pt_cmpR op_ge (pe_callB (call_len_seqK K rfl) rfl hlen PySem.boot_len (pa_cons (pv 3) pa_nil)) (pe_callB (call_len_seqK K rfl) rfl hlen PySem.boot_len (pa_cons (pv 2) pa_nil)) (nomark _)) (pss_cons (ps_set (i := 5) sc_divided.nd rfl (Or.inr rfl) (pe_ix (ix_listK K rfl) (pv 3) (pe_un un_neg pe_int) (fun _ _ => rfl)))
    (pss_cons (ps_expr (pe_bm PySem.F.plainAttrs_list PySem.F.slot_list_append PySem.F.type_list_append mt_append (pv 4) (pa_cons (pv 5) pa_nil)))
    (pss_cons (ps_set (i := 6) sc_divided.nd rfl (Or.inl rfl) (pe_op op_sub (pe_callB (call_len_seqK K rfl) rfl hlen PySem.boot_len (pa_cons (pv 3) pa_nil)) (pe_callB (call_len_seqK K rfl) rfl hlen PySem.boot_len (pa_cons (pv 2) pa_nil))))
    (pss_cons (ps_setComp (i := 7) (N' := ["number", "down", "prime", "share"]) (ix := [none, none, some 0, some 5]) sc_divided.nd rfl rfl rfl
        ⟨rfl, by decide +kernel, by decide +kernel, by with_unfolding_all rfl, by exact ⟨rfl, rfl, trivial⟩, by exact ⟨⟨_, rfl⟩, ⟨_, rfl⟩, trivial⟩, by exact ⟨⟨rfl, rfl, rfl⟩, ⟨rfl, rfl, rfl⟩, trivial⟩⟩
        (pi_zipK K rfl rfl hzip (pa_cons (pe_slice (sl_listK K rfl) (pv 3) (po_some (pv 6)) po_none) (pa_cons (pv 2) pa_nil)))
        fun C ex pn s H => ⟨pg_tupK (n := 2) K rfl rfl (pgs_cons (pg_name (i := 0) (show (["number", "down", "prime", "share"] : List Str).Nodup by decide +kernel) rfl (Or.inl rfl)) (pgs_cons (pg_name (i := 1) (show (["number", "down", "prime", "share"] : List Str).Nodup by decide +kernel) rfl (Or.inl rfl)) pgs_nil)), pif_nil,
          pcall LE hr rfl (pa_cons (pv 2) (pa_cons (pv 0) (pa_cons (pcall M hr rfl (pa_cons (pv 2) (pa_cons (pv 3) (pa_cons (pv 1) pa_nil)))) pa_nil)))⟩)
    (pss_one (ps_set (i := 3) sc_divided.nd rfl (Or.inl rfl) (pe_op op_cat (pe_slice (sl_listK K rfl) (pv 3) po_none (po_some (pv 6))) (pe_slice (sl_listK K rfl) (pv 7) po_none (po_some (pe_un un_neg pe_int)))))))))))
    (pss_one (ps_ret (pe_revL rfl rfl hlist rfl hrev (pa_cons (pv 4) pa_nil))))))), ?_⟩
  have hz : ∀ l : List Int, (l.map V.int).length = l.length := fun l => List.length_map ..
  refine ⟨_, rfl, a, _, rfl, .inl ha, fun r3 h3 => ⟨by show 0 ≤ sizeLine; decide, fun r4 h4 => ?_⟩⟩
  have g0 := (same_new h3 (.lst (ov.map V.int))).trans (same_new h4 (.lst []))
  have n4 : H r4 = none := (same_new h3 (.lst (ov.map V.int))).free h4
  have e3 : (upd (upd H r3 (.lst (ov.map V.int))) r4 (.lst [])) r3 = some (.lst (ov.map V.int)) := same_new h4 _ _ _ upd_same
  have e4 : (upd (upd H r3 (.lst (ov.map V.int))) r4 (.lst [])) r4 = some (.lst (([] : List Int).map V.int)) := upd_same
  have hne : r3 ≠ r4 := fun z => by rw [z, upd_same] at h4; cases h4
  generalize upd (upd H r3 (.lst (ov.map V.int))) r4 (.lst []) = H0 at g0 e3 e4 ⊢
  refine while_by (fun σ H' => Same H H' ∧ ∃ (rl : Addr) (left sh : List Int) (o5 o6 o7 : Option V), H' rl = some (.lst (left.map V.int)) ∧ H' r4 = some (.lst (sh.map V.int)) ∧ rl ≠ r4 ∧ (∀ s ∈ left, 0 ≤ s ∧ s < p) ∧ left.length + sh.length = ov.length ∧
      sh ++ SM.divGo p un (left.length + 1 - un.length) left = SM.divGo p un (ov.length + 1 - un.length) ov ∧ σ = [some (.int p), some (.ref a), some (.ref b), some (.ref rl), some (.ref r4), o5, o6, o7])
    (fun σ H' => mLen H' σ[3]?) ⟨g0, r3, ov, [], none, none, none, e3, e4, hne, hs, by simp, rfl, rfl⟩ ?_ ?_
  · rintro σ H1 ⟨g, rl, left, sh, o5, o6, o7, el, es, hn4, hsg, hlen2, e, rfl⟩
    refine ⟨_, rfl, rl, _, rfl, .inl (SqL.of el), _, rfl, b, _, rfl, .inl (g.seq hb), _, _, rfl, rfl, _, rfl, ?_⟩
    refine ite2 (fun c => ?_) (fun c => ?_)
    · have hge : un.length ≤ left.length := by
        have := of_decide_eq_true c
        rw [hz, hz] at this
        (first | lia | omega)
      have hl1 : 1 ≤ left.length := by (first | lia | omega)
      obtain ⟨k, hk⟩ : ∃ k, left.length + 1 - un.length = k + 1 := ⟨left.length - un.length, by (first | lia | omega)⟩
      rw [hk] at e
      refine ⟨_, rfl, _, rfl, rl, _, _, _, rfl, rfl, SqL.of el, at_last hl1, ?_⟩
      have bs : 0 ≤ left.getLastD 0 ∧ left.getLastD 0 < p := by
        rw [SM.last_get, List.getD_eq_getElem?_getD, List.getElem?_eq_getElem (show left.length - 1 < left.length by (first | lia | omega))]
        exact hsg _ (List.getElem_mem _)
      refine ⟨_, rfl, .inl ⟨rfl, _, SqL.of es⟩, _, rfl, r4, _, _, rfl, rfl, es, Nat.lt_of_le_of_lt (by rw [hz]; (first | lia | omega)) (small1000 (n := 1000) (Nat.le_refl _)), ?_⟩
      have gU := same_up (o := .lst (sh.map V.int ++ [.int (left.getLastD 0)])) g n4
      have elU : (upd H1 r4 (.lst (sh.map V.int ++ [.int (left.getLastD 0)]))) rl = some (.lst (left.map V.int)) := by rw [upd_ne hn4]; exact el
      have esU : (upd H1 r4 (.lst (sh.map V.int ++ [.int (left.getLastD 0)]))) r4 = some (.lst ((sh ++ [left.getLastD 0]).map V.int)) := by rw [upd_same]; simp
      generalize upd H1 r4 (.lst (sh.map V.int ++ [.int (left.getLastD 0)])) = H2 at gU elU esU ⊢
      have hst : ((left.map V.int).length : Int) - ((un.map V.int).length : Int) = ((left.length - un.length : Nat) : Int) := by rw [hz, hz]; (first | lia | omega)
      refine ⟨_, rfl, rl, _, rfl, .inl (SqL.of elU), _, rfl, b, _, rfl, .inl (gU.seq hb), _, _, rfl, rfl, ?_⟩
      dsimp only
      rw [hst]
      refine ⟨_, rfl, _, rfl, _, rfl, rl, _, rfl, SqL.of elU, fun r8 h8 => ?_⟩
      rw [cut_drop' (by rw [hz]; (first | lia | omega)), ← List.map_drop]
      have g8 := same_new h8 (.lst ((left.drop (left.length - un.length)).map V.int))
      have e8 : (upd H2 r8 (.lst ((left.drop (left.length - un.length)).map V.int))) r8 = some (.lst ((left.drop (left.length - un.length)).map V.int)) := upd_same
      generalize upd H2 r8 (.lst ((left.drop (left.length - un.length)).map V.int)) = H3 at g8 e8 ⊢
      refine ⟨_, rfl, r8, b, _, _, rfl, SqL.of e8, (gU.trans g8).seq hb, ?_⟩
      refine comp_zip (fun i zs H' => Same H3 H' ∧ zs = (List.zipWith (fun m d => (m - (left.getLastD 0 * d) % p) % p) ((left.drop (left.length - un.length)).take i) (un.take i)).map V.int) ⟨Same.refl _, rfl⟩ (fun i zs H' h => ⟨SqL.of (h.1 _ _ e8), ((gU.trans g8).trans h.1).seq hb⟩) ?_ (fun i zs H' h => ?_) ?_
      · rintro i v u t zs H' hv hu ht ⟨g9, rfl⟩
        obtain ⟨v, rfl, hv'⟩ := get_int hv
        obtain ⟨u, rfl, hu'⟩ := get_int hu
        refine ⟨small (by rw [hz]; exact zip_len_le (by rw [List.length_drop]; (first | lia | omega)) i), t, _, rfl, SqT.of upd_same, rfl, _, _, rfl, _, _, rfl, rfl, ⟨rfl, rfl, trivial⟩, ?_⟩
        refine ⟨_, rfl, _, rfl, _, rfl, _, rfl, _, rfl, p, left.getLastD 0, u, rfl, hp, cml bs.1 bs.2 hpm, p, v, _, rfl, hp, g9.trans (same_new ht _), ?_⟩
        rw [zip_take hv' hu']; simp
      · rw [h.2, hz]
        exact small (zip_len_le (by rw [List.length_drop]; (first | lia | omega)) i)
      · rintro zs H4 ⟨g9, rfl⟩ r7 h7
        rw [hz, hz, zip_all]
        generalize hT : List.zipWith (fun m d => (m - (left.getLastD 0 * d) % p) % p) (left.drop (left.length - un.length)) un = T
        have hTl : T.length = un.length := by rw [← hT, List.length_zipWith, List.length_drop]; (first | lia | omega)
        have g10 := g9.trans (same_new h7 (.lst (T.map V.int)))
        have e7 : (upd H4 r7 (.lst (T.map V.int))) r7 = some (.lst (T.map V.int)) := upd_same
        have f7 : H3 r7 = none := g9.free h7
        generalize upd H4 r7 (.lst (T.map V.int)) = H5 at g10 e7 ⊢
        have gA := g8.trans g10
        refine ⟨_, rfl, _, rfl, _, rfl, rl, _, rfl, SqL.of (gA _ _ elU), fun r11 h11 => ?_⟩
        rw [cut_take' (by rw [hz]; (first | lia | omega)), ← List.map_take]
        have g11 := same_new h11 (.lst ((left.take (left.length - un.length)).map V.int))
        refine ⟨_, rfl, _, rfl, _, rfl, r7, _, rfl, SqL.of (g11 _ _ e7), fun r12 h12 => ?_⟩
        rw [cut_last (by rw [hz]; (first | lia | omega)), ← List.map_dropLast]
        have g12 := same_new h12 (.lst (T.dropLast.map V.int))
        refine ⟨r11, r12, _, _, rfl, rfl, g12 _ _ upd_same, upd_same, small (by rw [hz, hz, List.length_take, List.length_dropLast]; (first | lia | omega)), fun r13 h13 => ?_⟩
        have g13 := same_new h13 (.lst ((left.take (left.length - un.length)).map V.int ++ T.dropLast.map V.int))
        have gB := gA.trans (g11.trans (g12.trans g13))
        have hD : SM.divStep p un left = left.take (left.length - un.length) ++ T.dropLast := by unfold SM.divStep; rw [hT]
        have hDl := SM.divStep_len (p := p) hge hu1
        refine ⟨⟨gU.trans gB, r13, SM.divStep p un left, sh ++ [left.getLastD 0], _, _, _, by rw [upd_same, hD]; simp, gB _ _ esU, fun z => ?_, SM.divStep_sg hp hsg, by rw [hDl, List.length_append]; show _ + (_ + 1) = _; (first | lia | omega), ?_, rfl⟩, ?_⟩
        · have := (gA.trans (g11.trans g12)).free h13
          rw [z, esU] at this
          cases this
        · rw [hDl, show left.length - 1 + 1 - un.length = k by (first | lia | omega), List.append_assoc]
          exact e
        · have m1 : ∀ Hx : Hp, mLen (upd Hx r13 (.lst ((left.take (left.length - un.length)).map V.int ++ T.dropLast.map V.int))) (some (some (.ref r13))) = ((left.take (left.length - un.length)).map V.int ++ T.dropLast.map V.int).length := fun Hx => by unfold mLen; dsimp only; rw [upd_same]
          have m2 : mLen H1 (some (some (.ref rl))) = (left.map V.int).length := by unfold mLen; dsimp only; rw [el]
          show mLen (upd _ r13 _) (some (some (.ref r13))) < mLen H1 (some (some (.ref rl)))
          rw [m1, m2]
          rw [List.length_append, hz, hz, hz, List.length_take, List.length_dropLast]
          (first | lia | omega)
    · have hlt : left.length < un.length := by
        have : ¬ (((un.map V.int).length : Int) ≤ ((left.map V.int).length : Int)) := fun z => c (decide_eq_true z)
        rw [hz, hz] at this
        (first | lia | omega)
      rw [show left.length + 1 - un.length = 0 by (first | lia | omega)] at e
      have e' : sh = SM.divGo p un (ov.length + 1 - un.length) ov := by rw [← e]; simp [SM.divGo]
      refine ⟨_, rfl, r4, _, rfl, SqL.of es, fun r9 h9 => q r9 _ (g.trans (same_new h9 _)) (g.free h9) ?_⟩
      rw [upd_same, ← List.map_reverse, e']; rfl
  · rintro σ H' Q1 Q2 hQ ⟨v, e, a, ys, e1, e2, v2, e3, a2, ys2, e4, e5, i, j, e6, e7, k, e8, h⟩
    exact ⟨v, e, a, ys, e1, e2, v2, e3, a2, ys2, e4, e5, i, j, e6, e7, k, e8, hQ _ _ h⟩
theorem sc_only : FnScope ["prime", "places", "signs", "size", "room", "rows", "numbers", "product", "finder"] ["prime", "places", "signs", "size", "room"] (defScope (top 41)) := ⟨rfl, rfl, rfl, by decide +kernel, rfl, by decide +kernel, by decide +kernel⟩
theorem ok_only (D : Def K mg "only_curve" ["prime", "places", "signs", "size", "room"] (top 41)) (hzip : mg "zip" = none) (EQ : Has P w K mg base 3 "equation" ["prime", "place", "sign", "size", "room"] spEquation)
    (SO : Has P w K mg base 4 "solved" ["prime", "rows", "unknowns"] spSolved) (DV : Has P w K mg base 2 "divided" ["prime", "over", "under"] (spDivided K)) : Has P w K mg base 5 "only_curve" ["prime", "places", "signs", "size", "room"] (spOnly K) := by
  refine D.ok sc_only (fun vs H Q E h => by obtain ⟨p, a, b, n, room, xs, ss, rfl, _⟩ := h; rfl) fun f cdv A outer s H vs Q E hr h => ?_
  obtain ⟨p, a, b, n, room, xs, ss, rfl, ok, ha, hb, hx, hs, hn, hn2, hroom, hxl, q0, q1⟩ := h
  have hp := ok.pos
  have hp2 := ok.1.two
  have hpm := ok.2
  refine ⟨_, (pss_cons (ps_setComp (i := 5) (N' := ["place", "sign", "prime", "size", "room"]) (ix := [none, none, some 0, some 3, some 4]) sc_only.nd rfl rfl rfl
      ⟨rfl, by decide +kernel, by decide +kernel, by with_unfolding_all rfl, by exact ⟨rfl, rfl, rfl, trivial⟩, by exact ⟨⟨_, rfl⟩, ⟨_, rfl⟩, ⟨_, rfl⟩, trivial⟩, by exact ⟨⟨rfl, rfl, rfl⟩, ⟨rfl, rfl, rfl⟩, ⟨rfl, rfl, rfl⟩, trivial⟩⟩
      (pi_zipK K rfl rfl hzip (pa_cons (pv 1) (pa_cons (pv 2) pa_nil)))
      fun C ex pn s H => ⟨pg_tupK (n := 2) K rfl rfl (pgs_cons (pg_name (i := 0) (show (["place", "sign", "prime", "size", "room"] : List Str).Nodup by decide +kernel) rfl (Or.inl rfl)) (pgs_cons (pg_name (i := 1) (show (["place", "sign", "prime", "size", "room"] : List Str).Nodup by decide +kernel) rfl (Or.inl rfl)) pgs_nil)), pif_nil,
        pcall EQ hr rfl (pa_cons (pv 2) (pa_cons (pv 0) (pa_cons (pv 1) (pa_cons (pv 3) (pa_cons (pv 4) pa_nil)))))⟩)
    (pss_cons (ps_set (i := 6) sc_only.nd rfl (Or.inl rfl) (pcall SO hr rfl (pa_cons (pv 0) (pa_cons (pv 5) (pa_cons (pe_op op_add (pv 3) (pe_op op_mul pe_int (pv 4))) pa_nil)))))
    (pss_cons (ps_if (pt_cmp (pc_isN (pv 6))) (pss_one (ps_ret pe_non)) pss_nil)
    (pss_cons (ps_set (i := 7) sc_only.nd rfl (Or.inl rfl) (pe_slice (sl_listK K rfl) (pv 6) po_none (po_some (pe_op op_add (pv 3) (pv 4)))))
    (pss_cons (ps_set (i := 8) sc_only.nd rfl (Or.inl rfl) (pe_op op_cat (pe_slice (sl_listK K rfl) (pv 6) (po_some (pe_op op_add (pv 3) (pv 4))) po_none) (pe_lst (pa_cons pe_int pa_nil))))
    (pss_one (ps_ret (pcall DV hr rfl (pa_cons (pv 0) (pa_cons (pv 7) (pa_cons (pv 8) pa_nil))))))))))), ?_⟩
  have hz : ∀ l : List Int, (l.map V.int).length = l.length := fun l => List.length_map ..
  refine ⟨_, rfl, _, rfl, a, b, _, _, rfl, ha, hb, ?_⟩
  refine comp_zip (fun i zs H' => Same H H' ∧ ∃ rs : List Addr, zs = rs.map V.ref ∧ LL H' rs (List.zipWith (fun x s => SM.equation p x s n room) (xs.take i) (ss.take i))) ⟨Same.refl _, [], rfl, trivial⟩ (fun i zs H' h => ⟨h.1.seq ha, h.1.seq hb⟩) ?_ (fun i zs H' h => ?_) ?_
  · rintro i v u t zs H1 hv hu ht ⟨g, rs, rfl, ll⟩
    obtain ⟨v, rfl, hv'⟩ := get_int hv
    obtain ⟨u, rfl, hu'⟩ := get_int hu
    have bv := hx v (List.mem_of_getElem? hv')
    have bu := hs u (List.mem_of_getElem? hu')
    have h1 := (List.getElem?_eq_some_iff.mp hv').1
    have h2 := (List.getElem?_eq_some_iff.mp hu').1
    refine ⟨small (by rw [List.length_map, ll.len, List.length_zipWith, List.length_take, List.length_take]; (first | lia | omega)), t, _, rfl, SqT.of upd_same, rfl, _, _, rfl, _, _, rfl, rfl, ⟨rfl, rfl, rfl, trivial⟩, ?_⟩
    refine ⟨_, rfl, _, rfl, _, rfl, _, rfl, _, rfl, p, v, u, n, room, rfl, hp, hpm, ⟨by (first | lia | omega), by (first | lia | omega)⟩, ⟨by (first | lia | omega), by (first | lia | omega)⟩, hn, by (first | lia | omega), by (first | lia | omega), fun r H2 g2 n2 e2 => ?_⟩
    refine ⟨g.trans ((same_new ht _).trans g2), rs ++ [r], by simp, ?_⟩
    have e : List.zipWith (fun x s => SM.equation p x s n room) (xs.take (i + 1)) (ss.take (i + 1)) = List.zipWith (fun x s => SM.equation p x s n room) (xs.take i) (ss.take i) ++ [SM.equation p v u n room] := by
      rw [take_snoc hv', take_snoc hu', List.zipWith_append (by simp; (first | lia | omega))]; rfl
    rw [e]
    exact LL.snoc e2 (ll.same ((same_new ht _).trans g2))
  · obtain ⟨g, rs, rfl, ll⟩ := h
    rw [List.length_map, ll.len, List.length_zipWith, List.length_take, List.length_take]
    exact small (by (first | lia | omega))
  · rintro zs H1 ⟨g, rs, rfl, ll⟩ r5 h5
    have ell : List.zipWith (fun x s => SM.equation p x s n room) (xs.take (min (xs.map V.int).length (ss.map V.int).length)) (ss.take (min (xs.map V.int).length (ss.map V.int).length)) = List.zipWith (fun x s => SM.equation p x s n room) xs ss := by
      rw [hz, hz, ← List.take_zipWith, List.take_of_length_le (by simp)]
    rw [ell] at ll
    have g1 := same_new h5 (.lst (rs.map V.ref))
    have e5 : (upd H1 r5 (.lst (rs.map V.ref))) r5 = some (.lst (rs.map V.ref)) := upd_same
    generalize upd H1 r5 (.lst (rs.map V.ref)) = H2 at g1 e5 ⊢
    have hrw : ∀ r ∈ List.zipWith (fun x s => SM.equation p x s n room) xs ss, SM.Rw p (n + 2 * room) r := fun r hr => by
      obtain ⟨i, x, s, _, _, rfl⟩ := SM.mem_zw hr
      exact SM.equation_rw hp2 hn
    refine ⟨_, rfl, _, rfl, _, rfl, _, rfl, _, _, rfl, rfl, .inl ⟨by (first | lia | omega), by (first | lia | omega)⟩, _, _, rfl, rfl, p, r5, n + 2 * room, rs, _, ?_, ok, e5, ll.same g1, hrw, by (first | lia | omega), ?_, fun e H3 g3 => ?_, fun an e r6 H3 g3 n3 e6 => ?_⟩
    · simp
    · rw [List.length_zipWith]; (first | lia | omega)
    · refine ⟨_, rfl, _, rfl, ?_⟩
      refine iteT ?_
      refine q0 ?_ H3 (g.trans (g1.trans g3))
      unfold SM.onlyC
      rw [e]; rfl
    · refine ⟨_, rfl, _, rfl, ?_⟩
      refine iteF ?_
      have al := (SM.solved_ok ok.1 hrw e).1
      have asg := SM.solved_sg ok.1 hrw e
      have hsum : ((n : Int) + (room : Int)) = ((n + room : Nat) : Int) := by (first | lia | omega)
      refine ⟨_, rfl, _, rfl, _, rfl, _, _, rfl, rfl, ?_⟩
      dsimp only
      rw [hsum]
      refine ⟨_, rfl, r6, _, rfl, SqL.of e6, fun r7 h7 => ?_⟩
      rw [cut_take' (by rw [hz, al]; (first | lia | omega)), ← List.map_take]
      have g7 := same_new h7 (.lst ((an.take (n + room)).map V.int))
      refine ⟨_, rfl, _, rfl, _, rfl, _, _, rfl, rfl, ?_⟩
      dsimp only
      rw [hsum]
      refine ⟨_, rfl, r6, _, rfl, SqL.of (g7 _ _ e6), fun r8 h8 => ?_⟩
      rw [cut_drop' (by rw [hz, al]; (first | lia | omega)), ← List.map_drop]
      have g8 := same_new h8 (.lst ((an.drop (n + room)).map V.int))
      refine ⟨by show 1 ≤ sizeLine; decide, fun r9 h9 => ?_⟩
      refine ⟨r8, r9, _, _, rfl, rfl, same_new h9 _ _ _ upd_same, upd_same, small (by rw [hz, List.length_drop, al]; show _ + 1 ≤ 1000; (first | lia | omega)), fun r10 h10 => ?_⟩
      have g10 := same_new h10 (.lst ((an.drop (n + room)).map V.int ++ [.int 1]))
      have gZ := g8.trans ((same_new h9 (.lst [V.int 1])).trans g10)
      refine ⟨_, rfl, _, rfl, _, rfl, p, r7, r10, an.take (n + room), an.drop (n + room) ++ [1], rfl, hp, hpm, SqL.of (gZ _ _ upd_same), SqL.of (by rw [upd_same]; simp), fun s hs => asg s (List.mem_of_mem_take hs), ?_, ?_, ?_, ?_⟩
      · rw [List.length_take]; (first | lia | omega)
      · rw [List.length_append]; show 1 ≤ _ + 1; (first | lia | omega)
      · rw [List.length_append, List.length_drop]; show _ + 1 ≤ 900; (first | lia | omega)
      · intro r11 H4 g11 n11 e11
        have gY := g.trans (g1.trans (g3.trans (g7.trans gZ)))
        refine q1 _ ?_ r11 H4 (gY.trans g11) (gY.free n11) e11
        unfold SM.onlyC
        rw [e]; rfl
end
end Sy
namespace Sy
open PySem PySem.Spec L2 L3
open PyProof.Rows hiding St
seal L2.PSs L2.PS L2.PE L2.PT L2.PW L2.PA L2.PG L2.PGs L2.PI L3.PIf
/-- the known places; the signs there -/
inductive spKnown (K : PySem.W.Frag) : List V → Hp → VK → XK → Prop
  | mk {vs : List V} {H : Hp} {Q : VK} {E_ : XK} (a : Addr) (os : List (Option Int)) (z_0 : vs = [.ref a]) (z_1 : OL K H a os) (z_2 : os.length ≤ 1000) (z_3 : NewL H (SM.knowns os) Q) : spKnown K vs H Q E_
inductive spWrongP (K : PySem.W.Frag) : List V → Hp → VK → XK → Prop
  | mk {vs : List V} {H : Hp} {Q : VK} {E_ : XK} (a b : Addr) (os : List (Option Int)) (wd : List Int) (z_0 : vs = [.ref a, .ref b]) (z_1 : OL K H a os) (z_2 : IL K H b wd) (z_3 : wd.length = os.length) (z_4 : os.length ≤ 1000) (z_5 : NewL H (SM.wrongs os wd) Q) : spWrongP K vs H Q E_
theorem get_vo {os : List (Option Int)} {i : Nat} {v : V} (h : (os.map vo)[i]? = some v) : ∃ o, v = vo o ∧ os[i]? = some o := by
  rw [List.getElem?_map] at h
  cases e : os[i]? with
  | none => rw [e] at h; cases h
  | some o => rw [e] at h; exact ⟨o, (Option.some.inj h).symm, rfl⟩
theorem vo_notN (o : Option Int) : (!decide (vo o = V.non)) = o.isSome := by cases o <;> simp [vo]
theorem knowns_snoc {os : List (Option Int)} {i : Nat} {o : Option Int} (h : os[i]? = some o) : (((List.range (i + 1)).filter fun k => (os.getD k none).isSome).map fun (k : Nat) => (k : Int)) = (((List.range i).filter fun k => (os.getD k none).isSome).map fun (k : Nat) => (k : Int)) ++ (if o.isSome then [(i : Int)] else []) := by
  have e : os.getD i none = o := by rw [List.getD_eq_getElem?_getD, h]; rfl
  rw [List.range_succ, List.filter_append, List.map_append, filter_one, e]
  cases o.isSome <;> rfl
theorem knownP_len_le (os : List (Option Int)) : (SM.knownP os).length ≤ os.length := by
  have := List.length_filter_le (fun k => (os.getD k none).isSome) (List.range os.length)
  rw [List.length_range] at this
  exact this
theorem range_filter_le (i : Nat) (f : Nat → Bool) : ((List.range i).filter f).length ≤ i := by
  have := List.length_filter_le f (List.range i)
  rwa [List.length_range] at this
theorem knownP_get {os : List (Option Int)} {i k : Nat} (h : (SM.knownP os)[i]? = some k) : k < os.length ∧ os.getD k none = some (SM.sgn os k) := by
  have hm := SM.mem_knownP.mp (List.mem_of_getElem? h)
  refine ⟨hm.1, ?_⟩
  unfold SM.sgn
  cases e : os.getD k none with
  | none => rw [e] at hm; cases hm.2
  | some s => rfl
theorem os_at {os : List (Option Int)} {k : Nat} {s : Int} (hk : k < os.length) (h : os.getD k none = some s) : atI (os.map vo) (k : Int) = some (.int s) := by
  refine atI_nat ?_
  rw [List.getElem?_map, List.getElem?_eq_getElem hk]
  rw [List.getD_eq_getElem?_getD, List.getElem?_eq_getElem hk] at h
  have h' : os[k] = some s := h
  rw [h']; rfl
theorem wrongs_knowns (os : List (Option Int)) (wd : List Int) : SM.wrongs os wd = ((SM.knownP os).filter fun k => decide (SM.sgn os k ≠ wd.getD k 0)).map fun (k : Nat) => (k : Int) := by
  unfold SM.wrongs SM.knownP
  rw [List.filter_filter]
  congr 1
  refine List.filter_congr fun k _ => ?_
  unfold SM.isW SM.sgn
  cases os.getD k none with
  | none => simp
  | some s => simp [bne, Bool.beq_eq_decide_eq]
section
variable {P : Program} {w : World} {K : PySem.W.Frag} {mg : Str → Option Value} {base : Heap}
theorem sc_known : FnScope ["signs"] ["signs"] (defScope (top 33)) := ⟨rfl, rfl, rfl, by decide +kernel, rfl, by decide +kernel, by decide +kernel⟩
theorem ok_known (D : Def K mg "known_places" ["signs"] (top 33)) (he : mg "enumerate" = none) : Has P w K mg base 1 "known_places" ["signs"] (spKnown K) := by
  refine D.ok sc_known (fun vs H Q E h => by obtain ⟨a, os, rfl, _⟩ := h; rfl) fun f cdv A outer s H vs Q E hr h => ?_
  obtain ⟨a, os, rfl, ha, hl, q⟩ := h
  refine ⟨_, pss_one (ps_ret (pe_comp (N' := ["place", "sign"]) (ix := [none, none]) rfl
    ⟨rfl, by decide +kernel, by decide +kernel, by with_unfolding_all rfl, by exact trivial, by exact trivial, by exact trivial⟩
    (pi_enum rfl he (pa_cons (pv 0) pa_nil))
    fun C ex pn s H => ⟨pg_tupK (n := 2) K rfl rfl (pgs_cons (pg_name (i := 0) (show (["place", "sign"] : List Str).Nodup by decide +kernel) rfl (Or.inl rfl)) (pgs_cons (pg_name (i := 1) (show (["place", "sign"] : List Str).Nodup by decide +kernel) rfl (Or.inl rfl)) pgs_nil)),
      pif_one (pt_cmpR op_notN (pv 1) pe_non (nomark _)), pv 0⟩)), ?_⟩
  refine ⟨_, rfl, a, _, rfl, ha, ?_⟩
  refine comp_enum (xs := os.map vo) (fun i ys H' => Same H H' ∧ i ≤ os.length ∧ ys = (((List.range i).filter fun k => (os.getD k none).isSome).map fun (k : Nat) => (k : Int)).map V.int) ⟨Same.refl H, Nat.zero_le _, rfl⟩ (fun i ys H' h => h.1.seq ha) ?_ (fun i ys H' h => ?_) ?_
  · rintro i v t ys H' hv ht ⟨g, hi, rfl⟩
    obtain ⟨o, rfl, ho⟩ := get_vo hv
    have hlt := (List.getElem?_eq_some_iff.mp ho).1
    have g2 := g.trans (same_new ht (.tup [.int (i : Int), vo o]))
    refine ⟨t, _, rfl, SqT.of upd_same, rfl, _, _, rfl, _, _, rfl, rfl, trivial, ?_⟩
    refine ⟨_, rfl, rfl, _, rfl, ?_⟩
    rw [vo_notN, knowns_snoc ho]
    cases ho' : o.isSome with
    | true => exact iteT ⟨_, rfl, g2, by (first | lia | omega), by simp⟩
    | false => exact iteF ⟨g2, by (first | lia | omega), by simp⟩
  · rw [h.2.2, List.length_map, List.length_map]
    exact small (Nat.le_trans (range_filter_le ..) (by (first | lia | omega)))
  · rintro ys H' ⟨g, hi, rfl⟩ r hr'
    refine q r _ (g.trans (same_new hr' _)) (g.free hr') ?_
    rw [upd_same, List.length_map]; rfl
theorem sc_wrongp : FnScope ["signs", "word"] ["signs", "word"] (defScope (top 43)) := ⟨rfl, rfl, rfl, by decide +kernel, rfl, by decide +kernel, by decide +kernel⟩
theorem ok_wrongp (D : Def K mg "wrong_places" ["signs", "word"] (top 43)) (KP : Has P w K mg base 1 "known_places" ["signs"] (spKnown K)) : Has P w K mg base 2 "wrong_places" ["signs", "word"] (spWrongP K) := by
  refine D.ok sc_wrongp (fun vs H Q E h => by obtain ⟨a, b, os, wd, rfl, _⟩ := h; rfl) fun f cdv A outer s H vs Q E hr h => ?_
  obtain ⟨a, b, os, wd, rfl, ha, hb, hwl, hl, q⟩ := h
  refine ⟨_, pss_one (ps_ret (pe_comp (N' := ["place", "signs", "word"]) (ix := [none, some 0, some 1]) rfl
    ⟨rfl, by decide +kernel, by decide +kernel, by with_unfolding_all rfl, by exact ⟨rfl, rfl, trivial⟩, by exact ⟨⟨_, rfl⟩, ⟨_, rfl⟩, trivial⟩, by exact ⟨⟨rfl, rfl, rfl⟩, ⟨rfl, rfl, rfl⟩, trivial⟩⟩
    (pi_listK K rfl (pcall KP hr rfl (pa_cons (pv 0) pa_nil)))
    fun C ex pn s H => ⟨pg_name (i := 0) (show (["place", "signs", "word"] : List Str).Nodup by decide +kernel) rfl (Or.inl rfl),
      pif_one (pt_cmpR op_ne (pe_ix (ix_listK K rfl) (pv 1) (pv 0) (fun _ _ => rfl)) (pe_ix (ix_listK K rfl) (pv 2) (pv 0) (fun _ _ => rfl)) (nomark _)), pv 0⟩)), ?_⟩
  refine ⟨_, rfl, a, os, rfl, ha, hl, fun r1 H1 g1 n1 e1 => ⟨r1, rfl, ⟨_, SqL.of e1⟩, ?_⟩⟩
  refine comp_list (xs := (SM.knowns os).map V.int) (fun i ys H' => H' = H1 ∧ ys = ((((SM.knownP os).take i).filter fun k => decide (SM.sgn os k ≠ wd.getD k 0)).map fun (k : Nat) => (k : Int)).map V.int) ⟨rfl, rfl⟩ (fun i ys H' h => by rw [h.1]; exact SqL.of e1) ?_ ?_
  · rintro i v ys H' hv ⟨rfl, rfl⟩
    obtain ⟨v, rfl, hv'⟩ := get_int hv
    obtain ⟨k, hk, rfl⟩ : ∃ k, (SM.knownP os)[i]? = some k ∧ ((k : Nat) : Int) = v := by
      unfold SM.knowns at hv'
      rw [List.getElem?_map] at hv'
      cases e : (SM.knownP os)[i]? with
      | none => rw [e] at hv'; cases hv'
      | some k => rw [e] at hv'; exact ⟨k, rfl, Option.some.inj hv'⟩
    obtain ⟨hk1, hk2⟩ := knownP_get hk
    refine ⟨small ?_, ⟨rfl, rfl, trivial⟩, ?_⟩
    · rw [List.length_map, List.length_map]
      exact Nat.le_trans (List.length_filter_le ..) (Nat.le_trans (by rw [List.length_take]; exact Nat.min_le_right ..) (Nat.le_trans (knownP_len_le os) hl))
    refine ⟨_, rfl, _, rfl, a, _, _, _, rfl, rfl, g1.seq ha, os_at hk1 hk2, _, rfl, _, rfl, b, _, _, _, rfl, rfl, g1.seq hb, get_at (by (first | lia | omega)), ?_⟩
    have hsn : ((SM.knownP os).take (i + 1)).filter (fun k => decide (SM.sgn os k ≠ wd.getD k 0)) = ((SM.knownP os).take i).filter (fun k => decide (SM.sgn os k ≠ wd.getD k 0)) ++ (if SM.sgn os k ≠ wd.getD k 0 then [k] else []) := by
      rw [take_snoc hk, List.filter_append, filter_one]
      congr 1
      by_cases h : SM.sgn os k = wd.getD k 0
      · have h2 : ¬ (SM.sgn os k ≠ wd.getD k 0) := fun z => z h
        rw [decide_eq_false h2, if_neg h2]; rfl
      · have h2 : SM.sgn os k ≠ wd.getD k 0 := h
        rw [decide_eq_true h2, if_pos h2]; rfl
    rw [hsn]
    refine ⟨rfl, _, rfl, ?_⟩
    by_cases h : SM.sgn os k = wd.getD k 0
    · have hd : (!decide (V.int (SM.sgn os k) = V.int (wd.getD k 0))) = false := by rw [decide_eq_true (congrArg V.int h)]; rfl
      have h2 : ¬ (SM.sgn os k ≠ wd.getD k 0) := fun z => z h
      rw [hd, if_neg h2]
      exact iteF ⟨rfl, by simp⟩
    · have hd : (!decide (V.int (SM.sgn os k) = V.int (wd.getD k 0))) = true := by rw [decide_eq_false (fun z => h (by injection z))]; rfl
      have h2 : SM.sgn os k ≠ wd.getD k 0 := h
      rw [hd, if_pos h2]
      exact iteT ⟨_, rfl, rfl, by simp⟩
  · rintro ys H' ⟨rfl, rfl⟩
    refine ⟨small ?_, fun r hr' => q r _ (g1.trans (same_new hr' _)) (g1.free hr') ?_⟩
    · rw [List.length_map, List.length_map]
      exact Nat.le_trans (List.length_filter_le ..) (Nat.le_trans (by rw [List.length_take]; exact Nat.min_le_right ..) (Nat.le_trans (knownP_len_le os) hl))
    · rw [upd_same, wrongs_knowns, List.length_map]
      have : (SM.knowns os).length = (SM.knownP os).length := List.length_map ..
      rw [this, List.take_length]
end
end Sy
namespace Sy
open PySem PySem.Spec L2 L3
open PyProof.Rows hiding St
seal L2.PSs L2.PS L2.PE L2.PT L2.PW L2.PA L2.PG L2.PGs L2.PI L3.PIf
inductive spNearE (K : PySem.W.Frag) (C : Addr) : List V → Hp → VK → XK → Prop
  | mk {vs : List V} {H : Hp} {Q : VK} {E : XK} (p : Int) (a : Addr) (n : Nat) (os : List (Option Int)) (z_0 : vs = [.int p, .ref a, .int (n : Int)]) (z_1 : Ok p) (z_2 : OL K H a os) (z_3 : SgOk p os) (z_4 : 1 ≤ n) (z_5 : n ≤ 100) (z_6 : os.length ≤ 100) (z_7 : (os.length : Int) ≤ p) (z_8 : (∀ wd, SM.nearest p os n = some wd → ∀ (t a1 a2 : Addr) (H' : Hp), Same H H' → H' t = some (.tup [.ref a1, .ref a2]) → H' a1 = some (.lst (wd.map V.int)) → H' a2 = some (.lst ((SM.wrongs os wd).map V.int)) → Q (.ref t) H')) (z_9 : (SM.nearest p os n = none → ∀ H', Same H H' → E (.ref C) none H')) : spNearE K C vs H Q E
theorem signsK_sg {p : Int} {os : List (Option Int)} (h : SgOk p os) : ∀ s ∈ SM.signsK os, 0 ≤ s ∧ s < p := fun s hs => by
  unfold SM.signsK at hs
  obtain ⟨k, hk, rfl⟩ := List.mem_map.mp hs
  obtain ⟨i, hi, e⟩ := List.mem_iff_getElem.mp hk
  obtain ⟨h1, h2⟩ := knownP_get (i := i) (k := k) (by rw [List.getElem?_eq_getElem hi, e])
  refine h _ ?_
  rw [← h2, List.getD_eq_getElem?_getD, List.getElem?_eq_getElem h1]
  exact List.getElem_mem h1
theorem knowns_mem {os : List (Option Int)} : ∀ x ∈ SM.knowns os, 0 ≤ x ∧ x < (os.length : Int) := fun x hx => by
  unfold SM.knowns at hx
  obtain ⟨k, hk, rfl⟩ := List.mem_map.mp hx
  have := (SM.mem_knownP.mp hk).1
  (first | lia | omega)
theorem knowns_len (os : List (Option Int)) : (SM.knowns os).length = SM.knownN os := by
  unfold SM.knowns
  rw [List.length_map, SM.knownP_len]
section
variable {P : Program} {w : World} {K : PySem.W.Frag} {mg : Str → Option Value} {base : Heap}
theorem sc_nearest : FnScope ["prime", "signs", "size", "places", "known", "room", "curve", "word", "wrong"] ["prime", "signs", "size"] (defScope (top 44)) := ⟨rfl, rfl, rfl, by decide +kernel, rfl, by decide +kernel, by decide +kernel⟩
set_option maxHeartbeats 1000000 in
theorem ok_nearest {C : Addr} (D : Def K mg "nearest" ["prime", "signs", "size"] (top 44)) (hC : mg "NotMended" = some (.ref C)) (hq : PySem.W.excIn K C vbm "ValueError.__new__" = true) (hlen : mg "len" = none)
    (KP : Has P w K mg base 1 "known_places" ["signs"] (spKnown K)) (OC : Has P w K mg base 5 "only_curve" ["prime", "places", "signs", "size", "room"] (spOnly K)) (AL : Has P w K mg base 3 "signs_along" ["prime", "curve", "length"] (spAlong K))
    (WP : Has P w K mg base 2 "wrong_places" ["signs", "word"] (spWrongP K)) : HasE P w K mg base 6 "nearest" ["prime", "signs", "size"] (spNearE K C) := by
  refine D.okE sc_nearest (fun vs H Q E h => by obtain ⟨p, a, n, os, rfl, _⟩ := h; rfl) fun f cdv A outer s H vs Q E hr h => ?_
  obtain ⟨p, a, n, os, rfl, ok, ha, sg, n1, n2, hol, hop, q1, q0⟩ := h
  have hp := ok.pos
  have hpm := ok.2
  refine ⟨_, (pss_cons (ps_set (i := 3) sc_nearest.nd rfl (Or.inl rfl) (pcall KP hr rfl (pa_cons (pv 1) pa_nil)))
    (pss_cons (ps_set (i := 4) sc_nearest.nd rfl (Or.inl rfl) (pe_callB (call_len_seqK K rfl) rfl hlen PySem.boot_len (pa_cons (pv 3) pa_nil)))
    (pss_cons (ps_if (pt_cmpR op_lt (pv 4) (pv 2) (nomark _)) (pss_one (ps_raise rfl hC hq (pa_cons (pe_fstr (pf_int (pv 4) (pf_str (by decide) (pf_int (pv 2) pf_nil)))) pa_nil))) pss_nil)
    (pss_cons (ps_set (i := 5) sc_nearest.nd rfl (Or.inl rfl) (pe_op op_fdiv (pe_op op_sub (pv 4) (pv 2)) pe_int))
    (pss_cons (ps_set (i := 6) sc_nearest.nd rfl (Or.inl rfl) (pcall OC hr rfl (pa_cons (pv 0) (pa_cons (pv 3) (pa_cons (pe_comp (N' := ["place", "signs"]) (ix := [none, some 1]) rfl
        ⟨rfl, by decide +kernel, by decide +kernel, by with_unfolding_all rfl, by exact ⟨rfl, trivial⟩, by exact ⟨⟨_, rfl⟩, trivial⟩, by exact ⟨⟨rfl, rfl, rfl⟩, trivial⟩⟩
        (pi_listK K rfl (pv 3))
        fun C ex pn s H => ⟨pg_name (i := 0) (show (["place", "signs"] : List Str).Nodup by decide +kernel) rfl (Or.inl rfl), pif_nil, pe_ix (ix_listK K rfl) (pv 1) (pv 0) (fun _ _ => rfl)⟩) (pa_cons (pv 2) (pa_cons (pv 5) pa_nil)))))))
    (pss_cons (ps_if (pt_cmp (pc_isN (pv 6))) (pss_one (ps_raise rfl hC hq (pa_cons pe_str pa_nil))) pss_nil)
    (pss_cons (ps_set (i := 7) sc_nearest.nd rfl (Or.inl rfl) (pcall AL hr rfl (pa_cons (pv 0) (pa_cons (pv 6) (pa_cons (pe_callB (call_len_seqK K rfl) rfl hlen PySem.boot_len (pa_cons (pv 1) pa_nil)) pa_nil)))))
    (pss_cons (ps_set (i := 8) sc_nearest.nd rfl (Or.inl rfl) (pcall WP hr rfl (pa_cons (pv 1) (pa_cons (pv 7) pa_nil))))
    (pss_cons (ps_if (pt_cmpR op_gt (pe_callB (call_len_seqK K rfl) rfl hlen PySem.boot_len (pa_cons (pv 8) pa_nil)) (pv 5) (nomark _)) (pss_one (ps_raise rfl hC hq (pa_cons pe_str pa_nil))) pss_nil)
    (pss_one (ps_ret (pe_tup (pa_cons (pv 7) (pa_cons (pv 8) pa_nil)))))))))))))), ?_⟩
  have hz : ∀ l : List Int, (l.map V.int).length = l.length := fun l => List.length_map ..
  have hzo : (os.map vo).length = os.length := List.length_map ..
  have hkn := knowns_len os
  have hkl : SM.knownN os ≤ os.length := by rw [← SM.knownP_len]; exact knownP_len_le os
  refine ⟨_, rfl, a, os, rfl, ha, by (first | lia | omega), fun r3 H1 g1 _ e3 => ?_⟩
  refine ⟨_, rfl, r3, _, rfl, .inl (SqL.of e3), ?_⟩
  rw [hz, hkn]
  refine ⟨_, rfl, _, rfl, _, _, rfl, rfl, _, rfl, ?_⟩
  by_cases hlt : SM.knownN os < n
  · refine ite_yes (by (first | lia | omega)) ?_
    refine ⟨_, rfl, _, rfl, ⟨by (first | lia | omega), by (first | lia | omega)⟩, _, rfl, _, rfl, ⟨by (first | lia | omega), by (first | lia | omega)⟩, fun x => ⟨by show 1 ≤ 100; decide, ?_⟩⟩
    refine q0 ?_ H1 g1
    unfold SM.nearest
    exact if_pos hlt
  · refine ite_no (by (first | lia | omega)) ?_
    have hro : ((SM.knownN os : Int) - (n : Int)) / 2 = ((SM.roomOf os n : Nat) : Int) := by unfold SM.roomOf; (first | lia | omega)
    refine ⟨_, rfl, _, rfl, _, _, rfl, rfl, _, _, rfl, rfl, ⟨by decide, by decide⟩, ?_⟩
    dsimp only
    rw [hro]
    refine ⟨_, rfl, _, rfl, _, rfl, r3, rfl, ⟨_, SqL.of e3⟩, ?_⟩
    refine comp_list (xs := (SM.knowns os).map V.int) (fun i ys H' => H' = H1 ∧ ys = (((SM.knownP os).take i).map (SM.sgn os)).map V.int) ⟨rfl, rfl⟩ (fun i ys H' h => by rw [h.1]; exact SqL.of e3) ?_ ?_
    · rintro i v ys H' hv ⟨rfl, rfl⟩
      obtain ⟨v, rfl, hv'⟩ := get_int hv
      obtain ⟨k, hk, rfl⟩ : ∃ k, (SM.knownP os)[i]? = some k ∧ ((k : Nat) : Int) = v := by
        unfold SM.knowns at hv'
        rw [List.getElem?_map] at hv'
        cases e : (SM.knownP os)[i]? with
        | none => rw [e] at hv'; cases hv'
        | some k => rw [e] at hv'; exact ⟨k, rfl, Option.some.inj hv'⟩
      obtain ⟨hk1, hk2⟩ := knownP_get hk
      refine ⟨small ?_, ⟨rfl, trivial⟩, ⟨_, rfl, _, rfl, a, _, _, _, rfl, rfl, g1.seq ha, os_at hk1 hk2, rfl, ?_⟩⟩
      · rw [List.length_map, List.length_map]
        exact Nat.le_trans (by rw [List.length_take]; exact Nat.min_le_right ..) (Nat.le_trans (knownP_len_le os) (by (first | lia | omega)))
      · rw [take_snoc hk]; simp
    · rintro ys H' ⟨rfl, rfl⟩
      have hkk : (SM.knowns os).length = (SM.knownP os).length := List.length_map ..
      rw [hz (SM.knowns os), hkk, List.take_length]
      refine ⟨small ?_, fun r4 h4 => ?_⟩
      · rw [List.length_map, List.length_map]
        exact Nat.le_trans (knownP_len_le os) (by (first | lia | omega))
      have g4 := same_new h4 (.lst (((SM.knownP os).map (SM.sgn os)).map V.int))
      have gA := g1.trans g4
      have hroom : SM.roomOf os n ≤ 100 := by unfold SM.roomOf; (first | lia | omega)
      refine ⟨_, rfl, _, rfl, p, r3, r4, n, SM.roomOf os n, SM.knowns os, SM.signsK os, rfl, ok, SqL.of (g4 _ _ e3), SqL.of upd_same, fun x hx => ?_, signsK_sg sg, n1, n2, hroom, by (first | lia | omega), fun e H2 g2 => ?_, fun c e r6 H2 g2 n6 e6 => ?_⟩
      · have := knowns_mem x hx
        (first | lia | omega)
      · refine ⟨_, rfl, _, rfl, ?_⟩
        refine iteT ?_
        refine ⟨by show 1 ≤ 100; decide, q0 ?_ _ (gA.trans g2)⟩
        unfold SM.nearest
        rw [if_neg hlt, e]
      · refine ⟨_, rfl, _, rfl, ?_⟩
        refine iteF ?_
        have hne : SM.nearest p os n = if SM.roomOf os n < (SM.wrongs os (SM.along p c os.length)).length then none else some (SM.along p c os.length) := by
          unfold SM.nearest
          rw [if_neg hlt, e]
        have gB := gA.trans g2
        refine ⟨_, rfl, _, rfl, _, rfl, a, _, rfl, .inl (gB.seq ha), p, r6, os.length, c, by rw [hzo]; rfl, hp, hpm, by (first | lia | omega), SqL.of e6, fun r7 H3 g3 n7 e7 => ?_⟩
        have hal : (SM.along p c os.length).length = os.length := by simp [SM.along]
        refine ⟨_, rfl, _, rfl, a, r7, os, _, rfl, (gB.trans g3).seq ha, SqL.of e7, hal, by (first | lia | omega), fun r8 H4 g5 n8 e8 => ?_⟩
        refine ⟨_, rfl, r8, _, rfl, .inl (SqL.of e8), _, rfl, _, _, rfl, rfl, _, rfl, ?_⟩
        rw [hz]
        have gC := gB.trans (g3.trans g5)
        by_cases hw : SM.roomOf os n < (SM.wrongs os (SM.along p c os.length)).length
        · refine ite_yes (by (first | lia | omega)) ⟨by show 1 ≤ 100; decide, q0 (by rw [hne, if_pos hw]) _ gC⟩
        · refine ite_no (by (first | lia | omega)) ⟨_, rfl, _, rfl, by show 2 ≤ sizeLine; decide, fun t9 h9 => ?_⟩
          have g9 := same_new h9 (.tup [.ref r7, .ref r8])
          exact q1 _ (by rw [hne, if_neg hw]) t9 r7 r8 _ (gC.trans g9) upd_same (g9 _ _ (g5 _ _ e7)) (g9 _ _ e8)
end
end Sy
namespace Sy
open PySem PySem.Spec L2 L3
open PyProof.Rows hiding St
seal L2.PSs L2.PS L2.PE L2.PT L2.PW L2.PA L2.PG L2.PGs L2.PI L3.PIf
end Sy
namespace Sy
open PySem PySem.Spec L2 L3
open PyProof.Rows hiding St
seal L2.PSs L2.PS L2.PE L2.PT L2.PW L2.PA L2.PG L2.PGs L2.PI L3.PIf
inductive spOne (K : PySem.W.Frag) : List V → Hp → VK → XK → Prop
  | mk {vs : List V} {H : Hp} {Q : VK} {E_ : XK} (a : Addr) (m L j : Nat) (os : List (Option Int)) (z_0 : vs = [.ref a, .int (m : Int), .int (j : Int)]) (z_1 : OL K H a os) (z_2 : os.length ≤ 1000) (z_3 : m ≤ 1000) (z_4 : os.length = m * L) (z_5 : j < m) (z_6 : ∀ (r : Addr) (H' : Hp), Same H H' → H r = none → H' r = some (.lst ((SM.col os m L j).map vo)) → Q (.ref r) H') : spOne K vs H Q E_
theorem step_count {m L j : Nat} (hj : j < m) : ((((m * L : Nat) : Int) - (j : Int) + (m : Int) - 1) / (m : Int)).toNat = L := by
  have e : ((m * L : Nat) : Int) - (j : Int) + (m : Int) - 1 = ((m : Int) - 1 - (j : Int)) + (L : Int) * (m : Int) := by
    rw [Int.natCast_mul, Int.mul_comm]; (first | lia | omega)
  rw [e, Int.add_mul_ediv_right _ _ (by (first | lia | omega)), Int.ediv_eq_zero_of_lt (by (first | lia | omega)) (by (first | lia | omega))]
  (first | lia | omega)
theorem col_snoc (os : List (Option Int)) (m j : Nat) (i : Nat) : SM.col os m (i + 1) j = SM.col os m i j ++ [os.getD (i * m + j) none] := by
  unfold SM.col
  rw [List.range_succ, List.map_append]; rfl
theorem col_in {m L i j : Nat} (hi : i < L) (hj : j < m) : i * m + j < m * L := by
  have h : (i + 1) * m ≤ L * m := Nat.mul_le_mul_right m hi
  rw [Nat.add_mul, Nat.one_mul, Nat.mul_comm L m] at h
  (first | lia | omega)
section
variable {P : Program} {w : World} {K : PySem.W.Frag} {mg : Str → Option Value} {base : Heap}
theorem sc_one : FnScope ["signs", "count", "first"] ["signs", "count", "first"] (defScope (top 50)) := ⟨rfl, rfl, rfl, by decide +kernel, rfl, by decide +kernel, by decide +kernel⟩
theorem ok_one (D : Def K mg "signs_of_one" ["signs", "count", "first"] (top 50)) (hlen : mg "len" = none) (hrng : mg "range" = none) : Has P w K mg base 1 "signs_of_one" ["signs", "count", "first"] (spOne K) := by
  refine D.ok sc_one (fun vs H Q E h => by obtain ⟨a, m, L, j, os, rfl, _⟩ := h; rfl) fun f cdv A outer s H vs Q E hr h => ?_
  obtain ⟨a, m, L, j, os, rfl, ha, hl, hm, hol, hj, q⟩ := h
  refine ⟨_, pss_one (ps_ret (pe_comp (N' := ["place", "signs"]) (ix := [none, some 0]) rfl
    ⟨rfl, by decide +kernel, by decide +kernel, by with_unfolding_all rfl, by exact ⟨rfl, trivial⟩, by exact ⟨⟨_, rfl⟩, trivial⟩, by exact ⟨⟨rfl, rfl, rfl⟩, trivial⟩⟩
    (pi_step rfl hrng (pa_cons (pv 2) (pa_cons (pe_callB (call_len_seqK K rfl) rfl hlen PySem.boot_len (pa_cons (pv 0) pa_nil)) (pa_cons (pv 1) pa_nil))))
    fun C ex pn s H => ⟨pg_name (i := 0) (show (["place", "signs"] : List Str).Nodup by decide +kernel) rfl (Or.inl rfl), pif_nil, pe_ix (ix_listK K rfl) (pv 1) (pv 0) (fun _ _ => rfl)⟩)), ?_⟩
  have hzo : (os.map vo).length = os.length := List.length_map ..
  refine ⟨_, rfl, _, rfl, a, _, rfl, .inl ha, _, rfl, (j : Int), _, (m : Int), rfl, ⟨by (first | lia | omega), by (first | lia | omega)⟩, ⟨by (first | lia | omega), by (first | lia | omega), by (first | lia | omega), by rw [hzo]; (first | lia | omega)⟩, ?_⟩
  rw [hzo, hol, step_count hj]
  have hLm : L ≤ 1000 := by
    have : L ≤ m * L := Nat.le_mul_of_pos_left L (by (first | lia | omega))
    (first | lia | omega)
  refine comp_step (fun i ys H' => H' = H ∧ i ≤ L ∧ ys = (SM.col os m i j).map vo) ⟨rfl, Nat.zero_le _, rfl⟩ ?_ ?_
  · rintro i ys H' hi ⟨rfl, hle, rfl⟩
    have hin := col_in (m := m) hi hj
    have hpos : (j : Int) + (i : Int) * (m : Int) = ((i * m + j : Nat) : Int) := by rw [Int.natCast_add, Int.natCast_mul]; (first | lia | omega)
    refine ⟨small (by rw [List.length_map, SM.col_len]; (first | lia | omega)), ⟨rfl, trivial⟩, ?_⟩
    have hat : atI (os.map vo) ((j : Int) + (i : Int) * (m : Int)) = some (vo (os.getD (i * m + j) none)) := by
      rw [hpos]
      refine atI_nat ?_
      rw [List.getElem?_map, List.getD_eq_getElem?_getD, List.getElem?_eq_getElem (by (first | lia | omega))]; rfl
    refine ⟨_, rfl, _, rfl, a, _, _, _, rfl, rfl, ha, hat, rfl, by (first | lia | omega), ?_⟩
    rw [col_snoc]; simp
  · rintro ys H' ⟨rfl, hle, rfl⟩
    exact ⟨small (by rw [List.length_map, SM.col_len]; (first | lia | omega)), fun r hr' => q r _ (same_new hr' _) hr' upd_same⟩
end
end Sy
namespace Sy
open PySem PySem.Spec L2 L3
open PyProof.Rows hiding St
seal L2.PSs L2.PS L2.PE L2.PT L2.PW L2.PA L2.PG L2.PGs L2.PI L3.PIf
section
variable {P : Program} {w : World} {K : PySem.W.Frag} {mg : Str → Option Value} {base : Heap}
theorem sc_countE : FnScope ["signs", "count", "total"] ["signs", "count"] (defScope (top 49)) := ⟨rfl, rfl, rfl, by decide +kernel, rfl, by decide +kernel, by decide +kernel⟩
theorem ok_countE {C : Addr} (D : Def K mg "check_count" ["signs", "count"] (top 49)) (hC : mg "BadLength" = some (.ref C)) (hq : PySem.W.excIn K C vbm "ValueError.__new__" = true) (hlen : mg "len" = none) : HasE P w K mg base 1 "check_count" ["signs", "count"] (spCountE K C) := by
  refine D.okE sc_countE (fun vs H Q E h => by obtain ⟨a, m, os, rfl, _⟩ := h; rfl) fun f cdv A outer s H vs Q E hr h => ?_
  obtain ⟨a, m, os, rfl, ha, hl, hm1, hm2, q1, q0⟩ := h
  refine ⟨_, (pss_cons (ps_if (pt_cmpR op_lt (pv 1) pe_int (nomark _)) (pss_one (ps_raise rfl hC hq (pa_cons (pe_fstr (pf_str (by decide) (pf_int (pv 1) (pf_str (by decide) pf_nil)))) pa_nil))) pss_nil)
    (pss_cons (ps_set (i := 2) sc_countE.nd rfl (Or.inl rfl) (pe_callB (call_len_seqK K rfl) rfl hlen PySem.boot_len (pa_cons (pv 0) pa_nil)))
    (pss_one (ps_if (pt_cmpR op_ne (pe_op op_mod (pv 2) (pv 1)) pe_int (nomark _)) (pss_one (ps_raise rfl hC hq (pa_cons (pe_fstr (pf_int (pv 2) (pf_str (by decide) (pf_int (pv 1) (pf_str (by decide) pf_nil))))) pa_nil))) pss_nil)))), ?_⟩
  have hzo : (os.map vo).length = os.length := List.length_map ..
  have hb : -(10 ^ 100) < m ∧ m < 10 ^ 100 := ⟨by (first | lia | omega), by (first | lia | omega)⟩
  refine ⟨_, rfl, _, _, rfl, rfl, _, rfl, ?_⟩
  by_cases h1 : m < 1
  · exact ite_yes h1 ⟨_, rfl, _, rfl, hb, fun x => ⟨by show 1 ≤ 100; decide, q0 (.inl h1) H (Same.refl H)⟩⟩
  · refine ite_no h1 ?_
    refine ⟨_, rfl, a, _, rfl, .inl ha, ?_⟩
    rw [hzo]
    refine ⟨_, rfl, _, rfl, _, _, rfl, rfl, by (first | lia | omega), rfl, _, rfl, ?_⟩
    by_cases h2 : (os.length : Int) % m = 0
    · have hd : (!decide (V.int ((os.length : Int) % m) = V.int 0)) = false := by rw [decide_eq_true (congrArg V.int h2)]; rfl
      rw [hd]
      exact iteF (q1 (fun z => z.elim h1 fun y => y h2))
    · have hd : (!decide (V.int ((os.length : Int) % m) = V.int 0)) = true := by rw [decide_eq_false (fun z => h2 (by injection z))]; rfl
      rw [hd]
      refine iteT ⟨_, rfl, _, rfl, ⟨by (first | lia | omega), by (first | lia | omega)⟩, _, rfl, _, rfl, hb, fun x => ⟨by show 1 ≤ 100; decide, q0 (.inr h2) H (Same.refl H)⟩⟩
end
end Sy
namespace Sy
open PySem PySem.Spec L2 L3
open PyProof.Rows hiding St
seal L2.PSs L2.PS L2.PE L2.PT L2.PW L2.PA L2.PG L2.PGs L2.PI L3.PIf
inductive Kd
  | prime | sign | length | mended deriving DecidableEq
structure Cls where
  np : Addr
  bs : Addr
  bl : Addr
  nm : Addr
def Cls.of (c : Cls) : Kd → Addr
  | .prime => c.np
  | .sign => c.bs
  | .length => c.bl
  | .mended => c.nm
/-- no prime of up to a thousand -/
def NoPr (p : Int) : Prop := p < 2 ∨ 1000 < p ∨ ∃ d : Int, 2 ≤ d ∧ d * d ≤ p ∧ p % d = 0
structure PrB (p : Int) (pr : Bool) : Prop where
  yes : pr = true → Ok p
  no : pr = false → NoPr p
def Bd (p : Int) : Prop := -(10 ^ 50) < p ∧ p < 10 ^ 50
def BdL (os : List (Option Int)) : Prop := ∀ s, some s ∈ os → Bd s
def sgO (g : Bool) (p : Int) : Option Int → Bool
  | none => g
  | some s => decide (0 ≤ s ∧ s < p)
def sgB (g : Bool) (p : Int) (os : List (Option Int)) : Bool := os.all (sgO g p)
def lnB (p m n : Int) : Bool := decide (1 ≤ m ∧ m ≤ n ∧ n ≤ p)
def chk (pr g : Bool) (p : Int) (os : List (Option Int)) (m n : Int) : Option Kd := bif pr then (bif sgB g p os then (bif lnB p m n then none else some .length) else some .sign) else some .prime
def mdO (pr : Bool) (p : Int) (os : List (Option Int)) (n : Int) : Option Kd := match chk pr true p os n os.length with
  | some k => some k
  | none => match SM.nearest p os n.toNat with
    | none => some .mended
    | some _ => none
def fstO : List (Option Kd) → Option Kd
  | [] => none
  | none :: r => fstO r
  | some k :: _ => some k
def laO (pr : Bool) (p : Int) (ws : List (List (Option Int))) (L : Int) : Option Kd := bif pr then fstO (ws.map fun w => chk pr false p w w.length L) else some .prime
def tkO (pr : Bool) (p : Int) (os : List (Option Int)) (m n : Int) : Option Kd := bif pr then (bif decide (m < 1 ∨ (os.length : Int) % m ≠ 0) then some .length else fstO ((List.range m.toNat).map fun j => mdO pr p (SM.col os m.toNat (os.length / m.toNat) j) n)) else some .prime
/-- what follows: the good end, or the refusal -/
def Out (c : Cls) (o : Option Kd) (good : Prop) (H : Hp) (E : XK) : Prop := match o with
  | none => good
  | some k => ∀ H', Same H H' → E (.ref (c.of k)) none H'
theorem Out.bad {c : Cls} {o : Option Kd} {good : Prop} {H : Hp} {E : XK} {k : Kd} (h : Out c o good H E) (e : o = some k) {H' : Hp} (g : Same H H') : E (.ref (c.of k)) none H' := by
  subst e
  exact h H' g
theorem Out.ok {c : Cls} {o : Option Kd} {good : Prop} {H : Hp} {E : XK} (h : Out c o good H E) (e : o = none) : good := by
  subst e
  exact h
section
variable {pr g : Bool} {p m n : Int} {os : List (Option Int)}
theorem chk_prime : chk false g p os m n = some .prime := rfl
theorem chk_sign (h : sgB g p os = false) : chk true g p os m n = some .sign := by unfold chk; rw [h]; rfl
theorem chk_len (h : sgB g p os = true) (h2 : lnB p m n = false) : chk true g p os m n = some .length := by unfold chk; rw [h, h2]; rfl
theorem chk_ok (h : sgB g p os = true) (h2 : lnB p m n = true) : chk true g p os m n = none := by unfold chk; rw [h, h2]; rfl
theorem ln_yes (h : lnB p m n = true) : 1 ≤ m ∧ m ≤ n ∧ n ≤ p := of_decide_eq_true h
theorem sg_gaps (h : sgB true p os = true) : SgOk p os := fun s hs => of_decide_eq_true (List.all_eq_true.mp h _ hs)
theorem sg_ints (h : sgB false p os = true) : ∃ ns : List Int, os = ns.map some ∧ ∀ s ∈ ns, 0 ≤ s ∧ s < p := by
  induction os with
  | nil => exact ⟨[], rfl, fun s hs => by cases hs⟩
  | cons o r ih =>
    have h' : (sgO false p o && sgB false p r) = true := h
    rw [Bool.and_eq_true] at h'
    obtain ⟨ns, e, hb⟩ := ih h'.2
    cases o with
    | none => cases h'.1
    | some s =>
      refine ⟨s :: ns, by rw [e]; rfl, fun x hx => ?_⟩
      rcases List.mem_cons.mp hx with rfl | hx
      · exact of_decide_eq_true h'.1
      · exact hb x hx
/-- the signs without the gaps -/
def nosN (os : List (Option Int)) : List (Option Int) := os.filter Option.isSome
theorem sg_nosN : sgB false p (nosN os) = sgB true p os := by
  induction os with
  | nil => rfl
  | cons o r ih =>
    cases o with
    | none =>
      show sgB false p (nosN r) = (true && sgB true p r)
      rw [ih]; rfl
    | some s =>
      show (sgO false p (some s) && sgB false p (nosN r)) = (sgO true p (some s) && sgB true p r)
      rw [ih]; rfl
theorem md_bad {k : Kd} (h : chk pr true p os n os.length = some k) : mdO pr p os n = some k := by unfold mdO; rw [h]
theorem md_none (h : chk pr true p os n os.length = none) (h2 : SM.nearest p os n.toNat = none) : mdO pr p os n = some .mended := by unfold mdO; rw [h, h2]
theorem md_some {wd : List Int} (h : chk pr true p os n os.length = none) (h2 : SM.nearest p os n.toNat = some wd) : mdO pr p os n = none := by unfold mdO; rw [h, h2]
theorem chk_inv (h : chk pr g p os m n = none) : pr = true ∧ sgB g p os = true ∧ lnB p m n = true := by
  cases pr with
  | false => cases h
  | true =>
    cases h1 : sgB g p os with
    | false => rw [chk_sign h1] at h; cases h
    | true =>
      cases h2 : lnB p m n with
      | false => rw [chk_len h1 h2] at h; cases h
      | true => exact ⟨rfl, rfl, rfl⟩
end
theorem fst_at : ∀ {l : List (Option Kd)} {i : Nat} {k : Kd}, l[i]? = some (some k) → (∀ j o, j < i → l[j]? = some o → o = none) → fstO l = some k
  | [], i, k, h, _ => by simp at h
  | o :: r, 0, k, h, _ => by
    have e : o = some k := by simpa using h
    subst e; rfl
  | o :: r, i + 1, k, h, hb => by
    have e : o = none := hb 0 o (Nat.succ_pos _) rfl
    subst e
    exact fst_at (l := r) (i := i) (by simpa using h) fun j o hj e => hb (j + 1) o (Nat.succ_lt_succ hj) (by simpa using e)
theorem fst_all : ∀ {l : List (Option Kd)}, (∀ o ∈ l, o = none) → fstO l = none
  | [], _ => rfl
  | none :: r, h => fst_all (l := r) fun o ho => h o (List.mem_cons_of_mem _ ho)
  | some k :: r, h => by have := h (some k) (List.mem_cons_self ..); cases this
inductive spPrB : List V → Hp → VK → XK → Prop
  | mk {vs : List V} {H : Hp} {Q : VK} {E_ : XK} (p : Int) (pr : Bool) (z_0 : vs = [.int p]) (z_1 : PrB p pr) (z_2 : Q (.bl pr) H) : spPrB  vs H Q E_
inductive spCkP (C : Addr) : List V → Hp → VK → XK → Prop
  | mk {vs : List V} {H : Hp} {Q : VK} {E : XK} (p : Int) (pr : Bool) (z_0 : vs = [.int p]) (z_1 : Bd p) (z_2 : PrB p pr) (z_3 : (pr = true → Q .non H)) (z_4 : (pr = false → E (.ref C) none H)) : spCkP C vs H Q E
inductive spCkS (K : PySem.W.Frag) (C : Addr) : List V → Hp → VK → XK → Prop
  | mk {vs : List V} {H : Hp} {Q : VK} {E : XK} (p : Int) (a : Addr) (os : List (Option Int)) (z_0 : vs = [.int p, .ref a]) (z_1 : OL K H a os) (z_2 : Bd p) (z_3 : BdL os) (z_4 : (sgB false p os = true → Q .non H)) (z_5 : (sgB false p os = false → E (.ref C) none H)) : spCkS K C vs H Q E
inductive spCkG (K : PySem.W.Frag) (C : Addr) : List V → Hp → VK → XK → Prop
  | mk {vs : List V} {H : Hp} {Q : VK} {E : XK} (p : Int) (a : Addr) (os : List (Option Int)) (z_0 : vs = [.int p, .ref a]) (z_1 : OL K H a os) (z_2 : os.length ≤ 1000) (z_3 : Bd p) (z_4 : BdL os) (z_5 : (sgB true p os = true → ∀ H', Same H H' → Q .non H')) (z_6 : (sgB true p os = false → ∀ H', Same H H' → E (.ref C) none H')) : spCkG K C vs H Q E
inductive spCkL (C : Addr) : List V → Hp → VK → XK → Prop
  | mk {vs : List V} {H : Hp} {Q : VK} {E : XK} (p m n : Int) (z_0 : vs = [.int p, .int m, .int n]) (z_1 : Bd p) (z_2 : Bd m) (z_3 : Bd n) (z_4 : (lnB p m n = true → Q .non H)) (z_5 : (lnB p m n = false → E (.ref C) none H)) : spCkL C vs H Q E
inductive spMadeE (K : PySem.W.Frag) (c : Cls) : List V → Hp → VK → XK → Prop
  | mk {vs : List V} {H : Hp} {Q : VK} {E : XK} (p : Int) (a : Addr) (os : List (Option Int)) (n : Int) (pr : Bool) (z_0 : vs = [.int p, .ref a, .int n]) (z_1 : PrB p pr) (z_2 : OL K H a os) (z_3 : os.length ≤ 100) (z_4 : Bd p) (z_5 : BdL os) (z_6 : Bd n) (z_7 : Out c (chk pr false p os os.length n) (∀ ns, os = ns.map some → ∀ (r : Addr) (H' : Hp), Same H H' → H' r = some (.lst ((SM.lengthened p ns n.toNat).map V.int)) → Q (.ref r) H') H E) : spMadeE K c vs H Q E
inductive spIsMadeE (K : PySem.W.Frag) (c : Cls) : List V → Hp → VK → XK → Prop
  | mk {vs : List V} {H : Hp} {Q : VK} {E : XK} (p : Int) (a : Addr) (os : List (Option Int)) (n : Int) (pr : Bool) (z_0 : vs = [.int p, .ref a, .int n]) (z_1 : PrB p pr) (z_2 : OL K H a os) (z_3 : os.length ≤ 100) (z_4 : Bd p) (z_5 : BdL os) (z_6 : Bd n) (z_7 : Out c (chk pr false p os n os.length) (∀ (v : V) (H' : Hp), Same H H' → Q v H') H E) : spIsMadeE K c vs H Q E
inductive spFilledE (K : PySem.W.Frag) (c : Cls) : List V → Hp → VK → XK → Prop
  | mk {vs : List V} {H : Hp} {Q : VK} {E : XK} (p : Int) (a : Addr) (os : List (Option Int)) (n : Int) (pr : Bool) (z_0 : vs = [.int p, .ref a, .int n]) (z_1 : PrB p pr) (z_2 : OL K H a os) (z_3 : os.length ≤ 100) (z_4 : Bd p) (z_5 : BdL os) (z_6 : Bd n) (z_7 : Out c (chk pr true p os n os.length) (∀ (v : V) (H' : Hp), Same H H' → Q v H') H E) : spFilledE K c vs H Q E
inductive spMdE (K : PySem.W.Frag) (c : Cls) : List V → Hp → VK → XK → Prop
  | mk {vs : List V} {H : Hp} {Q : VK} {E : XK} (p : Int) (a : Addr) (os : List (Option Int)) (n : Int) (pr : Bool) (z_0 : vs = [.int p, .ref a, .int n]) (z_1 : PrB p pr) (z_2 : OL K H a os) (z_3 : os.length ≤ 100) (z_4 : Bd p) (z_5 : BdL os) (z_6 : Bd n) (z_7 : Out c (mdO pr p os n) (∀ (xs : List Int) (t a1 a2 : Addr) (H' : Hp), Same H H' → H' t = some (.tup [.ref a1, .ref a2]) → H' a1 = some (.lst (xs.map V.int)) → Q (.ref t) H') H E) : spMdE K c vs H Q E
inductive spRdE (K : PySem.W.Frag) (c : Cls) : List V → Hp → VK → XK → Prop
  | mk {vs : List V} {H : Hp} {Q : VK} {E : XK} (p : Int) (a : Addr) (os : List (Option Int)) (n : Int) (pr : Bool) (z_0 : vs = [.int p, .ref a, .int n]) (z_1 : PrB p pr) (z_2 : OL K H a os) (z_3 : os.length ≤ 100) (z_4 : Bd p) (z_5 : BdL os) (z_6 : Bd n) (z_7 : Out c (mdO pr p os n) (∀ (v : V) (H' : Hp), Same H H' → Q v H') H E) : spRdE K c vs H Q E
inductive spLaE (c : Cls) : List V → Hp → VK → XK → Prop
  | mk {vs : List V} {H : Hp} {Q : VK} {E : XK} (p : Int) (a : Addr) (L : Int) (rs : List Addr) (ws : List (List (Option Int))) (pr : Bool) (z_0 : vs = [.int p, .ref a, .int L]) (z_1 : PrB p pr) (z_2 : H a = some (.lst (rs.map V.ref))) (z_3 : LV H rs (ws.map (·.map vo))) (z_4 : ws.length ≤ 20) (z_5 : (∀ w ∈ ws, w.length ≤ 100 ∧ BdL w)) (z_6 : Bd p) (z_7 : Bd L) (z_8 : Out c (laO pr p ws L) (∀ (v : V) (H' : Hp), Same H H' → Q v H') H E) : spLaE c vs H Q E
inductive spTkE (K : PySem.W.Frag) (c : Cls) : List V → Hp → VK → XK → Prop
  | mk {vs : List V} {H : Hp} {Q : VK} {E : XK} (p : Int) (a : Addr) (m n : Int) (os : List (Option Int)) (pr : Bool) (z_0 : vs = [.int p, .ref a, .int m, .int n]) (z_1 : PrB p pr) (z_2 : OL K H a os) (z_3 : os.length ≤ 100) (z_4 : Bd p) (z_5 : BdL os) (z_6 : 1 ≤ m) (z_7 : m ≤ 100) (z_8 : Bd n) (z_9 : Out c (tkO pr p os m n) (∀ (v : V) (H' : Hp), Same H H' → Q v H') H E) : spTkE K c vs H Q E
end Sy
namespace Sy
open PySem PySem.Spec L2 L3
open PyProof.Rows hiding St
seal L2.PSs L2.PS L2.PE L2.PT L2.PW L2.PA L2.PG L2.PGs L2.PI L3.PIf
theorem Bd.wide {p : Int} (h : Bd p) : -(10 ^ 100) < p ∧ p < 10 ^ 100 := by
  obtain ⟨h1, h2⟩ := h
  exact ⟨by (first | lia | omega), by (first | lia | omega)⟩
section
variable {P : Program} {w : World} {K : PySem.W.Frag} {mg : Str → Option Value} {base : Heap}
theorem sc_is_primeB : FnScope ["number", "divisor"] ["number"] (defScope (top 9)) := ⟨rfl, rfl, rfl, by decide +kernel, rfl, by decide +kernel, by decide +kernel⟩
theorem ok_is_primeB (D : Def K mg "is_prime" ["number"] (top 9)) (hG : ∃ t, mg "GREATEST" = some (.int 1000 t)) : Has P w K mg base 1 "is_prime" ["number"] spPrB := by
  refine D.ok sc_is_primeB (fun vs H Q E h => by obtain ⟨p, pr, rfl, _⟩ := h; rfl) fun f cdv A outer s H vs Q E hr h => ?_
  obtain ⟨p, pr, rfl, hp, q⟩ := h
  obtain ⟨tg, hG⟩ := hG
  refine ⟨_, pss_cons (ps_if (ptw (pw_or (pt_cmpR op_lt (pv 0) pe_int (nomark _)) (pw_or1 (pt_cmpR op_gt (pv 0) (pe_glob (v := .int 1000) (by exact rfl) (by exact hG) (by exact ⟨tg, rfl⟩)) (nomark _))))) (pss_one (ps_ret pe_bl)) pss_nil)
    (pss_cons (ps_set (i := 1) sc_is_primeB.nd rfl (Or.inl rfl) pe_int)
    (pss_cons (ps_while PassesOwn.never (pt_cmpR op_le (pe_op op_mul (pv 1) (pv 1)) (pv 0) (nomark _))
      (pss_cons (ps_if (pt_cmpR op_eq (pe_op op_mod (pv 0) (pv 1)) pe_int (nomark _)) (pss_one (ps_ret pe_bl)) pss_nil)
      (pss_one (ps_set (i := 1) sc_is_primeB.nd rfl (Or.inl rfl) (pe_op op_add (pv 1) pe_int)))))
    (pss_one (ps_ret pe_bl)))), ?_⟩
  refine ⟨_, rfl, _, _, rfl, rfl, _, rfl, ?_⟩
  by_cases h2 : p < 2
  · have e : pr = false := by
      cases pr with
      | false => rfl
      | true => have := (hp.yes rfl).1.two; (first | lia | omega)
    subst e
    exact ite_yes h2 (iteT q)
  refine ite_no h2 ⟨_, rfl, _, _, rfl, rfl, _, rfl, ?_⟩
  by_cases h3 : 1000 < p
  · have e : pr = false := by
      cases pr with
      | false => rfl
      | true => have := (hp.yes rfl).2; (first | lia | omega)
    subst e
    exact ite_yes h3 q
  refine ite_no h3 ?_
  refine while_by (fun σ H' => H' = H ∧ ∃ d : Int, σ = [some (.int p), some (.int d)] ∧ 2 ≤ d ∧ d ≤ 1001 ∧ (pr = false → ∃ e : Int, d ≤ e ∧ e * e ≤ p ∧ p % e = 0)) (fun σ _ => (1001 - mI σ 1).toNat) ⟨rfl, 2, rfl, by (first | lia | omega), by (first | lia | omega), fun z => ?_⟩ ?_ ?_
  · rcases hp.no z with y | y | ⟨e, y1, y2, y3⟩
    · exact absurd y h2
    · exact absurd y h3
    · exact ⟨e, y1, y2, y3⟩
  · rintro σ H' ⟨rfl, d, rfl, d1, d2, hd⟩
    refine ⟨_, rfl, _, rfl, _, _, rfl, rfl, .inl ⟨by (first | lia | omega), by (first | lia | omega)⟩, _, rfl, _, _, rfl, rfl, _, rfl, ?_⟩
    by_cases c : d * d ≤ p
    · have h4 : 2 * d ≤ d * d := Int.mul_le_mul_of_nonneg_right d1 (by (first | lia | omega))
      refine ite_yes c ⟨_, rfl, _, rfl, _, _, rfl, rfl, (show (0 : Int) < d by (first | lia | omega)), rfl, _, rfl, ?_⟩
      by_cases c2 : p % d = 0
      · have e : pr = false := by
          cases pr with
          | false => rfl
          | true => exact absurd c2 (fld_no (hp.yes rfl).1 d1 c)
        subst e
        exact ite_yes (congrArg V.int c2) q
      · refine ite_no (fun z => c2 (by injection z)) ⟨_, rfl, _, _, rfl, rfl, ⟨rfl, d + 1, rfl, by (first | lia | omega), by (first | lia | omega), fun z => ?_⟩, ?_⟩
        · obtain ⟨e, y1, y2, y3⟩ := hd z
          refine ⟨e, ?_, y2, y3⟩
          by_cases y : d = e
          · subst y; exact absurd y3 c2
          · (first | lia | omega)
        · show (1001 - (d + 1)).toNat < (1001 - d).toNat
          (first | lia | omega)
    · refine ite_no c ?_
      have e : pr = true := by
        cases pr with
        | true => rfl
        | false =>
          obtain ⟨e, y1, y2, y3⟩ := hd rfl
          have : d * d ≤ e * e := Int.mul_le_mul y1 y1 (by (first | lia | omega)) (by (first | lia | omega))
          (first | lia | omega)
      subst e
      exact q
  · rintro σ H' Q1 Q2 hQ ⟨v, e, v2, e', i, j, e1, e2, c, v3, e3, i', j', e4, e5, k, e6, h⟩
    exact ⟨v, e, v2, e', i, j, e1, e2, c, v3, e3, i', j', e4, e5, k, e6, hQ _ _ h⟩
theorem sc_check_primeE : FnScope ["prime"] ["prime"] (defScope (top 10)) := ⟨rfl, rfl, rfl, by decide +kernel, rfl, by decide +kernel, by decide +kernel⟩
theorem ok_check_primeE {C : Addr} (D : Def K mg "check_prime" ["prime"] (top 10)) (hC : mg "NotPrime" = some (.ref C)) (hq : PySem.W.excIn K C vbm "ValueError.__new__" = true) (hG : ∃ t, mg "GREATEST" = some (.int 1000 t)) (I1 : Has P w K mg base 1 "is_prime" ["number"] spPrB) :
    HasE P w K mg base 2 "check_prime" ["prime"] (spCkP C) := by
  obtain ⟨tg, hG⟩ := hG
  refine D.okE sc_check_primeE (fun vs H Q E h => by obtain ⟨p, pr, rfl, _⟩ := h; rfl) fun f cdv A outer s H vs Q E hr h => ?_
  obtain ⟨p, pr, rfl, hb, hp, q1, q0⟩ := h
  refine ⟨_, pss_one (ps_if (pt_not (pt_val (pcall I1 hr rfl (pa_cons (pv 0) pa_nil)))) (pss_one (ps_raise rfl hC hq (pa_cons (pe_fstr (pf_int (pv 0) (pf_str (by decide) (pf_int (pe_glob (v := .int 1000) (by exact rfl) (by exact hG) (by exact ⟨tg, rfl⟩)) pf_nil)))) pa_nil))) pss_nil), ?_⟩
  refine ⟨_, rfl, p, pr, rfl, hp, _, rfl, ?_⟩
  cases pr with
  | true => exact iteF (q1 rfl)
  | false => exact iteT ⟨_, rfl, _, rfl, hb.wide, _, rfl, ⟨by decide, by decide⟩, fun x => ⟨by show 1 ≤ 100; decide, q0 rfl⟩⟩
theorem sc_check_signsE : FnScope ["prime", "signs", "sign"] ["prime", "signs"] (defScope (top 12)) := ⟨rfl, rfl, rfl, by decide +kernel, rfl, by decide +kernel, by decide +kernel⟩
theorem ok_check_signsE {C : Addr} (D : Def K mg "check_signs" ["prime", "signs"] (top 12)) (hC : mg "BadSign" = some (.ref C)) (hq : PySem.W.excIn K C vbm "ValueError.__new__" = true) (I1 : Has P w K mg base 1 "is_sign" ["prime", "number"] spIsSign) :
    HasE P w K mg base 2 "check_signs" ["prime", "signs"] (spCkS K C) := by
  refine D.okE sc_check_signsE (fun vs H Q E h => by obtain ⟨p, a, os, rfl, _⟩ := h; rfl) fun f cdv A outer s H vs Q E hr h => ?_
  obtain ⟨p, a, os, rfl, ha, hb, hbl, q1, q0⟩ := h
  refine ⟨_, pss_one (ps_for PassesOwn.leaving rfl (pi_listK K rfl (pv 1)) (pg_name (i := 2) sc_check_signsE.nd rfl (Or.inl rfl))
    (pss_cons (ps_if (pt_cmp (pc_isN (pv 2))) (pss_one (ps_raise rfl hC hq (pa_cons pe_str pa_nil))) pss_nil)
    (pss_one (ps_if (pt_not (pt_val (pcall I1 hr rfl (pa_cons (pv 0) (pa_cons (pv 2) pa_nil))))) (pss_one (ps_raise rfl hC hq (pa_cons (pe_fstr (pf_int (pv 2) (pf_str (by decide) (pf_int (pv 0) pf_nil)))) pa_nil))) pss_nil)))), ?_⟩
  refine ⟨_, rfl, a, rfl, ⟨_, ha⟩, ?_⟩
  refine for_list (xs := os.map vo) (fun i σ H' => H' = H ∧ (∀ o ∈ os.take i, sgO false p o = true) ∧ ∃ o : Option V, σ = [some (.int p), some (.ref a), o]) ⟨rfl, fun o ho => by simp at ho, none, rfl⟩ (fun i σ H' _ h => by rw [h.1]; exact ha) ?_ ?_
  · rintro i v σ H' hv ⟨rfl, hall, o, rfl⟩
    obtain ⟨o1, rfl, ho⟩ := get_vo hv
    have hm := List.mem_of_getElem? ho
    have bad : sgO false p o1 = false → sgB false p os = false := fun z => by
      cases e : sgB false p os with
      | false => rfl
      | true => rw [List.all_eq_true.mp e _ hm] at z; cases z
    cases o1 with
    | none => exact ⟨_, rfl, _, rfl, iteT ⟨by show 1 ≤ 100; decide, q0 (bad rfl)⟩⟩
    | some x =>
      refine ⟨_, rfl, _, rfl, iteF ?_⟩
      refine ⟨_, rfl, _, rfl, p, x, rfl, _, rfl, ?_⟩
      by_cases hx : 0 ≤ x ∧ x < p
      · rw [decide_eq_true hx]
        refine iteF ⟨rfl, fun o ho' => ?_, _, rfl⟩
        rw [take_snoc ho] at ho'
        rcases List.mem_append.mp ho' with z | z
        · exact hall o z
        · rw [List.mem_singleton.mp z]
          exact decide_eq_true hx
      · rw [decide_eq_false hx]
        exact iteT ⟨_, rfl, _, rfl, (hbl x hm).wide, _, rfl, _, rfl, hb.wide, fun y => ⟨by show 1 ≤ 100; decide, q0 (bad (decide_eq_false hx))⟩⟩
  · rintro σ H' ⟨rfl, hall, _⟩
    rw [List.length_map, List.take_length] at hall
    exact q1 (List.all_eq_true.mpr hall)
theorem sc_check_gapsE : FnScope ["prime", "signs"] ["prime", "signs"] (defScope (top 13)) := ⟨rfl, rfl, rfl, by decide +kernel, rfl, by decide +kernel, by decide +kernel⟩
theorem ok_check_gapsE {C : Addr} (D : Def K mg "check_signs_or_gaps" ["prime", "signs"] (top 13)) (CS : HasE P w K mg base 2 "check_signs" ["prime", "signs"] (spCkS K C)) : HasE P w K mg base 3 "check_signs_or_gaps" ["prime", "signs"] (spCkG K C) := by
  refine D.okE sc_check_gapsE (fun vs H Q E h => by obtain ⟨p, a, os, rfl, _⟩ := h; rfl) fun f cdv A outer s H vs Q E hr h => ?_
  obtain ⟨p, a, os, rfl, ha, hl, hb, hbl, q1, q0⟩ := h
  refine ⟨_, pss_one (ps_expr (pcallE CS hr rfl (pa_cons (pv 0) (pa_cons (pe_comp (N' := ["sign"]) (ix := [none]) rfl
    ⟨rfl, by decide +kernel, by decide +kernel, by with_unfolding_all rfl, by exact trivial, by exact trivial, by exact trivial⟩
    (pi_listK K rfl (pv 1))
    fun C ex pn s H => ⟨pg_name (i := 0) (show (["sign"] : List Str).Nodup by decide +kernel) rfl (Or.inl rfl), pif_one (pt_cmpR op_notN (pv 0) pe_non (nomark _)), pv 0⟩) pa_nil)))), ?_⟩
  refine ⟨_, rfl, _, rfl, a, rfl, ⟨_, ha⟩, ?_⟩
  refine comp_list (xs := os.map vo) (fun i ys H' => H' = H ∧ ys = (nosN (os.take i)).map vo) ⟨rfl, rfl⟩ (fun i ys H' h => by rw [h.1]; exact ha) ?_ ?_
  · rintro i v ys H' hv ⟨rfl, rfl⟩
    obtain ⟨o, rfl, ho⟩ := get_vo hv
    have hnl : (nosN (os.take i)).length ≤ os.length := Nat.le_trans (List.length_filter_le _ _) (by rw [List.length_take]; (first | lia | omega))
    refine ⟨small (by rw [List.length_map]; (first | lia | omega)), trivial, ?_⟩
    refine ⟨_, rfl, rfl, _, rfl, ?_⟩
    rw [vo_notN]
    have hsn : nosN (os.take (i + 1)) = nosN (os.take i) ++ (if o.isSome = true then [o] else []) := by
      unfold nosN
      rw [take_snoc ho, List.filter_append, filter_one]
    rw [hsn]
    cases o with
    | none => exact iteF ⟨rfl, by simp⟩
    | some x => exact iteT ⟨_, rfl, rfl, by simp⟩
  · rintro ys H' ⟨rfl, rfl⟩
    rw [show (os.map vo).length = os.length from List.length_map .., List.take_length]
    have hnl : (nosN os).length ≤ os.length := List.length_filter_le _ _
    refine ⟨small (by rw [List.length_map]; (first | lia | omega)), fun r hr' => ?_⟩
    have g := same_new hr' (.lst ((nosN os).map vo))
    refine ⟨p, r, nosN os, rfl, SqL.of upd_same, hb, fun s hs => hbl s (List.mem_filter.mp hs).1, fun z => ?_, fun z => ?_⟩
    · exact q1 (sg_nosN ▸ z) _ g
    · exact q0 (sg_nosN ▸ z) _ g
theorem sc_check_lengthE : FnScope ["prime", "size", "length"] ["prime", "size", "length"] (defScope (top 29)) := ⟨rfl, rfl, rfl, by decide +kernel, rfl, by decide +kernel, by decide +kernel⟩
theorem ok_check_lengthE {C : Addr} (D : Def K mg "check_length" ["prime", "size", "length"] (top 29)) (hC : mg "BadLength" = some (.ref C)) (hq : PySem.W.excIn K C vbm "ValueError.__new__" = true) : HasE P w K mg base 1 "check_length" ["prime", "size", "length"] (spCkL C) := by
  refine D.okE sc_check_lengthE (fun vs H Q E h => by obtain ⟨p, m, n, rfl, _⟩ := h; rfl) fun f cdv A outer s H vs Q E hr h => ?_
  obtain ⟨p, m, n, rfl, hp, hm, hn, q1, q0⟩ := h
  refine ⟨_, (pss_cons (ps_if (pt_cmpR op_lt (pv 1) pe_int (nomark _)) (pss_one (ps_raise rfl hC hq (pa_cons (pe_fstr (pf_str (by decide) (pf_int (pv 1) (pf_str (by decide) pf_nil)))) pa_nil))) pss_nil)
    (pss_cons (ps_if (pt_cmpR op_lt (pv 2) (pv 1) (nomark _)) (pss_one (ps_raise rfl hC hq (pa_cons (pe_fstr (pf_str (by decide) (pf_int (pv 2) (pf_str (by decide) (pf_int (pv 1) pf_nil))))) pa_nil))) pss_nil)
    (pss_one (ps_if (pt_cmpR op_gt (pv 2) (pv 0) (nomark _)) (pss_one (ps_raise rfl hC hq (pa_cons (pe_fstr (pf_str (by decide) (pf_int (pv 2) (pf_str (by decide) (pf_int (pv 0) pf_nil))))) pa_nil))) pss_nil)))), ?_⟩
  refine ⟨_, rfl, _, _, rfl, rfl, _, rfl, ?_⟩
  by_cases h1 : m < 1
  · exact ite_yes h1 ⟨_, rfl, _, rfl, hm.wide, fun x => ⟨by show 1 ≤ 100; decide, q0 (decide_eq_false fun z => by (first | lia | omega))⟩⟩
  refine ite_no h1 ⟨_, rfl, _, rfl, _, _, rfl, rfl, _, rfl, ?_⟩
  by_cases h2 : n < m
  · exact ite_yes h2 ⟨_, rfl, _, rfl, hn.wide, _, rfl, _, rfl, hm.wide, fun x => ⟨by show 1 ≤ 100; decide, q0 (decide_eq_false fun z => by (first | lia | omega))⟩⟩
  refine ite_no h2 ⟨_, rfl, _, rfl, _, _, rfl, rfl, _, rfl, ?_⟩
  by_cases h3 : p < n
  · exact ite_yes h3 ⟨_, rfl, _, rfl, hn.wide, _, rfl, _, rfl, hp.wide, fun x => ⟨by show 1 ≤ 100; decide, q0 (decide_eq_false fun z => by (first | lia | omega))⟩⟩
  exact ite_no h3 (q1 (decide_eq_true ⟨by (first | lia | omega), by (first | lia | omega), by (first | lia | omega)⟩))
end
end Sy
namespace Sy
open PySem PySem.Spec L2 L3
open PyProof.Rows hiding St
seal L2.PSs L2.PS L2.PE L2.PT L2.PW L2.PA L2.PG L2.PGs L2.PI L3.PIf
theorem bd_len {os : List (Option Int)} (h : os.length ≤ 100) : Bd (os.length : Int) := ⟨by (first | lia | omega), by (first | lia | omega)⟩
section
variable {P : Program} {w : World} {K : PySem.W.Frag} {mg : Str → Option Value} {base : Heap}
theorem sc_madeE : FnScope ["prime", "word", "length"] ["prime", "word", "length"] (defScope (top 31)) := ⟨rfl, rfl, rfl, by decide +kernel, rfl, by decide +kernel, by decide +kernel⟩
theorem ok_madeE {c : Cls} (D : Def K mg "made" ["prime", "word", "length"] (top 31)) (hlen : mg "len" = none) (CP : HasE P w K mg base 2 "check_prime" ["prime"] (spCkP c.np)) (CS : HasE P w K mg base 2 "check_signs" ["prime", "signs"] (spCkS K c.bs))
    (CL : HasE P w K mg base 1 "check_length" ["prime", "size", "length"] (spCkL c.bl)) (LO : Has P w K mg base 5 "lengthened" ["prime", "word", "length"] (spLonger K)) : HasE P w K mg base 6 "made" ["prime", "word", "length"] (spMadeE K c) := by
  refine D.okE sc_madeE (fun vs H Q E h => by obtain ⟨p, a, os, n, pr, rfl, _⟩ := h; rfl) fun f cdv A outer s H vs Q E hr h => ?_
  obtain ⟨p, a, os, n, pr, rfl, hpr, ha, hl, hp, hos, hn, q⟩ := h
  have hzo : (os.map vo).length = os.length := List.length_map ..
  refine ⟨_, (pss_cons (ps_expr (pcallE CP hr rfl (pa_cons (pv 0) pa_nil)))
    (pss_cons (ps_expr (pcallE CS hr rfl (pa_cons (pv 0) (pa_cons (pv 1) pa_nil))))
    (pss_cons (ps_expr (pcallE CL hr rfl (pa_cons (pv 0) (pa_cons (pe_callB (call_len_seqK K rfl) rfl hlen PySem.boot_len (pa_cons (pv 1) pa_nil)) (pa_cons (pv 2) pa_nil)))))
    (pss_one (ps_ret (pcall LO hr rfl (pa_cons (pv 0) (pa_cons (pv 1) (pa_cons (pv 2) pa_nil))))))))), ?_⟩
  refine ⟨_, rfl, p, pr, rfl, hp, hpr, fun e => ?_, fun e => ?_⟩
  rotate_left
  · subst e
    exact q.bad chk_prime (Same.refl H)
  subst e
  refine ⟨_, rfl, _, rfl, p, a, os, rfl, ha, hp, hos, fun e1 => ?_, fun e1 => q.bad (chk_sign e1) (Same.refl H)⟩
  refine ⟨_, rfl, _, rfl, a, _, rfl, .inl ha, _, rfl, p, _, _, rfl, hp, by rw [hzo]; exact bd_len hl, hn, fun e2 => ?_, fun e2 => ?_⟩
  rotate_left
  · rw [hzo] at e2
    exact q.bad (chk_len e1 e2) (Same.refl H)
  rw [hzo] at e2
  have good := q.ok (chk_ok e1 e2)
  obtain ⟨l1, l2, l3⟩ := ln_yes e2
  obtain ⟨ns, rfl, hns⟩ := sg_ints e1
  obtain ⟨k, rfl⟩ : ∃ k : Nat, n = (k : Int) := ⟨n.toNat, by (first | lia | omega)⟩
  have ok := hpr.yes rfl
  have hpm := ok.2
  have hz : (ns.map some).length = ns.length := List.length_map ..
  have good2 := good ns rfl
  rw [Int.toNat_natCast] at good2
  have ha2 : SqL K H a (ns.map V.int) := by rw [← vo_some]; exact ha
  exact ⟨_, rfl, _, rfl, _, rfl, p, a, ns, k, rfl, ok.1.two, hpm, by (first | lia | omega), ha2, by (first | lia | omega), fun r H' g _ e => good2 r H' g e⟩
theorem sc_is_madeE : FnScope ["prime", "signs", "size"] ["prime", "signs", "size"] (defScope (top 32)) := ⟨rfl, rfl, rfl, by decide +kernel, rfl, by decide +kernel, by decide +kernel⟩
theorem ok_is_madeE {c : Cls} (D : Def K mg "is_made" ["prime", "signs", "size"] (top 32)) (hlen : mg "len" = none) (CP : HasE P w K mg base 2 "check_prime" ["prime"] (spCkP c.np)) (CS : HasE P w K mg base 2 "check_signs" ["prime", "signs"] (spCkS K c.bs))
    (CL : HasE P w K mg base 1 "check_length" ["prime", "size", "length"] (spCkL c.bl)) (LO : Has P w K mg base 5 "lengthened" ["prime", "word", "length"] (spLonger K)) : HasE P w K mg base 6 "is_made" ["prime", "signs", "size"] (spIsMadeE K c) := by
  refine D.okE sc_is_madeE (fun vs H Q E h => by obtain ⟨p, a, os, n, pr, rfl, _⟩ := h; rfl) fun f cdv A outer s H vs Q E hr h => ?_
  obtain ⟨p, a, os, n, pr, rfl, hpr, ha, hl, hp, hos, hn, q⟩ := h
  have hzo : (os.map vo).length = os.length := List.length_map ..
  refine ⟨_, (pss_cons (ps_expr (pcallE CP hr rfl (pa_cons (pv 0) pa_nil)))
    (pss_cons (ps_expr (pcallE CS hr rfl (pa_cons (pv 0) (pa_cons (pv 1) pa_nil))))
    (pss_cons (ps_expr (pcallE CL hr rfl (pa_cons (pv 0) (pa_cons (pv 2) (pa_cons (pe_callB (call_len_seqK K rfl) rfl hlen PySem.boot_len (pa_cons (pv 1) pa_nil)) pa_nil)))))
    (pss_one (ps_ret (pe_cmpR (op_eqL hr.units) (pcall LO hr rfl (pa_cons (pv 0) (pa_cons (pe_slice (sl_listK K rfl) (pv 1) po_none (po_some (pv 2))) (pa_cons (pe_callB (call_len_seqK K rfl) rfl hlen PySem.boot_len (pa_cons (pv 1) pa_nil)) pa_nil)))) (pv 1) (nomark _))))))), ?_⟩
  refine ⟨_, rfl, p, pr, rfl, hp, hpr, fun e => ?_, fun e => ?_⟩
  rotate_left
  · subst e
    exact q.bad chk_prime (Same.refl H)
  subst e
  refine ⟨_, rfl, _, rfl, p, a, os, rfl, ha, hp, hos, fun e1 => ?_, fun e1 => q.bad (chk_sign e1) (Same.refl H)⟩
  refine ⟨_, rfl, _, rfl, _, rfl, a, _, rfl, .inl ha, p, _, _, rfl, hp, hn, by rw [hzo]; exact bd_len hl, fun e2 => ?_, fun e2 => ?_⟩
  rotate_left
  · rw [hzo] at e2
    exact q.bad (chk_len e1 e2) (Same.refl H)
  rw [hzo] at e2
  have good := q.ok (chk_ok e1 e2)
  obtain ⟨l1, l2, l3⟩ := ln_yes e2
  obtain ⟨ns, rfl, hns⟩ := sg_ints e1
  obtain ⟨k, rfl⟩ : ∃ k : Nat, n = (k : Int) := ⟨n.toNat, by (first | lia | omega)⟩
  have ok := hpr.yes rfl
  have hpm := ok.2
  have hz : (ns.map some).length = ns.length := List.length_map ..
  have hz2 : (ns.map V.int).length = ns.length := List.length_map ..
  have ha2 : SqL K H a (ns.map V.int) := by rw [← vo_some]; exact ha
  refine ⟨_, rfl, _, rfl, _, rfl, _, rfl, a, _, rfl, ha2, fun r1 h1' => ?_⟩
  rw [cut_take (by rw [hz2]; (first | lia | omega)), ← List.map_take]
  have g1 : Same H (upd H r1 (.lst ((ns.take k).map V.int))) := same_new h1' _
  refine ⟨_, rfl, a, _, rfl, .inl (g1.seq ha2), p, r1, ns.take k, ns.length, by rw [hz2]; rfl, ok.1.two, hpm, by (first | lia | omega), SqL.of upd_same, by simp; (first | lia | omega), fun r2 H2 g2 n2 e2 => ?_⟩
  exact ⟨_, rfl, r2, a, _, _, rfl, rfl, SqL.of e2, (g1.trans g2).seq ha2, good _ H2 (g1.trans g2)⟩
theorem sc_filledE : FnScope ["prime", "signs", "size", "places", "curve"] ["prime", "signs", "size"] (defScope (top 34)) := ⟨rfl, rfl, rfl, by decide +kernel, rfl, by decide +kernel, by decide +kernel⟩
theorem ok_filledE {c : Cls} (D : Def K mg "filled" ["prime", "signs", "size"] (top 34)) (hlen : mg "len" = none) (CP : HasE P w K mg base 2 "check_prime" ["prime"] (spCkP c.np)) (CG : HasE P w K mg base 3 "check_signs_or_gaps" ["prime", "signs"] (spCkG K c.bs))
    (CL : HasE P w K mg base 1 "check_length" ["prime", "size", "length"] (spCkL c.bl)) (KP : Has P w K mg base 1 "known_places" ["signs"] (spKnown K)) (CT : Has P w K mg base 4 "curve_through" ["prime", "places", "signs"] (spCt K))
    (AL : Has P w K mg base 3 "signs_along" ["prime", "curve", "length"] (spAlong K)) : HasE P w K mg base 5 "filled" ["prime", "signs", "size"] (spFilledE K c) := by
  refine D.okE sc_filledE (fun vs H Q E h => by obtain ⟨p, a, os, n, pr, rfl, _⟩ := h; rfl) fun f cdv A outer s H vs Q E hr h => ?_
  obtain ⟨p, a, os, n, pr, rfl, hpr, ha, hl, hp0, hos, hn, q⟩ := h
  refine ⟨_, (pss_cons (ps_expr (pcallE CP hr rfl (pa_cons (pv 0) pa_nil)))
    (pss_cons (ps_expr (pcallE CG hr rfl (pa_cons (pv 0) (pa_cons (pv 1) pa_nil))))
    (pss_cons (ps_expr (pcallE CL hr rfl (pa_cons (pv 0) (pa_cons (pv 2) (pa_cons (pe_callB (call_len_seqK K rfl) rfl hlen PySem.boot_len (pa_cons (pv 1) pa_nil)) pa_nil)))))
    (pss_cons (ps_set (i := 3) sc_filledE.nd rfl (Or.inl rfl) (pe_slice (sl_listK K rfl) (pcall KP hr rfl (pa_cons (pv 1) pa_nil)) po_none (po_some (pv 2))))
    (pss_cons (ps_if (pt_cmpR op_lt (pe_callB (call_len_seqK K rfl) rfl hlen PySem.boot_len (pa_cons (pv 3) pa_nil)) (pv 2) (nomark _)) (pss_one (ps_ret pe_non)) pss_nil)
    (pss_cons (ps_set (i := 4) sc_filledE.nd rfl (Or.inl rfl) (pcall CT hr rfl (pa_cons (pv 0) (pa_cons (pv 3) (pa_cons (pe_comp (N' := ["place", "signs"]) (ix := [none, some 1]) rfl
        ⟨rfl, by decide +kernel, by decide +kernel, by with_unfolding_all rfl, by exact ⟨rfl, trivial⟩, by exact ⟨⟨_, rfl⟩, trivial⟩, by exact ⟨⟨rfl, rfl, rfl⟩, trivial⟩⟩
        (pi_listK K rfl (pv 3))
        fun C ex pn s H => ⟨pg_name (i := 0) (show (["place", "signs"] : List Str).Nodup by decide +kernel) rfl (Or.inl rfl), pif_nil, pe_ix (ix_listK K rfl) (pv 1) (pv 0) (fun _ _ => rfl)⟩) pa_nil)))))
    (pss_one (ps_ret (pcall AL hr rfl (pa_cons (pv 0) (pa_cons (pv 4) (pa_cons (pe_callB (call_len_seqK K rfl) rfl hlen PySem.boot_len (pa_cons (pv 1) pa_nil)) pa_nil)))))))))))), ?_⟩
  have hz : ∀ l : List Int, (l.map V.int).length = l.length := fun l => List.length_map ..
  have hzo : (os.map vo).length = os.length := List.length_map ..
  have hkn := knowns_len os
  have hkl : SM.knownN os ≤ os.length := by rw [← SM.knownP_len]; exact knownP_len_le os
  refine ⟨_, rfl, p, pr, rfl, hp0, hpr, fun e => ?_, fun e => ?_⟩
  rotate_left
  · subst e
    exact q.bad chk_prime (Same.refl H)
  subst e
  refine ⟨_, rfl, _, rfl, p, a, os, rfl, ha, by (first | lia | omega), hp0, hos, fun e1 H1 g1 => ?_, fun e1 H1 g1 => q.bad (chk_sign e1) g1⟩
  refine ⟨_, rfl, _, rfl, _, rfl, a, _, rfl, .inl (g1.seq ha), p, _, _, rfl, hp0, hn, by rw [hzo]; exact bd_len hl, fun e2 => ?_, fun e2 => ?_⟩
  rotate_left
  · rw [hzo] at e2
    exact q.bad (chk_len e1 e2) g1
  rw [hzo] at e2
  have good := q.ok (chk_ok e1 e2)
  obtain ⟨l1, l2, l3⟩ := ln_yes e2
  obtain ⟨k, rfl⟩ : ∃ k : Nat, n = (k : Int) := ⟨n.toNat, by (first | lia | omega)⟩
  have ok := hpr.yes rfl
  have hp := ok.pos
  have hp2 := ok.1.two
  have hpm := ok.2
  refine ⟨_, rfl, a, os, rfl, g1.seq ha, by (first | lia | omega), fun r2 H2 g2 _ e2' => ?_⟩
  refine ⟨_, rfl, _, rfl, r2, _, rfl, SqL.of e2', fun r3 h3 => ?_⟩
  have hcut : cutV ((SM.knowns os).map V.int) none (some (k : Int)) = ((SM.knowns os).take k).map V.int := by
    unfold cutV
    rw [HT.sIx_none, HT.sIx_nat, List.drop_zero, Nat.sub_zero, hz, List.map_take]
    by_cases h : k ≤ (SM.knowns os).length
    · rw [Nat.min_eq_left h]
    · rw [Nat.min_eq_right (by (first | lia | omega)), List.take_of_length_le (by rw [hz]; exact Nat.le_refl _), List.take_of_length_le (by rw [hz]; (first | lia | omega))]
  rw [hcut]
  have g3 := same_new h3 (.lst (((SM.knowns os).take k).map V.int))
  have e3 : (upd H2 r3 (.lst (((SM.knowns os).take k).map V.int))) r3 = some (.lst (((SM.knowns os).take k).map V.int)) := upd_same
  generalize upd H2 r3 (.lst (((SM.knowns os).take k).map V.int)) = H3 at g3 e3 ⊢
  have gA := g1.trans (g2.trans g3)
  refine ⟨_, rfl, r3, _, rfl, .inl (SqL.of e3), _, rfl, _, _, rfl, rfl, _, rfl, ?_⟩
  rw [hz]
  by_cases hlt : ((((SM.knowns os).take k).length : Nat) : Int) < (k : Int)
  · exact ite_yes hlt (good _ _ gA)
  refine ite_no hlt ?_
  refine ⟨_, rfl, _, rfl, _, rfl, r3, rfl, ⟨_, SqL.of e3⟩, ?_⟩
  refine comp_list (xs := ((SM.knowns os).take k).map V.int) (fun i ys H' => H' = H3 ∧ i ≤ ((SM.knowns os).take k).length ∧ ∃ ss : List Int, ys = ss.map V.int ∧ ss.length = i) ⟨rfl, Nat.zero_le _, [], rfl, rfl⟩ (fun i ys H' h => by rw [h.1]; exact SqL.of e3) ?_ ?_
  · rintro i v ys H' hv ⟨rfl, hle, ss, rfl, hsl⟩
    obtain ⟨v, rfl, hv'⟩ := get_int hv
    have hi := (List.getElem?_eq_some_iff.mp hv').1
    have hmem := List.mem_of_mem_take (List.mem_of_getElem? hv')
    unfold SM.knowns at hmem
    obtain ⟨j, hj, rfl⟩ := List.mem_map.mp hmem
    obtain ⟨jj, hjj, ej⟩ := List.mem_iff_getElem.mp hj
    obtain ⟨hk1, hk2⟩ := knownP_get (i := jj) (k := j) (by rw [List.getElem?_eq_getElem hjj, ej])
    have hss : ss.length ≤ 1000 := by rw [List.length_take] at hle; (first | lia | omega)
    exact ⟨small (by rw [hz]; exact hss), ⟨rfl, trivial⟩, ⟨_, rfl, _, rfl, a, _, _, _, rfl, rfl, gA.seq ha, os_at hk1 hk2, rfl, by (first | lia | omega), ss ++ [SM.sgn os j], by simp, by simp [hsl]⟩⟩
  · rintro ys H' ⟨rfl, hle, ss, rfl, hsl⟩
    have hss : ss.length ≤ 1000 := by rw [hz, List.length_take] at hsl; (first | lia | omega)
    refine ⟨small (by rw [hz]; exact hss), fun r4 h4 => ?_⟩
    have g4 := same_new h4 (.lst (ss.map V.int))
    refine ⟨p, r3, r4, (SM.knowns os).take k, ss, rfl, hp2, hpm, SqL.of (g4 _ _ e3), SqL.of upd_same, by rw [List.length_take]; (first | lia | omega), fun x hx => ?_, fun r5 H5 g5 n5 e5 => ?_⟩
    · have := knowns_mem x (List.mem_of_mem_take hx)
      exact ⟨by (first | lia | omega), by (first | lia | omega)⟩
    have gB := gA.trans (g4.trans g5)
    refine ⟨_, rfl, _, rfl, _, rfl, a, _, rfl, .inl (gB.seq ha), p, r5, os.length, _, by rw [hzo]; rfl, hp, hpm, by (first | lia | omega), SqL.of e5, fun r6 H6 g6 n6 e6 => ?_⟩
    exact good _ H6 (gB.trans g6)
theorem sc_mendedE : FnScope ["prime", "signs", "size"] ["prime", "signs", "size"] (defScope (top 45)) := ⟨rfl, rfl, rfl, by decide +kernel, rfl, by decide +kernel, by decide +kernel⟩
theorem ok_mendedE {c : Cls} (D : Def K mg "mended" ["prime", "signs", "size"] (top 45)) (hlen : mg "len" = none) (CP : HasE P w K mg base 2 "check_prime" ["prime"] (spCkP c.np)) (CG : HasE P w K mg base 3 "check_signs_or_gaps" ["prime", "signs"] (spCkG K c.bs))
    (CL : HasE P w K mg base 1 "check_length" ["prime", "size", "length"] (spCkL c.bl)) (NE : HasE P w K mg base 6 "nearest" ["prime", "signs", "size"] (spNearE K c.nm)) : HasE P w K mg base 7 "mended" ["prime", "signs", "size"] (spMdE K c) := by
  refine D.okE sc_mendedE (fun vs H Q E h => by obtain ⟨p, a, os, n, pr, rfl, _⟩ := h; rfl) fun f cdv A outer s H vs Q E hr h => ?_
  obtain ⟨p, a, os, n, pr, rfl, hpr, ha, hl, hp0, hos, hn, q⟩ := h
  have hzo : (os.map vo).length = os.length := List.length_map ..
  refine ⟨_, (pss_cons (ps_expr (pcallE CP hr rfl (pa_cons (pv 0) pa_nil)))
    (pss_cons (ps_expr (pcallE CG hr rfl (pa_cons (pv 0) (pa_cons (pv 1) pa_nil))))
    (pss_cons (ps_expr (pcallE CL hr rfl (pa_cons (pv 0) (pa_cons (pv 2) (pa_cons (pe_callB (call_len_seqK K rfl) rfl hlen PySem.boot_len (pa_cons (pv 1) pa_nil)) pa_nil)))))
    (pss_one (ps_ret (pcallE NE hr rfl (pa_cons (pv 0) (pa_cons (pv 1) (pa_cons (pv 2) pa_nil))))))))), ?_⟩
  refine ⟨_, rfl, p, pr, rfl, hp0, hpr, fun e => ?_, fun e => ?_⟩
  rotate_left
  · subst e
    exact q.bad (md_bad chk_prime) (Same.refl H)
  subst e
  refine ⟨_, rfl, _, rfl, p, a, os, rfl, ha, by (first | lia | omega), hp0, hos, fun e1 H1 g1 => ?_, fun e1 H1 g1 => q.bad (md_bad (chk_sign e1)) g1⟩
  refine ⟨_, rfl, _, rfl, _, rfl, a, _, rfl, .inl (g1.seq ha), p, _, _, rfl, hp0, hn, by rw [hzo]; exact bd_len hl, fun e2 => ?_, fun e2 => ?_⟩
  rotate_left
  · rw [hzo] at e2
    exact q.bad (md_bad (chk_len e1 e2)) g1
  rw [hzo] at e2
  have hck := chk_ok (g := true) (os := os) e1 e2
  obtain ⟨l1, l2, l3⟩ := ln_yes e2
  obtain ⟨k, rfl⟩ : ∃ k : Nat, n = (k : Int) := ⟨n.toNat, by (first | lia | omega)⟩
  refine ⟨_, rfl, _, rfl, _, rfl, p, a, k, os, rfl, hpr.yes rfl, g1.seq ha, sg_gaps e1, by (first | lia | omega), by (first | lia | omega), hl, l3, fun wd e t a1 a2 H' g' et ew _ => ?_, fun e H' g' => ?_⟩
  · exact q.ok (md_some hck (by rw [Int.toNat_natCast]; exact e)) wd t a1 a2 H' (g1.trans g') et ew
  · exact q.bad (md_none hck (by rw [Int.toNat_natCast]; exact e)) (g1.trans g')
theorem sc_readE : FnScope ["prime", "signs", "size"] ["prime", "signs", "size"] (defScope (top 46)) := ⟨rfl, rfl, rfl, by decide +kernel, rfl, by decide +kernel, by decide +kernel⟩
theorem ok_readE {c : Cls} (D : Def K mg "read" ["prime", "signs", "size"] (top 46)) (ME : HasE P w K mg base 7 "mended" ["prime", "signs", "size"] (spMdE K c)) : HasE P w K mg base 8 "read" ["prime", "signs", "size"] (spRdE K c) := by
  refine D.okE sc_readE (fun vs H Q E h => by obtain ⟨p, a, os, n, pr, rfl, _⟩ := h; rfl) fun f cdv A outer s H vs Q E hr h => ?_
  obtain ⟨p, a, os, n, pr, rfl, hpr, ha, hl, hp0, hos, hn, q⟩ := h
  refine ⟨_, pss_one (ps_ret (pe_slice (sl_listK K rfl) (pe_ix (ix_tupK K rfl) (pcallE ME hr rfl (pa_cons (pv 0) (pa_cons (pv 1) (pa_cons (pv 2) pa_nil)))) pe_int (fun _ _ => rfl)) po_none (po_some (pv 2)))), ?_⟩
  refine ⟨_, rfl, _, rfl, _, rfl, p, a, os, n, pr, rfl, hpr, ha, hl, hp0, hos, hn, ?_⟩
  cases ho : mdO pr p os n with
  | some k => exact fun H' g => q.bad ho g
  | none =>
    have good := q.ok ho
    intro xs t a1 a2 H' g' et e1
    exact ⟨t, _, _, _, rfl, rfl, SqT.of et, rfl, _, rfl, _, rfl, a1, _, rfl, SqL.of e1, fun r hr' => good _ _ (g'.trans (same_new hr' _))⟩
end
end Sy
namespace Sy
open PySem PySem.Spec L2 L3
open PyProof.Rows hiding St
seal L2.PSs L2.PS L2.PE L2.PT L2.PW L2.PA L2.PG L2.PGs L2.PI L3.PIf
theorem LV.at {H : Hp} {rs : List Addr} {ws : List (List V)} {i : Nat} {r : Addr} (h : LV H rs ws) (hr : rs[i]? = some r) : ∃ w, ws[i]? = some w ∧ H r = some (.lst w) := by
  have hi := (List.getElem?_eq_some_iff.mp hr).1
  have hl := h.len
  have hw : ws[i]? = some ws[i] := List.getElem?_eq_getElem (by (first | lia | omega))
  obtain ⟨r', h1, h2⟩ := h.get hw
  rw [hr] at h1
  cases h1
  exact ⟨_, hw, h2⟩
section
variable {P : Program} {w : World} {K : PySem.W.Frag} {mg : Str → Option Value} {base : Heap}
theorem sc_laidE : FnScope ["prime", "words", "length", "longer", "signs", "place"] ["prime", "words", "length"] (defScope (top 48)) := ⟨rfl, rfl, rfl, by decide +kernel, rfl, by decide +kernel, by decide +kernel⟩
set_option maxHeartbeats 1000000 in
theorem ok_laidE {c : Cls} (D : Def K mg "laid" ["prime", "words", "length"] (top 48)) (hlen : mg "len" = none) (hrng : mg "range" = none) (CP : HasE P w K mg base 2 "check_prime" ["prime"] (spCkP c.np)) (MD : HasE P w K mg base 6 "made" ["prime", "word", "length"] (spMadeE K c)) :
    HasE P w K mg base 7 "laid" ["prime", "words", "length"] (spLaE c) := by
  refine D.okE sc_laidE (fun vs H Q E h => by obtain ⟨p, a, L, rs, ws, pr, rfl, _⟩ := h; rfl) fun f cdv A outer s H vs Q E hr h => ?_
  obtain ⟨p, a, L, rs, ws, pr, rfl, hpr, ha, ll, hwl, hws, hp0, hL0, q⟩ := h
  refine ⟨_, (pss_cons (ps_expr (pcallE CP hr rfl (pa_cons (pv 0) pa_nil)))
    (pss_cons (ps_if (pt_cmpR op_eq (pe_callB (call_len_seqK K rfl) rfl hlen PySem.boot_len (pa_cons (pv 1) pa_nil)) pe_int (nomark _)) (pss_one (ps_ret (pe_lst pa_nil))) pss_nil)
    (pss_cons (ps_setCompE rfl (i := 3) (N' := ["word", "prime", "length"]) (ix := [none, some 0, some 2]) sc_laidE.nd rfl rfl rfl
      ⟨rfl, by decide +kernel, by decide +kernel, by with_unfolding_all rfl, by exact ⟨rfl, rfl, trivial⟩, by exact ⟨⟨_, rfl⟩, ⟨_, rfl⟩, trivial⟩, by exact ⟨⟨rfl, rfl, rfl⟩, ⟨rfl, rfl, rfl⟩, trivial⟩⟩
      (pi_listK K rfl (pv 1))
      fun C ex pn s H => ⟨pg_name (i := 0) (show (["word", "prime", "length"] : List Str).Nodup by decide +kernel) rfl (Or.inl rfl), pif_nil, pr_call (fun _ _ z => z) MD hr rfl (pa_cons (pv 1) (pa_cons (pv 0) (pa_cons (pv 2) pa_nil)))⟩)
    (pss_cons (ps_set (i := 4) sc_laidE.nd rfl (Or.inl rfl) (pe_lst pa_nil))
    (pss_cons (ps_for PassesOwn.leaving rfl (pi_range1 rfl hrng (pa_cons (pv 2) pa_nil)) (pg_name (i := 5) sc_laidE.nd rfl (Or.inr rfl))
      (pss_one (ps_expr (pe_bm PySem.F.plainAttrs_list PySem.F.slot_list_extend PySem.F.type_list_extend mt_extend (pv 4) (pa_cons (pe_comp (N' := ["word", "place"]) (ix := [none, some 5]) rfl
        ⟨rfl, by decide +kernel, by decide +kernel, by with_unfolding_all rfl, by exact ⟨rfl, trivial⟩, by exact ⟨⟨_, rfl⟩, trivial⟩, by exact ⟨⟨rfl, rfl, rfl⟩, trivial⟩⟩
        (pi_listK K rfl (pv 3))
        fun C ex pn s H => ⟨pg_name (i := 0) (show (["word", "place"] : List Str).Nodup by decide +kernel) rfl (Or.inl rfl), pif_nil, pe_ix (ix_listK K rfl) (pv 0) (pv 1) (fun _ _ => rfl)⟩) pa_nil)))))
    (pss_one (ps_ret (pv 4)))))))), ?_⟩
  have hzr : ∀ l : List Addr, (l.map V.ref).length = l.length := fun l => List.length_map ..
  have hz : ∀ l : List Int, (l.map V.int).length = l.length := fun l => List.length_map ..
  have hrs := ll.len
  rw [List.length_map] at hrs
  refine ⟨_, rfl, p, pr, rfl, hp0, hpr, fun e => ?_, fun e => ?_⟩
  rotate_left
  · subst e
    exact q.bad rfl (Same.refl H)
  subst e
  have ok := hpr.yes rfl
  have hpm := ok.2
  refine ⟨_, rfl, a, _, rfl, .inl (SqL.of ha), rfl, _, rfl, ?_⟩
  rw [hzr]
  by_cases hw0 : rs.length = 0
  · refine ite_yes (congrArg V.int (by (first | lia | omega))) ⟨by show 0 ≤ sizeLine; decide, fun r hr' => ?_⟩
    have : ws = [] := List.length_eq_zero_iff.mp (by (first | lia | omega))
    subst this
    exact q.ok rfl _ _ (same_new hr' _)
  · refine ite_no (vi_ne (b := 0) hw0) ?_
    refine ⟨_, rfl, a, rfl, ⟨_, SqL.of ha⟩, ?_⟩
    refine compE_list (xs := rs.map V.ref) (fun i ys H' => Same H H' ∧ i ≤ ws.length ∧ (∀ j, j < i → chk true false p (ws.getD j []) (ws.getD j []).length L = none) ∧ ∃ (ls : List Addr) (ms : List (List Int)), ys = ls.map V.ref ∧ LL H' ls ms ∧ ms.length = i ∧ ∀ x ∈ ms, x.length = L.toNat) ⟨Same.refl H, Nat.zero_le _, fun j hj => absurd hj (Nat.not_lt_zero _), [], [], rfl, trivial, rfl, fun x hx => by cases hx⟩ (fun i ys H' h => SqL.of (h.1 _ _ ha)) ?_ ?_
    · rintro i v ys H1 hv ⟨g, hle, hgo, ls, ms, rfl, ll1, hml, hmx⟩
      obtain ⟨r, rfl, hri⟩ := get_ref hv
      obtain ⟨wv, hwv, er⟩ := ll.at hri
      rw [List.getElem?_map] at hwv
      obtain ⟨wd, hwd, rfl⟩ := Option.map_eq_some_iff.mp hwv
      have hmem := List.mem_of_getElem? hwd
      obtain ⟨w1, w2⟩ := hws wd hmem
      have hgd : ws.getD i [] = wd := by rw [List.getD_eq_getElem?_getD, hwd]; rfl
      have hiw := (List.getElem?_eq_some_iff.mp hwd).1
      have hll : ls.length ≤ 20 := by rw [ll1.len, hml]; (first | lia | omega)
      refine ⟨small (by rw [hzr]; (first | lia | omega)), ⟨rfl, rfl, trivial⟩, ?_⟩
      refine ⟨_, rfl, _, rfl, _, rfl, p, r, wd, L, true, rfl, hpr, SqL.of (g _ _ er), w1, hp0, w2, hL0, ?_⟩
      cases ho : chk true false p wd wd.length L with
      | some k =>
        intro H2 g2
        refine q.bad (k := k) ?_ (g.trans g2)
        show fstO (ws.map fun w => chk true false p w w.length L) = some k
        refine fst_at (i := i) (by rw [List.getElem?_map, hwd]; exact congrArg some ho) fun j o hj e => ?_
        rw [List.getElem?_map] at e
        obtain ⟨wj, hwj, rfl⟩ := Option.map_eq_some_iff.mp e
        have := hgo j hj
        rwa [show ws.getD j [] = wj by rw [List.getD_eq_getElem?_getD, hwj]; rfl] at this
      | none =>
        intro ns hns r1 H2 g2 e2
        refine ⟨g.trans g2, hiw, fun j hj => ?_, ls ++ [r1], ms ++ [SM.lengthened p ns L.toNat], by simp, LL.snoc e2 (ll1.same g2), by simp [hml], fun x hx => ?_⟩
        · by_cases hji : j = i
          · subst hji; rw [hgd]; exact ho
          · exact hgo j (by (first | lia | omega))
        · rcases List.mem_append.mp hx with z | z
          · exact hmx x z
          · rw [List.mem_singleton.mp z]; exact SM.lengthened_len ..
    · rintro ys H1 ⟨g, hle, hgo, ls, ms, rfl, ll1, hml, hmx⟩
      rw [hzr, hrs] at hml hgo
      have hls := ll1.len
      have good := q.ok (fst_all fun o ho => by
        obtain ⟨wd, hwd, rfl⟩ := List.mem_map.mp ho
        obtain ⟨j, hj, rfl⟩ := List.getElem_of_mem hwd
        have := hgo j hj
        rwa [show ws.getD j [] = ws[j] by rw [List.getD_eq_getElem?_getD, List.getElem?_eq_getElem hj]; rfl] at this)
      have hL1 : 1 ≤ L ∧ L ≤ p := by
        have h0 := hgo 0 (by (first | lia | omega))
        obtain ⟨_, _, h1⟩ := chk_inv h0
        have := ln_yes h1
        (first | lia | omega)
      obtain ⟨l, rfl⟩ : ∃ l : Nat, L = (l : Int) := ⟨L.toNat, by (first | lia | omega)⟩
      rw [Int.toNat_natCast] at hmx
      refine ⟨small (by rw [hzr]; (first | lia | omega)), fun r3 h3 => ?_⟩
      have g3 := same_new h3 (.lst (ls.map V.ref))
      have e3 : (upd H1 r3 (.lst (ls.map V.ref))) r3 = some (.lst (ls.map V.ref)) := upd_same
      generalize upd H1 r3 (.lst (ls.map V.ref)) = H2 at g3 e3 ⊢
      refine ⟨by show 0 ≤ sizeLine; decide, fun r4 h4 => ?_⟩
      have g4 := same_new h4 (.lst ([] : List V))
      have e4 : (upd H2 r4 (.lst ([] : List V))) r4 = some (.lst (([] : List Int).map V.int)) := upd_same
      generalize upd H2 r4 (.lst ([] : List V)) = H3 at g4 e4 ⊢
      refine ⟨_, rfl, (l : Int), rfl, by (first | lia | omega), by (first | lia | omega), ?_⟩
      rw [Int.toNat_natCast]
      refine for_range (fun i σ H' => Same H2 H' ∧ ∃ (o5 : Option V) (xs : List Int), xs.length ≤ i * 20 ∧ H' r4 = some (.lst (xs.map V.int)) ∧ σ = [some (.int p), some (.ref a), some (.int (l : Int)), some (.ref r3), some (.ref r4), o5]) ⟨g4, none, [], Nat.zero_le _, e4, rfl⟩ ?_ ?_
      · rintro i σ H4 hi ⟨g5, o5, xs, hxl, e5, rfl⟩
        have ll4 := ll1.same (g3.trans g5)
        refine ⟨_, rfl, .inl ⟨rfl, _, SqL.of e5⟩, _, rfl, r3, rfl, ⟨_, SqL.of (g5 _ _ e3)⟩, ?_⟩
        refine comp_list (xs := ls.map V.ref) (fun j ys H' => H' = H4 ∧ ∃ zs : List Int, ys = zs.map V.int ∧ zs.length = j) ⟨rfl, [], rfl, rfl⟩ (fun j ys H' h => by rw [h.1]; exact SqL.of (g5 _ _ e3)) ?_ ?_
        · rintro j v ys H' hv ⟨rfl, zs, rfl, hzl⟩
          obtain ⟨r, rfl, hrj⟩ := get_ref hv
          obtain ⟨row, hrow, er⟩ := ll4.get hrj
          have hrl : row.length = l := hmx row (List.mem_of_getElem? hrow)
          have hj := (List.getElem?_eq_some_iff.mp hrj).1
          have hat : atI (row.map V.int) ((0 : Int) + (i : Int)) = some (.int (row.getD i 0)) := by
            rw [show (0 : Int) + (i : Int) = (i : Int) by (first | lia | omega)]
            exact get_at (by (first | lia | omega))
          exact ⟨small (by rw [hz]; (first | lia | omega)), ⟨rfl, trivial⟩, ⟨_, rfl, _, rfl, r, _, _, _, rfl, rfl, SqL.of er, hat, rfl, zs ++ [row.getD i 0], by simp, by simp [hzl]⟩⟩
        · rintro ys H' ⟨rfl, zs, rfl, hzl⟩
          rw [hzr] at hzl
          refine ⟨small (by rw [hz]; (first | lia | omega)), fun r6 h6 => ?_⟩
          have g6 := same_new h6 (.lst (zs.map V.int))
          have hsum : (xs ++ zs).length ≤ (i + 1) * 20 := by rw [List.length_append, Nat.add_mul]; (first | lia | omega)
          have hbig : (xs.map V.int).length + (zs.map V.int).length ≤ sizeLine := by
            rw [hz, hz]
            refine Nat.le_trans (show xs.length + zs.length ≤ 1001 * 20 from ?_) (by decide)
            rw [← List.length_append]
            exact Nat.le_trans hsum (Nat.mul_le_mul_right 20 (by (first | lia | omega)))
          refine ⟨r4, r6, _, _, rfl, rfl, g6 _ _ e5, upd_same, hbig, ?_⟩
          refine ⟨same_upd (g5.trans g6) h4, _, xs ++ zs, hsum, ?_, rfl⟩
          rw [upd_same, List.map_append]
      · rintro σ H4 ⟨g5, o5, xs, hxl, e5, rfl⟩
        exact ⟨_, rfl, good _ _ (g.trans (g3.trans g5))⟩
theorem sc_takenE : FnScope ["prime", "signs", "count", "size"] ["prime", "signs", "count", "size"] (defScope (top 51)) := ⟨rfl, rfl, rfl, by decide +kernel, rfl, by decide +kernel, by decide +kernel⟩
theorem ok_takenE {c : Cls} (D : Def K mg "taken_up" ["prime", "signs", "count", "size"] (top 51)) (hrng : mg "range" = none) (CP : HasE P w K mg base 2 "check_prime" ["prime"] (spCkP c.np)) (CC : HasE P w K mg base 1 "check_count" ["signs", "count"] (spCountE K c.bl))
    (ON : Has P w K mg base 1 "signs_of_one" ["signs", "count", "first"] (spOne K)) (RD : HasE P w K mg base 8 "read" ["prime", "signs", "size"] (spRdE K c)) : HasE P w K mg base 9 "taken_up" ["prime", "signs", "count", "size"] (spTkE K c) := by
  refine D.okE sc_takenE (fun vs H Q E h => by obtain ⟨p, a, m, n, os, pr, rfl, _⟩ := h; rfl) fun f cdv A outer s H vs Q E hr h => ?_
  obtain ⟨p, a, m, n, os, pr, rfl, hpr, ha, hl, hp0, hos, m1, m2, hn, q⟩ := h
  refine ⟨_, (pss_cons (ps_expr (pcallE CP hr rfl (pa_cons (pv 0) pa_nil)))
    (pss_cons (ps_expr (pcallE CC hr rfl (pa_cons (pv 1) (pa_cons (pv 2) pa_nil))))
    (pss_one (ps_ret (pe_compE rfl (N' := ["first", "prime", "signs", "count", "size"]) (ix := [none, some 0, some 1, some 2, some 3]) rfl
      ⟨rfl, by decide +kernel, by decide +kernel, by with_unfolding_all rfl, by exact ⟨rfl, rfl, rfl, rfl, trivial⟩, by exact ⟨⟨_, rfl⟩, ⟨_, rfl⟩, ⟨_, rfl⟩, ⟨_, rfl⟩, trivial⟩, by exact ⟨⟨rfl, rfl, rfl⟩, ⟨rfl, rfl, rfl⟩, ⟨rfl, rfl, rfl⟩, ⟨rfl, rfl, rfl⟩, trivial⟩⟩
      (pi_range1 rfl hrng (pa_cons (pv 2) pa_nil))
      fun C ex pn s H => ⟨pg_name (i := 0) (show (["first", "prime", "signs", "count", "size"] : List Str).Nodup by decide +kernel) rfl (Or.inl rfl), pif_nil,
        pr_call (fun _ _ z => z) RD hr rfl (pa_cons (pv 1) (pa_cons (pcall ON hr rfl (pa_cons (pv 2) (pa_cons (pv 3) (pa_cons (pv 0) pa_nil)))) (pa_cons (pv 4) pa_nil)))⟩))))), ?_⟩
  refine ⟨_, rfl, p, pr, rfl, hp0, hpr, fun e => ?_, fun e => ?_⟩
  rotate_left
  · subst e
    exact q.bad rfl (Same.refl H)
  subst e
  refine ⟨_, rfl, _, rfl, a, m, os, rfl, ha, by (first | lia | omega), by (first | lia | omega), by (first | lia | omega), fun good => ?_, fun bad H' g => ?_⟩
  rotate_left
  · refine q.bad (k := .length) ?_ g
    show (bif decide (m < 1 ∨ (os.length : Int) % m ≠ 0) then some Kd.length else _) = _
    rw [decide_eq_true bad]; rfl
  obtain ⟨k, rfl⟩ : ∃ k : Nat, m = (k : Int) := ⟨m.toNat, by (first | lia | omega)⟩
  have hmod : (os.length : Int) % (k : Int) = 0 := Classical.byContradiction fun z => good (.inr z)
  have hdiv : os.length = k * (os.length / k) := by
    have h1 : os.length % k = 0 := by
      have : ((os.length % k : Nat) : Int) = 0 := by rw [Int.natCast_emod]; exact hmod
      (first | lia | omega)
    have h2 := Nat.div_add_mod os.length k
    (first | lia | omega)
  have hval : tkO true p os (k : Int) n = fstO ((List.range k).map fun j => mdO true p (SM.col os k (os.length / k) j) n) := by
    show (bif decide ((k : Int) < 1 ∨ (os.length : Int) % (k : Int) ≠ 0) then some Kd.length else _) = _
    rw [decide_eq_false good, Int.toNat_natCast]; rfl
  rw [hval] at q
  generalize os.length / k = l at hdiv q
  have hlk : l ≤ 100 := by
    have : l ≤ k * l := Nat.le_mul_of_pos_left l (by (first | lia | omega))
    (first | lia | omega)
  refine ⟨_, rfl, (k : Int), rfl, by (first | lia | omega), by (first | lia | omega), ?_⟩
  rw [Int.toNat_natCast]
  refine compE_range (fun i ys H' => Same H H' ∧ ys.length = i ∧ ∀ j, j < i → mdO true p (SM.col os k l j) n = none) ⟨Same.refl H, rfl, fun j hj => absurd hj (Nat.not_lt_zero _)⟩ ?_ ?_
  · rintro i ys H1 hi ⟨g, hyl, hgo⟩
    refine ⟨small (by (first | lia | omega)), ⟨rfl, rfl, rfl, rfl, trivial⟩, ?_⟩
    have h0 : ((0 : Int) + (i : Int)) = (i : Int) := by (first | lia | omega)
    rw [h0]
    refine ⟨_, rfl, _, rfl, _, rfl, _, rfl, a, k, l, i, os, rfl, g.seq ha, by (first | lia | omega), by (first | lia | omega), hdiv, hi, fun r1 H2 g2 n2 e2 => ?_⟩
    have hcl := SM.col_len os k l i
    refine ⟨_, rfl, p, r1, SM.col os k l i, n, true, rfl, hpr, SqL.of e2, by (first | lia | omega), hp0, fun s hs => ?_, hn, ?_⟩
    · refine hos s ?_
      unfold SM.col at hs
      obtain ⟨j, _, e⟩ := List.mem_map.mp hs
      rw [List.getD_eq_getElem?_getD] at e
      cases e2 : os[j * k + i]? with
      | none => rw [e2] at e; cases e
      | some o =>
        rw [e2] at e
        have e' : o = some s := e
        rw [← e']
        exact List.mem_of_getElem? e2
    cases ho : mdO true p (SM.col os k l i) n with
    | some kd =>
      intro H3 g3
      refine q.bad (k := kd) ?_ (g.trans (g2.trans g3))
      refine fst_at (i := i) (by rw [List.getElem?_map, List.getElem?_range hi]; exact congrArg some ho) fun j o hj e => ?_
      rw [List.getElem?_map, List.getElem?_range (by (first | lia | omega))] at e
      rw [← Option.some.inj e]
      exact hgo j hj
    | none =>
      intro v H3 g3
      refine ⟨g.trans (g2.trans g3), by simp [hyl], fun j hj => ?_⟩
      by_cases hji : j = i
      · subst hji; exact ho
      · exact hgo j (by (first | lia | omega))
  · rintro ys H1 ⟨g, hyl, hgo⟩
    refine ⟨small (by (first | lia | omega)), fun r hr' => ?_⟩
    refine q.ok (fst_all fun o ho => ?_) _ _ (g.trans (same_new hr' _))
    obtain ⟨j, hj, rfl⟩ := List.mem_map.mp ho
    exact hgo j (List.mem_range.mp hj)
end
end Sy
namespace L3
open PySem PySem.Spec L2
open PyProof.Rows hiding St
theorem op_inK {X : Cx} (K : PySem.W.Frag) (hK : X.K = K) : OpR X (compareOp .In) (rIn K false) := by
  subst hK
  exact op_in_seq
end L3
namespace Sy
open PySem PySem.Spec L2 L3
open PyProof.Rows hiding St
seal L2.PSs L2.PS L2.PE L2.PT L2.PW L2.PA L2.PG L2.PGs L2.PI L3.PIf
def beside (p : Int) : List (Option Int) → List (Option Int)
  | [] => []
  | o :: r => o :: some p :: beside p r
theorem beside_len (p : Int) : ∀ os : List (Option Int), (beside p os).length = 2 * os.length
  | [] => rfl
  | o :: r => by
    show (beside p r).length + 1 + 1 = 2 * (r.length + 1)
    rw [beside_len p r]; (first | lia | omega)
theorem beside_snoc (p : Int) (o : Option Int) : ∀ os : List (Option Int), beside p (os ++ [o]) = beside p os ++ [o, some p]
  | [] => rfl
  | a :: r => by
    show a :: some p :: beside p (r ++ [o]) = a :: some p :: (beside p r ++ [o, some p])
    rw [beside_snoc p o r]
theorem beside_mem {p : Int} {x : Option Int} : ∀ {os : List (Option Int)}, x ∈ beside p os → x ∈ os ∨ x = some p
  | [], h => by cases h
  | o :: r, h => by
    rcases List.mem_cons.mp h with h | h
    · exact .inl (h ▸ List.mem_cons_self ..)
    · rcases List.mem_cons.mp h with h | h
      · exact .inr h
      · exact (beside_mem h).imp (List.mem_cons_of_mem _) id
theorem beside_col0 (p : Int) : ∀ (os : List (Option Int)), SM.col (beside p os) 2 os.length 0 = os
  | [] => rfl
  | o :: r => by
    have ih := beside_col0 p r
    unfold SM.col at ih ⊢
    rw [List.length_cons, List.range_succ_eq_map, List.map_cons, List.map_map]
    refine congrArg (o :: ·) ?_
    refine Eq.trans (List.map_congr_left fun i _ => ?_) ih
    show (o :: some p :: beside p r).getD ((i + 1) * 2 + 0) none = _
    rw [show (i + 1) * 2 + 0 = (i * 2 + 0) + 1 + 1 by (first | lia | omega)]
    rfl
theorem beside_col1 (p : Int) : ∀ (os : List (Option Int)), SM.col (beside p os) 2 os.length 1 = List.replicate os.length (some p)
  | [] => rfl
  | o :: r => by
    have ih := beside_col1 p r
    unfold SM.col at ih ⊢
    rw [List.length_cons, List.range_succ_eq_map, List.map_cons, List.map_map, List.replicate_succ]
    refine congrArg (some p :: ·) ?_
    refine Eq.trans (List.map_congr_left fun i _ => ?_) ih
    show (o :: some p :: beside p r).getD ((i + 1) * 2 + 1) none = _
    rw [show (i + 1) * 2 + 1 = (i * 2 + 1) + 1 + 1 by (first | lia | omega)]
    rfl
def wd : Option Kd → Str
  | none => "done"
  | some .prime => "prime"
  | some .sign => "sign"
  | some .length => "length"
  | some .mended => "mended"
/-- with a bad word beside -/
def twoO : Option Kd → Option Kd
  | none => some .sign
  | some k => some k
/-- what each of the eleven calls does -/
def saidO (w : Nat) (pr : Bool) (p : Int) (os : List (Option Int)) (n L : Int) : Option Kd := match w with
  | 0 => chk pr false p os os.length L
  | 1 => chk pr false p os n os.length
  | 2 => chk pr true p os n os.length
  | 3 => mdO pr p os n
  | 4 => mdO pr p os n
  | 5 => laO pr p [os, [some 1]] L
  | 6 => tkO pr p os 1 n
  | 7 => laO pr p [] L
  | 8 => tkO pr p os (os.length + 1) n
  | 10 => laO pr p [os, [some p]] L
  | _ => tkO pr p (beside p os) 2 n
theorem said_prime (w : Nat) (p : Int) (os : List (Option Int)) (n L : Int) : saidO w false p os n L = some .prime := by
  unfold saidO
  split <;> first | rfl | exact md_bad rfl
/-- the word that is due -/
def Fits (w : Nat) (o : Option Kd) (u : Str) : Prop := u = wd o ∨ (u = Str.ofString "free" ∧ ((w ≠ 9 ∧ (o = none ∨ o = some .mended)) ∨ (w = 9 ∧ (o = some .sign ∨ o = some .mended))))
section
variable {p n L : Int} {os : List (Option Int)}
theorem tk1 : tkO true p os 1 n = mdO true p os n := by
  have hc : SM.col os 1 os.length 0 = os := by
    refine List.ext_getElem? fun i => ?_
    unfold SM.col
    rw [List.getElem?_map]
    by_cases h : i < os.length
    · rw [List.getElem?_range h, List.getElem?_eq_getElem h]
      show some (os.getD (i * 1 + 0) none) = _
      rw [Nat.mul_one, Nat.add_zero, List.getD_eq_getElem?_getD, List.getElem?_eq_getElem h]; rfl
    · rw [List.getElem?_eq_none (by simpa using h), List.getElem?_eq_none (by (first | lia | omega))]; rfl
  show (bif decide ((1 : Int) < 1 ∨ (os.length : Int) % 1 ≠ 0) then some Kd.length else fstO ((List.range 1).map fun j => mdO true p (SM.col os 1 (os.length / 1) j) n)) = _
  rw [decide_eq_false (by (first | lia | omega))]
  show fstO [mdO true p (SM.col os 1 (os.length / 1) 0) n] = _
  rw [Nat.div_one, hc]
  cases mdO true p os n <;> rfl
theorem tk8 (hn : True) : tkO true p os (os.length + 1) n = some .length := by
  by_cases h : os = []
  · subst h
    show tkO true p [] 1 n = _
    rw [tk1]
    refine md_bad (chk_len rfl (decide_eq_false fun z => ?_))
    have : (([] : List (Option Int)).length : Int) = 0 := rfl
    (first | lia | omega)
  · have hl : 0 < os.length := List.length_pos_iff.mpr h
    show (bif decide ((os.length : Int) + 1 < 1 ∨ (os.length : Int) % ((os.length : Int) + 1) ≠ 0) then some Kd.length else _) = _
    rw [decide_eq_true (.inr (by rw [Int.emod_eq_of_lt (by (first | lia | omega)) (by (first | lia | omega))]; (first | lia | omega)))]; rfl
theorem tk9 : tkO true p (beside p os) 2 n = twoO (mdO true p os n) := by
  have hl := beside_len p os
  show (bif decide ((2 : Int) < 1 ∨ ((beside p os).length : Int) % 2 ≠ 0) then some Kd.length else fstO ((List.range 2).map fun j => mdO true p (SM.col (beside p os) 2 ((beside p os).length / 2) j) n)) = _
  rw [decide_eq_false (by (first | lia | omega)), show (beside p os).length / 2 = os.length by (first | lia | omega)]
  show fstO [mdO true p (SM.col (beside p os) 2 os.length 0) n, mdO true p (SM.col (beside p os) 2 os.length 1) n] = _
  rw [beside_col0, beside_col1]
  cases h : mdO true p os n with
  | some k => rfl
  | none =>
    have hc : chk true true p os n os.length = none := by
      cases e : chk true true p os n os.length with
      | none => rfl
      | some k => rw [md_bad e] at h; cases h
    obtain ⟨_, _, h3⟩ := chk_inv hc
    have h4 := ln_yes h3
    have hs : sgB true p (List.replicate os.length (some p)) = false := by
      cases e : os.length with
      | zero => (first | lia | omega)
      | succ k =>
        show (decide (0 ≤ p ∧ p < p) && _) = false
        rw [decide_eq_false (by (first | lia | omega))]; rfl
    show fstO [none, _] = _
    rw [md_bad (chk_sign hs)]; rfl
theorem la5 (hp : 2 ≤ p) : laO true p [os, [some 1]] L = chk true false p os os.length L := by
  show fstO [chk true false p os os.length L, chk true false p [some 1] 1 L] = _
  cases h : chk true false p os os.length L with
  | some k => rfl
  | none =>
    obtain ⟨_, _, h3⟩ := chk_inv h
    have h4 := ln_yes h3
    have hs : sgB false p [some 1] = true := by
      show (decide ((0 : Int) ≤ 1 ∧ 1 < p) && true) = true
      rw [decide_eq_true (by (first | lia | omega))]; rfl
    show fstO [none, _] = _
    rw [chk_ok hs (decide_eq_true (by (first | lia | omega)))]; rfl
theorem la10 : laO true p [os, [some p]] L = twoO (chk true false p os os.length L) := by
  show fstO [chk true false p os os.length L, chk true false p [some p] 1 L] = _
  have hs : sgB false p [some p] = false := by
    show (decide ((0 : Int) ≤ p ∧ p < p) && true) = false
    rw [decide_eq_false (by (first | lia | omega))]; rfl
  rw [chk_sign hs]
  cases chk true false p os os.length L <;> rfl
end
section
variable {p n L : Int} {os : List (Option Int)} {w : Nat}
def BadN (p : Int) (os : List (Option Int)) : Prop := ∃ s, some s ∈ os ∧ ¬ (0 ≤ s ∧ s < p)
theorem sgB_iff (g : Bool) : sgB g p os = true ↔ ¬ BadN p os ∧ (g = false → none ∉ os) := by
  constructor
  · intro h
    have h' := List.all_eq_true.mp h
    refine ⟨fun ⟨s, hs, hb⟩ => hb (of_decide_eq_true (h' _ hs)), fun e hn => ?_⟩
    have := h' _ hn
    rw [e] at this
    cases this
  · rintro ⟨h1, h2⟩
    refine List.all_eq_true.mpr fun o ho => ?_
    cases o with
    | none =>
      cases g with
      | true => rfl
      | false => exact absurd ho (h2 rfl)
    | some s => exact decide_eq_true (Classical.byContradiction fun z => h1 ⟨s, ho, z⟩)
/-- the kinds of calls -/
theorem said_made (hp : 2 ≤ p) (h : w = 0 ∨ w = 5) : saidO w true p os n L = chk true false p os os.length L := by
  rcases h with rfl | rfl
  · rfl
  · exact la5 hp
theorem said_mend (h : w = 3 ∨ w = 4 ∨ w = 6) : saidO w true p os n L = mdO true p os n := by
  rcases h with rfl | rfl | rfl
  · rfl
  · rfl
  · exact tk1
def A1 (w : Nat) (p : Int) (os : List (Option Int)) : Prop := w < 7 ∧ (BadN p os ∨ (none ∈ os ∧ (w = 0 ∨ w = 1 ∨ w = 5)))
def A2 (w : Nat) (p : Int) (os : List (Option Int)) (L : Int) : Prop := (w = 0 ∨ w = 5) ∧ (os = [] ∨ L < os.length ∨ p < L)
def A3 (w : Nat) (p : Int) (os : List (Option Int)) (n : Int) : Prop := (w = 1 ∨ w = 2 ∨ w = 3 ∨ w = 4 ∨ w = 6) ∧ (n < 1 ∨ (os.length : Int) < n ∨ p < os.length)
def A4 (w : Nat) (os : List (Option Int)) (n : Int) : Prop := (w = 3 ∨ w = 4 ∨ w = 6) ∧ (SM.knownN os : Int) < n
def A5 (w : Nat) (os : List (Option Int)) (n : Int) : Prop := (w = 3 ∨ w = 4 ∨ w = 6) ∧ n < (SM.knownN os : Int)
/-- whether gaps are signs too -/
def gapOk (w : Nat) : Bool := !(decide (w = 0 ∨ w = 1 ∨ w = 5))
theorem sg_of (h7 : w < 7) (h : A1 w p os) : sgB (gapOk w) p os = false := by
  cases e : sgB (gapOk w) p os with
  | false => rfl
  | true =>
    obtain ⟨h1, h2⟩ := (sgB_iff _).mp e
    rcases h.2 with z | ⟨z, y⟩
    · exact absurd z h1
    · exact absurd z (h2 (by unfold gapOk; rw [decide_eq_true y]; rfl))
theorem sg_not (h7 : w < 7) (h : ¬ A1 w p os) : sgB (gapOk w) p os = true := by
  refine (sgB_iff _).mpr ⟨fun z => h ⟨h7, .inl z⟩, fun e hn => h ⟨h7, .inr ⟨hn, ?_⟩⟩⟩
  unfold gapOk at e
  exact Classical.byContradiction fun z => by rw [decide_eq_false z] at e; cases e
theorem six (h7 : w < 7) : (w = 0 ∨ w = 5) ∨ w = 1 ∨ w = 2 ∨ (w = 3 ∨ w = 4 ∨ w = 6) := by (first | lia | omega)
theorem due_sign (hp : 2 ≤ p) (h : A1 w p os) : saidO w true p os n L = some .sign := by
  have hs := sg_of h.1 h
  rcases six h.1 with e | e | e | e
  · rw [said_made hp e]
    exact chk_sign (by rwa [show gapOk w = false by rcases e with rfl | rfl <;> rfl] at hs)
  · subst e; exact chk_sign hs
  · subst e; exact chk_sign hs
  · rw [said_mend e]
    exact md_bad (chk_sign (by rwa [show gapOk w = true by rcases e with rfl | rfl | rfl <;> rfl] at hs))
theorem due_len1 (hp : 2 ≤ p) (h1 : ¬ A1 w p os) (h : A2 w p os L) : saidO w true p os n L = some .length := by
  obtain ⟨e, h⟩ := h
  have h7 : w < 7 := by (first | lia | omega)
  have hs := sg_not h7 h1
  rw [said_made hp e]
  refine chk_len (by rwa [show gapOk w = false by rcases e with rfl | rfl <;> rfl] at hs) (decide_eq_false fun z => ?_)
  rcases h with h | h | h
  · subst h
    have : (([] : List (Option Int)).length : Int) = 0 := rfl
    (first | lia | omega)
  · (first | lia | omega)
  · (first | lia | omega)
theorem due_len2 (h1 : ¬ A1 w p os) (h : A3 w p os n) : saidO w true p os n L = some .length := by
  obtain ⟨e, h⟩ := h
  have h7 : w < 7 := by (first | lia | omega)
  have hs := sg_not h7 h1
  have hl : lnB p n os.length = false := decide_eq_false fun z => by (first | lia | omega)
  rcases e with e | e | e
  · subst e; exact chk_len hs hl
  · subst e; exact chk_len hs hl
  · rw [said_mend e]
    exact md_bad (chk_len (by rwa [show gapOk w = true by rcases e with rfl | rfl | rfl <;> rfl] at hs) hl)
theorem mend_ok (e : w = 3 ∨ w = 4 ∨ w = 6) (h1 : ¬ A1 w p os) (h3 : ¬ A3 w p os n) : sgB true p os = true ∧ lnB p n os.length = true := by
  have hs := sg_not (by (first | lia | omega)) h1
  refine ⟨by rwa [show gapOk w = true by rcases e with rfl | rfl | rfl <;> rfl] at hs, decide_eq_true ?_⟩
  have : ¬ (n < 1 ∨ (os.length : Int) < n ∨ p < os.length) := fun z => h3 ⟨.inr (.inr e), z⟩
  (first | lia | omega)
theorem due_mend (h1 : ¬ A1 w p os) (h3 : ¬ A3 w p os n) (h : A4 w os n) : saidO w true p os n L = some .mended := by
  obtain ⟨e, h⟩ := h
  obtain ⟨z1, z2⟩ := mend_ok e h1 h3
  rw [said_mend e]
  refine md_none (chk_ok z1 z2) ?_
  unfold SM.nearest
  exact if_pos (by (first | lia | omega))
theorem due_free (h1 : ¬ A1 w p os) (h3 : ¬ A3 w p os n) (h : A5 w os n) : saidO w true p os n L = none ∨ saidO w true p os n L = some .mended := by
  obtain ⟨e, h⟩ := h
  obtain ⟨z1, z2⟩ := mend_ok e h1 h3
  rw [said_mend e]
  cases hn : SM.nearest p os n.toNat with
  | none => exact .inr (md_none (chk_ok z1 z2) hn)
  | some wd => exact .inl (md_some (chk_ok z1 z2) hn)
theorem due_done (ok : Ok p) (h7 : w ≤ 7) (h1 : ¬ A1 w p os) (h2 : ¬ A2 w p os L) (h3 : ¬ A3 w p os n) (h4 : ¬ A4 w os n) (h5 : ¬ A5 w os n) : saidO w true p os n L = none := by
  by_cases e7 : w = 7
  · subst e7; rfl
  have h7' : w < 7 := by (first | lia | omega)
  have hs := sg_not h7' h1
  rcases six h7' with e | e | e | e
  · rw [said_made ok.1.two e]
    refine chk_ok (by rwa [show gapOk w = false by rcases e with rfl | rfl <;> rfl] at hs) (decide_eq_true ?_)
    have h0 : ¬ (os = [] ∨ L < os.length ∨ p < L) := fun z => h2 ⟨e, z⟩
    have hne : 0 < os.length := List.length_pos_iff.mpr fun z => h0 (.inl z)
    have : ¬ (L < os.length ∨ p < L) := fun z => h0 (.inr z)
    (first | lia | omega)
  · subst e
    refine chk_ok hs (decide_eq_true ?_)
    have : ¬ (n < 1 ∨ (os.length : Int) < n ∨ p < os.length) := fun z => h3 ⟨.inl rfl, z⟩
    (first | lia | omega)
  · subst e
    refine chk_ok hs (decide_eq_true ?_)
    have : ¬ (n < 1 ∨ (os.length : Int) < n ∨ p < os.length) := fun z => h3 ⟨.inr (.inl rfl), z⟩
    (first | lia | omega)
  · obtain ⟨z1, z2⟩ := mend_ok e h1 h3
    have hl := ln_yes z2
    have hk : SM.knownN os = n.toNat := by
      have a4 : ¬ (SM.knownN os : Int) < n := fun z => h4 ⟨e, z⟩
      have a5 : ¬ n < (SM.knownN os : Int) := fun z => h5 ⟨e, z⟩
      (first | lia | omega)
    rw [said_mend e]
    obtain ⟨w', hw⟩ := SM.near_exact ok.1 (by (first | lia | omega)) hk hl.2.2 (sg_gaps z1)
    exact md_some (chk_ok z1 z2) hw
/-- the second word's due -/
theorem fits_two {o o2 : Option Kd} {u : Str} {v : Nat} (hw : w = 9 ∨ w = 10) (hv : v = if w = 9 then 6 else 5) (h : Fits v o u) (h2 : o2 = twoO o) (hf : w = 10 → u ≠ Str.ofString "free") :
    Fits w o2 (if u = Str.ofString "done" then Str.ofString "sign" else u) := by
  subst h2
  by_cases hu : u = Str.ofString "done"
  · rw [if_pos hu]
    rcases h with h | ⟨h, _⟩
    · rw [hu] at h
      cases o with
      | none => exact .inl rfl
      | some k => cases k <;> exact absurd h (by decide +kernel)
    · rw [hu] at h; exact absurd h (by decide +kernel)
  · rw [if_neg hu]
    rcases h with h | ⟨h, h'⟩
    · cases o with
      | none => exact absurd h hu
      | some k => exact .inl h
    · rcases hw with rfl | rfl
      · refine .inr ⟨h, .inr ⟨rfl, ?_⟩⟩
        rcases h' with ⟨_, rfl | rfl⟩ | ⟨z, _⟩
        · exact .inl rfl
        · exact .inr rfl
        · rw [hv] at z; exact absurd z (by decide)
      · exact absurd h (hf rfl)
end
end Sy
namespace Sy
open PySem PySem.Spec L2 L3
open PyProof.Rows hiding St
seal L2.PSs L2.PS L2.PE L2.PT L2.PW L2.PA L2.PG L2.PGs L2.PI L3.PIf
inductive spBeside (K : PySem.W.Frag) : List V → Hp → VK → XK → Prop
  | mk {vs : List V} {H : Hp} {Q : VK} {E_ : XK} (p : Int) (a : Addr) (os : List (Option Int)) (z_0 : vs = [.int p, .ref a]) (z_1 : OL K H a os) (z_2 : os.length ≤ 49) (z_3 : ∀ (r : Addr) (H' : Hp), Same H H' → H' r = some (.lst ((beside p os).map vo)) → Q (.ref r) H') : spBeside K vs H Q E_
inductive spDue0 (K : PySem.W.Frag) : List V → Hp → VK → XK → Prop
  | mk {vs : List V} {H : Hp} {Q : VK} {E_ : XK} (w : Nat) (p : Int) (a : Addr) (os : List (Option Int)) (n L : Int) (pr : Bool) (z_0 : vs = [.int (w : Int), .int p, .ref a, .int n, .int L]) (z_1 : w ≤ 8) (z_2 : PrB p pr) (z_3 : OL K H a os) (z_4 : os.length ≤ 49) (z_5 : ∀ (u : Str) (H' : Hp), Same H H' → (pr = true → Fits w (saidO w pr p os n L) u) → (u = Str.ofString "free" → w = 3 ∨ w = 4 ∨ w = 6) → Q (.str u) H') : spDue0 K vs H Q E_
inductive spDue (K : PySem.W.Frag) : List V → Hp → VK → XK → Prop
  | mk {vs : List V} {H : Hp} {Q : VK} {E_ : XK} (w : Nat) (p : Int) (a : Addr) (os : List (Option Int)) (n L : Int) (pr : Bool) (z_0 : vs = [.int (w : Int), .int p, .ref a, .int n, .int L]) (z_1 : w ≤ 10) (z_2 : PrB p pr) (z_3 : OL K H a os) (z_4 : os.length ≤ 49) (z_5 : ∀ (u : Str) (H' : Hp), Same H H' → (pr = true → Fits w (saidO w pr p os n L) u) → Q (.str u) H') : spDue K vs H Q E_
theorem flat_vo (os : List (Option Int)) : (os.map vo).all flatV = true := by
  rw [List.all_map, List.all_eq_true]
  intro o _
  cases o <;> rfl
theorem in_non (os : List (Option Int)) : inV .non (os.map vo) = true ↔ none ∈ os := by
  unfold inV
  rw [List.any_map, List.any_eq_true]
  constructor
  · rintro ⟨o, ho, e⟩
    cases o with
    | none => exact ho
    | some s => cases e
  · exact fun h => ⟨none, h, rfl⟩
theorem in_num (w : Int) (ks : List Int) : inV (.int w) (ks.map V.int) = true ↔ w ∈ ks := by
  unfold inV
  rw [List.any_map, List.any_eq_true]
  constructor
  · rintro ⟨k, hk, e⟩
    have : k = w := by simpa [eqV] using e
    exact this ▸ hk
  · exact fun h => ⟨w, h, by simp [eqV]⟩
/-- signs and gaps as data -/
theorem dp_opts {K : PySem.W.Frag} {H : Hp} (os : List (Option Int)) (hl : os.length ≤ 49) : ∃ ds, DpAll K H (os.map vo) ds ∧ ds.length = os.length ∧ SeqAt.shaped (.list ds) = true := by
  obtain ⟨ds, h⟩ := tw_opts (H := H) os 10
  refine ⟨ds, h.dp (Same.refl H), ?_, h.shaped (by decide)⟩
  have := h.len
  rw [this.2.1, List.length_map]
theorem str_neD {a b : Str} (h : a ≠ b) : decide (V.str a = V.str b) = false := decide_eq_false fun e => h (by injection e)
section
variable {P : Program} {w : World} {K : PySem.W.Frag} {mg : Str → Option Value} {base : Heap}
theorem sc_beside : FnScope ["_law_prime", "_law_signs", "_law_both", "_law_sign"] ["_law_prime", "_law_signs"] (defScope (top 55)) := ⟨rfl, rfl, rfl, by decide +kernel, rfl, by decide +kernel, by decide +kernel⟩
theorem ok_beside (D : Def K mg "_law_beside_bad" ["_law_prime", "_law_signs"] (top 55)) : Has P w K mg base 1 "_law_beside_bad" ["_law_prime", "_law_signs"] (spBeside K) := by
  refine D.ok sc_beside (fun vs H Q E h => by obtain ⟨p, a, os, rfl, _⟩ := h; rfl) fun f cdv A outer s H vs Q E hr h => ?_
  obtain ⟨p, a, os, rfl, ha, hl, q⟩ := h
  refine ⟨_, (pss_cons (ps_set (i := 2) sc_beside.nd rfl (Or.inl rfl) (pe_lst pa_nil))
    (pss_cons (ps_for PassesOwn.never rfl (pi_listK K rfl (pv 1)) (pg_name (i := 3) sc_beside.nd rfl (Or.inl rfl))
      (pss_one (ps_set (i := 2) sc_beside.nd rfl (Or.inl rfl) (pe_op op_cat (pv 2) (pe_lst (pa_cons (pv 3) (pa_cons (pv 0) pa_nil)))))))
    (pss_one (ps_ret (pv 2))))), ?_⟩
  refine ⟨by show 0 ≤ sizeLine; decide, fun r2 h2 => ?_⟩
  have g2 := same_new h2 (.lst ([] : List V))
  have e2 : (upd H r2 (.lst ([] : List V))) r2 = some (.lst ((beside p []).map vo)) := upd_same
  generalize upd H r2 (.lst ([] : List V)) = H2 at g2 e2 ⊢
  refine ⟨_, rfl, a, rfl, ⟨_, g2.seq ha⟩, ?_⟩
  refine for_list (xs := os.map vo) (fun i σ H' => Same H H' ∧ i ≤ os.length ∧ ∃ (r : Addr) (o3 : Option V), H' r = some (.lst ((beside p (os.take i)).map vo)) ∧ σ = [some (.int p), some (.ref a), some (.ref r), o3]) ⟨g2, Nat.zero_le _, r2, none, e2, rfl⟩ (fun i σ H' _ h => h.1.seq ha) ?_ ?_
  · rintro i v σ H3 hv ⟨g, hle, r, o3, er, rfl⟩
    obtain ⟨o, rfl, ho⟩ := get_vo hv
    have hi := (List.getElem?_eq_some_iff.mp ho).1
    have hbl : ((beside p (os.take i)).map vo).length ≤ 98 := by rw [List.length_map, beside_len, List.length_take]; (first | lia | omega)
    refine ⟨_, rfl, _, rfl, _, rfl, by show 2 ≤ sizeLine; decide, fun r3 h3 => ?_⟩
    refine ⟨r, r3, _, _, rfl, rfl, (same_new h3 _) _ _ er, upd_same, Nat.le_trans (show _ ≤ 100 by show _ + 2 ≤ 100; (first | lia | omega)) (by decide), fun r4 h4 => ?_⟩
    refine ⟨g.trans ((same_new h3 _).trans (same_new h4 _)), hi, r4, _, ?_, rfl⟩
    rw [upd_same, take_snoc ho, beside_snoc, List.map_append]; rfl
  · rintro σ H3 ⟨g, hle, r, o3, er, rfl⟩
    rw [List.length_map, List.take_length] at er
    exact ⟨_, rfl, q r H3 g er⟩
theorem sc_due : FnScope ["_law_which", "_law_prime", "_law_signs", "_law_own", "_law_long", "_law_first", "_law_numbers", "_law_bad"] ["_law_which", "_law_prime", "_law_signs", "_law_own", "_law_long"] (defScope (top 57)) := ⟨rfl, rfl, rfl, by decide +kernel, rfl, by decide +kernel, by decide +kernel⟩
set_option maxHeartbeats 1000000 in
theorem due_core {k : Nat} (hlen : mg "len" = none) (f : Addr) (cdv : Value) (A : Around) (outer : List Env) (s : Shared) (H : Hp) (vs : List V) (Q : VK) (E : XK) (hr : Room k (A.deeper (envOfC "_law_word_due" (defScope (top 57)) s.heap.objs.size f cdv))) (h : spDue0 K vs H Q E) :
    ∃ t, PSs (cxOf CX0 P w K mg base ["_law_which", "_law_prime", "_law_signs", "_law_own", "_law_long", "_law_first", "_law_numbers", "_law_bad"] "_law_word_due" (defScope (top 57)) f cdv A outer s H E).nox (defBody (top 57)) t ∧ t { nx := fun _ H' => Q .non H', rt := Q } (start ["_law_which", "_law_prime", "_law_signs", "_law_own", "_law_long", "_law_first", "_law_numbers", "_law_bad"] vs) H := by
  obtain ⟨w, p, a, os, n, L, pr, rfl, hw, hpr, ha, hl, q⟩ := h
  refine ⟨_, (pss_cons (ps_if (pt_cmpR op_eq (pv 0) pe_int (nomark _)) (pss_one (ps_ret pe_str)) pss_nil)
    (pss_cons (ps_if (ptw (pw_or (pt_cmpR op_eq (pv 0) pe_int (nomark _)) (pw_or1 (pt_cmpR op_eq (pv 0) pe_int (nomark _))))) pss_never pss_nil)
    (pss_cons (ps_setComp (i := 6) (N' := ["_law_sign"]) (ix := [none]) sc_due.nd rfl rfl rfl
      ⟨rfl, by decide +kernel, by decide +kernel, by with_unfolding_all rfl, by exact trivial, by exact trivial, by exact trivial⟩
      (pi_listK K rfl (pv 2))
      fun C ex pn s H => ⟨pg_name (i := 0) (show (["_law_sign"] : List Str).Nodup by decide +kernel) rfl (Or.inl rfl), pif_one (pt_cmpR op_notN (pv 0) pe_non (nomark _)), pv 0⟩)
    (pss_cons (ps_set (i := 7) sc_due.nd rfl (Or.inl rfl) (pe_cmpR op_gt (pe_callB (call_len_seqK K rfl) rfl hlen PySem.boot_len (pa_cons (pe_comp (N' := ["_law_sign", "_law_prime"]) (ix := [none, some 1]) rfl
      ⟨rfl, by decide +kernel, by decide +kernel, by with_unfolding_all rfl, by exact ⟨rfl, trivial⟩, by exact ⟨⟨_, rfl⟩, trivial⟩, by exact ⟨⟨rfl, rfl, rfl⟩, trivial⟩⟩
      (pi_listK K rfl (pv 6))
      fun C ex pn s H => ⟨pg_name (i := 0) (show (["_law_sign", "_law_prime"] : List Str).Nodup by decide +kernel) rfl (Or.inl rfl), pif_one (ptw (pw_or (pt_cmpR op_lt (pv 0) pe_int (nomark _)) (pw_or1 (pt_cmpR op_ge (pv 0) (pv 1) (nomark _))))), pv 0⟩) pa_nil)) pe_int (nomark _)))
    (pss_cons (ps_if (ptw (pw_and (pt_cmpR op_lt (pv 0) pe_int (nomark _)) (pw_and1 (ptw (pw_or (pt_val (pv 7)) (pw_or1 (ptw (pw_and (pt_cmpR (op_inK K rfl) pe_non (pv 2) rfl) (pw_and1 (pt_cmpR (op_inK K rfl) (pv 0) (pe_lst (pa_cons pe_int (pa_cons pe_int (pa_cons pe_int pa_nil)))) rfl))))))))))
      (pss_one (ps_ret pe_str)) pss_nil)
    (pss_cons (ps_if (ptw (pw_and (pt_cmpR (op_inK K rfl) (pv 0) (pe_lst (pa_cons pe_int (pa_cons pe_int pa_nil))) rfl) (pw_and1 (ptw (pw_or (pt_cmpR (op_eqD hr.units) (pv 2) (pe_lst pa_nil) (nomark _)) (pw_or (pt_cmpR op_lt (pv 4) (pe_callB (call_len_seqK K rfl) rfl hlen PySem.boot_len (pa_cons (pv 2) pa_nil)) (nomark _)) (pw_or1 (pt_cmpR op_gt (pv 4) (pv 1) (nomark _)))))))))
      (pss_one (ps_ret pe_str)) pss_nil)
    (pss_cons (ps_if (ptw (pw_and (pt_cmpR (op_inK K rfl) (pv 0) (pe_lst (pa_cons pe_int (pa_cons pe_int (pa_cons pe_int (pa_cons pe_int (pa_cons pe_int pa_nil)))))) rfl) (pw_and1 (ptw (pw_or (pt_cmpR op_lt (pv 3) pe_int (nomark _)) (pw_or (pt_cmpR op_gt (pv 3) (pe_callB (call_len_seqK K rfl) rfl hlen PySem.boot_len (pa_cons (pv 2) pa_nil)) (nomark _)) (pw_or1 (pt_cmpR op_gt (pe_callB (call_len_seqK K rfl) rfl hlen PySem.boot_len (pa_cons (pv 2) pa_nil)) (pv 1) (nomark _)))))))))
      (pss_one (ps_ret pe_str)) pss_nil)
    (pss_cons (ps_if (ptw (pw_and (pt_cmpR (op_inK K rfl) (pv 0) (pe_lst (pa_cons pe_int (pa_cons pe_int (pa_cons pe_int pa_nil)))) rfl) (pw_and1 (pt_cmpR op_lt (pe_callB (call_len_seqK K rfl) rfl hlen PySem.boot_len (pa_cons (pv 6) pa_nil)) (pv 3) (nomark _)))))
      (pss_one (ps_ret pe_str)) pss_nil)
    (pss_cons (ps_if (ptw (pw_and (pt_cmpR (op_inK K rfl) (pv 0) (pe_lst (pa_cons pe_int (pa_cons pe_int (pa_cons pe_int pa_nil)))) rfl) (pw_and1 (pt_cmpR op_gt (pe_callB (call_len_seqK K rfl) rfl hlen PySem.boot_len (pa_cons (pv 6) pa_nil)) (pv 3) (nomark _)))))
      (pss_one (ps_ret pe_str)) pss_nil)
    (pss_one (ps_ret pe_str))))))))))), ?_⟩
  have hzo : (os.map vo).length = os.length := List.length_map ..
  refine ⟨_, rfl, rfl, _, rfl, ?_⟩
  by_cases h8 : w = 8
  · subst h8
    refine ite_yes rfl (q _ H (Same.refl H) (fun e => ?_) (fun e => absurd e (by decide +kernel)))
    subst e
    exact .inl (congrArg wd (tk8 trivial)).symm
  refine ite_no (fun z => h8 (by injection z; (first | lia | omega))) ?_
  refine ⟨_, rfl, rfl, _, rfl, ite_no (fun z => by injection z; (first | lia | omega)) ⟨_, rfl, rfl, _, rfl, ite_no (fun z => by injection z; (first | lia | omega)) ?_⟩⟩
  have hw7 : w ≤ 7 := by (first | lia | omega)
  refine ⟨_, rfl, a, rfl, ⟨_, ha⟩, ?_⟩
  refine comp_list (xs := os.map vo) (fun i ys H' => H' = H ∧ ys = (nosN (os.take i)).map vo) ⟨rfl, rfl⟩ (fun i ys H' h => by rw [h.1]; exact ha) ?_ ?_
  · rintro i v ys H' hv ⟨rfl, rfl⟩
    obtain ⟨o, rfl, ho⟩ := get_vo hv
    have hnl : (nosN (os.take i)).length ≤ os.length := Nat.le_trans (List.length_filter_le _ _) (by rw [List.length_take]; (first | lia | omega))
    refine ⟨small (by rw [List.length_map]; (first | lia | omega)), trivial, ?_⟩
    refine ⟨_, rfl, rfl, _, rfl, ?_⟩
    rw [vo_notN]
    have hsn : nosN (os.take (i + 1)) = nosN (os.take i) ++ (if o.isSome = true then [o] else []) := by
      unfold nosN
      rw [take_snoc ho, List.filter_append, filter_one]
    rw [hsn]
    cases o with
    | none => exact iteF ⟨rfl, by simp⟩
    | some x => exact iteT ⟨_, rfl, rfl, by simp⟩
  rintro ys H' ⟨rfl, rfl⟩
  rw [hzo, List.take_length]
  have hnl : (nosN os).length ≤ os.length := List.length_filter_le _ _
  refine ⟨small (by rw [List.length_map]; (first | lia | omega)), fun r6 h6 => ?_⟩
  have g6 := same_new h6 (.lst ((nosN os).map vo))
  have e6 : (upd H' r6 (.lst ((nosN os).map vo))) r6 = some (.lst ((nosN os).map vo)) := upd_same
  generalize upd H' r6 (.lst ((nosN os).map vo)) = H6 at g6 e6 ⊢
  have hzn : ((nosN os).map vo).length = SM.knownN os := by rw [List.length_map]; rfl
  refine ⟨_, rfl, r6, rfl, ⟨_, SqL.of e6⟩, ?_⟩
  refine comp_list (xs := (nosN os).map vo) (fun i ys H' => H' = H6 ∧ ys.length ≤ i ∧ (ys.length = 0 ↔ ¬ ∃ x, some x ∈ (nosN os).take i ∧ ¬ (0 ≤ x ∧ x < p))) ⟨rfl, Nat.le_refl _, ⟨fun _ => fun ⟨x, hx, _⟩ => by simp at hx, fun _ => rfl⟩⟩ (fun i ys H' h => by rw [h.1]; exact SqL.of e6) ?_ ?_
  · rintro i v ys H' hv ⟨rfl, hyl, hy⟩
    obtain ⟨o, rfl, ho⟩ := get_vo hv
    have hi := (List.getElem?_eq_some_iff.mp ho).1
    have hsome : ∃ x, o = some x := by
      have := (List.mem_filter.mp (List.mem_of_getElem? ho)).2
      exact Option.isSome_iff_exists.mp this
    obtain ⟨x, rfl⟩ := hsome
    refine ⟨small (by (first | lia | omega)), ⟨rfl, trivial⟩, ?_⟩
    have key : ∀ b : Bool, (b = true ↔ ¬ (0 ≤ x ∧ x < p)) → (if b = true then H' = H' ∧ (ys ++ [V.int x]).length ≤ i + 1 ∧ ((ys ++ [V.int x]).length = 0 ↔ ¬ ∃ x, some x ∈ (nosN os).take (i + 1) ∧ ¬ (0 ≤ x ∧ x < p)) else H' = H' ∧ ys.length ≤ i + 1 ∧ (ys.length = 0 ↔ ¬ ∃ x, some x ∈ (nosN os).take (i + 1) ∧ ¬ (0 ≤ x ∧ x < p))) := fun b hb => by
      rw [take_snoc ho]
      cases b with
      | true =>
        refine iteT ⟨rfl, by simp; exact hyl, ⟨fun z => by simp at z, fun z => absurd ⟨x, List.mem_append_right _ (List.mem_singleton.mpr rfl), hb.mp rfl⟩ z⟩⟩
      | false =>
        have hok : 0 ≤ x ∧ x < p := Classical.byContradiction fun z => Bool.false_ne_true (hb.mpr z)
        refine iteF ⟨rfl, by (first | lia | omega), hy.trans ⟨fun z => fun ⟨y, hy1, hy2⟩ => ?_, fun z => fun ⟨y, hy1, hy2⟩ => z ⟨y, List.mem_append_left _ hy1, hy2⟩⟩⟩
        rcases List.mem_append.mp hy1 with k | k
        · exact z ⟨y, k, hy2⟩
        · have : y = x := by simpa using k
          subst this; exact hy2 hok
    by_cases c1 : x < 0
    · refine ⟨_, rfl, _, _, rfl, rfl, _, rfl, ite_yes c1 ?_⟩
      have k := key true ⟨fun _ => fun z => by (first | lia | omega), fun _ => rfl⟩
      rw [if_pos rfl] at k
      exact iteT ⟨_, rfl, k⟩
    · refine ⟨_, rfl, _, _, rfl, rfl, _, rfl, ite_no c1 ⟨_, rfl, _, rfl, _, _, rfl, rfl, _, rfl, ?_⟩⟩
      by_cases c2 : p ≤ x
      · have k := key true ⟨fun _ => fun z => by (first | lia | omega), fun _ => rfl⟩
        rw [if_pos rfl] at k
        exact ite_yes c2 ⟨_, rfl, k⟩
      · have k := key false ⟨fun z => (Bool.false_ne_true z).elim, fun z => absurd ⟨by (first | lia | omega), by (first | lia | omega)⟩ z⟩
        rw [if_neg Bool.false_ne_true] at k
        exact ite_no c2 k
  rintro ys H' ⟨rfl, hyl, hy⟩
  rw [List.take_of_length_le (by rw [List.length_map]; exact Nat.le_refl _)] at hy
  rw [List.length_map] at hyl
  refine ⟨small (by (first | lia | omega)), fun r7 h7 => ?_⟩
  have g7 := g6.trans (same_new h7 (.lst ys))
  have e67 := (same_new h7 (.lst ys)) _ _ e6
  refine ⟨r7, _, rfl, .inl (SqL.of upd_same), _, _, rfl, rfl, ?_⟩
  generalize upd H' r7 (.lst ys) = H7 at g7 e67 ⊢
  have hbad : (decide ((0 : Int) < (ys.length : Int))) = true ↔ BadN p os := by
    rw [decide_eq_true_iff]
    constructor
    · intro z
      refine Classical.byContradiction fun y => ?_
      have : ys.length = 0 := hy.mpr fun ⟨x, hx, hx2⟩ => y ⟨x, (List.mem_filter.mp hx).1, hx2⟩
      (first | lia | omega)
    · rintro ⟨x, hx, hx2⟩
      have : ¬ ys.length = 0 := fun z => hy.mp z ⟨x, List.mem_filter.mpr ⟨hx, rfl⟩, hx2⟩
      (first | lia | omega)
  generalize decide ((0 : Int) < (ys.length : Int)) = bd at hbad
  clear hy hyl ys h7 e6 g6 h6
  refine if_gn (A := A1 w p os) ?_ (fun h1 H1 g1 => ?_) fun h1 H1 g1 => ?_
  · refine Tells.and (A := w < 7) (B := BadN p os ∨ (none ∈ os ∧ (w = 0 ∨ w = 1 ∨ w = 5))) (fun Q q => ⟨_, rfl, _, _, rfl, rfl, _, rfl, q _ _ (Same.refl _) ?_⟩) fun H1 g1 => Tells.or (fun Q q => ⟨_, rfl, _, rfl, q _ _ (Same.refl _) hbad⟩) fun H2 g2 => Tells.and (fun Q q => ⟨_, rfl, a, _, rfl, .inl ((g7.trans (g1.trans g2)).seq ha), rfl, flat_vo os, _, rfl, q _ _ (Same.refl _) (in_non os)⟩)
      fun H3 g3 => fun Q q => ⟨_, rfl, by show 3 ≤ sizeLine; decide, fun r h => ⟨r, _, rfl, .inl (SqL.of upd_same), rfl, rfl, _, rfl, q _ _ (same_new h _) ?_⟩⟩
    · rw [decide_eq_true_iff]; (first | lia | omega)
    · exact (in_num (w : Int) [0, 1, 5]).trans (by simp; (first | lia | omega))
  · refine q _ H1 (g7.trans g1) (fun e => ?_) fun e => absurd e (by decide +kernel)
    subst e
    exact .inl (congrArg wd (due_sign (hpr.yes rfl).1.two h1)).symm
  have e61 := g1 _ _ e67
  replace g1 := g7.trans g1
  clear g7 e67 hbad
  refine if_nx (A := A2 w p os L) ?_ (fun h2 H2 g2 => ?_) fun h2 H2 g2 => ?_
  · refine Tells.and (A := w = 0 ∨ w = 5) (B := os = [] ∨ L < os.length ∨ p < L) (fun Q q => ⟨_, rfl, by show 2 ≤ sizeLine; decide, fun r h => ⟨r, _, rfl, .inl (SqL.of upd_same), rfl, rfl, _, rfl, q _ _ (same_new h _) ?_⟩⟩) fun H2 g2 => Tells.or (fun Q q => ⟨_, rfl, by show 0 ≤ sizeLine; decide, fun r h => ?_⟩) fun H3 g3 => Tells.or (fun Q q => ⟨_, rfl, _, rfl, a, _, rfl, .inl ((g1.trans (g2.trans g3)).seq ha), _, _, rfl, rfl, _, rfl, q _ _ (Same.refl _) ?_⟩) fun H4 g4 => fun Q q => ⟨_, rfl, _, rfl, _, _, rfl, rfl, _, rfl, q _ _ (Same.refl _) ?_⟩
    · exact (in_num (w : Int) [0, 5]).trans (by simp; (first | lia | omega))
    · obtain ⟨ds, hd, hz, hsh⟩ := dp_opts (K := K) (H := upd H2 r (.lst [])) os hl
      refine ⟨.list ds, .list [], .lst ((g1.trans (g2.trans (same_new h _))).seq ha) hd, .lst (SqL.of upd_same) .nil, hsh, by decide, _, rfl, q _ _ (same_new h _) ?_⟩
      rw [eqv_nil, List.isEmpty_iff, ← List.length_eq_zero_iff, hz, List.length_eq_zero_iff]
    · rw [decide_eq_true_iff, hzo]
    · rw [decide_eq_true_iff]
  · refine q _ H2 (g1.trans g2) (fun e => ?_) fun e => absurd e (by decide +kernel)
    subst e
    exact .inl (congrArg wd (due_len1 (hpr.yes rfl).1.two h1 h2)).symm
  have e62 := g2 _ _ e61
  replace g2 := g1.trans g2
  clear g1 e61
  refine if_nx (A := A3 w p os n) ?_ (fun h3 H3 g3 => ?_) fun h3 H3 g3 => ?_
  · refine Tells.and (A := w = 1 ∨ w = 2 ∨ w = 3 ∨ w = 4 ∨ w = 6) (B := n < 1 ∨ (os.length : Int) < n ∨ p < os.length) (fun Q q => ⟨_, rfl, by show 5 ≤ sizeLine; decide, fun r h => ⟨r, _, rfl, .inl (SqL.of upd_same), rfl, rfl, _, rfl, q _ _ (same_new h _) ?_⟩⟩) fun H3 g3 => Tells.or (fun Q q => ⟨_, rfl, _, _, rfl, rfl, _, rfl, q _ _ (Same.refl _) ?_⟩) fun H4 g4 => Tells.or (fun Q q => ⟨_, rfl, _, rfl, a, _, rfl, .inl ((g2.trans (g3.trans g4)).seq ha), _, _, rfl, rfl, _, rfl, q _ _ (Same.refl _) ?_⟩) fun H5 g5 => fun Q q => ⟨_, rfl, a, _, rfl, .inl ((g2.trans (g3.trans (g4.trans g5))).seq ha), _, rfl, _, _, rfl, rfl, _, rfl, q _ _ (Same.refl _) ?_⟩
    · exact (in_num (w : Int) [1, 2, 3, 4, 6]).trans (by simp; (first | lia | omega))
    · rw [decide_eq_true_iff]
    · rw [decide_eq_true_iff, hzo]
    · rw [decide_eq_true_iff, hzo]
  · refine q _ H3 (g2.trans g3) (fun e => ?_) fun e => absurd e (by decide +kernel)
    subst e
    exact .inl (congrArg wd (due_len2 h1 h3)).symm
  have e63 := g3 _ _ e62
  replace g3 := g2.trans g3
  clear g2 e62
  refine if_nx (A := A4 w os n) ?_ (fun h4 H4 g4 => ?_) fun h4 H4 g4 => ?_
  · refine Tells.and (A := w = 3 ∨ w = 4 ∨ w = 6) (B := (SM.knownN os : Int) < n) (fun Q q => ⟨_, rfl, by show 3 ≤ sizeLine; decide, fun r h => ⟨r, _, rfl, .inl (SqL.of upd_same), rfl, rfl, _, rfl, q _ _ (same_new h _) ?_⟩⟩) fun H4 g4 => fun Q q => ⟨_, rfl, r6, _, rfl, .inl (SqL.of (g4 _ _ e63)), _, rfl, _, _, rfl, rfl, _, rfl, q _ _ (Same.refl _) ?_⟩
    · exact (in_num (w : Int) [3, 4, 6]).trans (by simp; (first | lia | omega))
    · rw [decide_eq_true_iff, hzn]
  · refine q _ H4 (g3.trans g4) (fun e => ?_) fun e => absurd e (by decide +kernel)
    subst e
    exact .inl (congrArg wd (due_mend h1 h3 h4)).symm
  have e64 := g4 _ _ e63
  replace g4 := g3.trans g4
  clear g3 e63
  refine if_nx (A := A5 w os n) ?_ (fun h5 H5 g5 => ?_) fun h5 H5 g5 => ?_
  · refine Tells.and (A := w = 3 ∨ w = 4 ∨ w = 6) (B := n < (SM.knownN os : Int)) (fun Q q => ⟨_, rfl, by show 3 ≤ sizeLine; decide, fun r h => ⟨r, _, rfl, .inl (SqL.of upd_same), rfl, rfl, _, rfl, q _ _ (same_new h _) ?_⟩⟩) fun H5 g5 => fun Q q => ⟨_, rfl, r6, _, rfl, .inl (SqL.of (g5 _ _ e64)), _, rfl, _, _, rfl, rfl, _, rfl, q _ _ (Same.refl _) ?_⟩
    · exact (in_num (w : Int) [3, 4, 6]).trans (by simp; (first | lia | omega))
    · rw [decide_eq_true_iff, hzn]
  · refine q _ H5 (g4.trans g5) (fun e => ?_) fun _ => h5.1
    subst e
    refine .inr ⟨rfl, .inl ⟨by have := h5.1; (first | lia | omega), ?_⟩⟩
    exact due_free h1 h3 h5
  · refine q _ H5 (g4.trans g5) (fun e => ?_) fun e => absurd e (by decide +kernel)
    subst e
    exact .inl (congrArg wd (due_done (hpr.yes rfl) hw7 h1 h2 h3 h4 h5)).symm
theorem ok_due0 (D : Def K mg "_law_word_due" ["_law_which", "_law_prime", "_law_signs", "_law_own", "_law_long"] (top 57)) (hlen : mg "len" = none) : Has P w K mg base 1 "_law_word_due" ["_law_which", "_law_prime", "_law_signs", "_law_own", "_law_long"] (spDue0 K) :=
  D.ok sc_due (fun vs H Q E h => by obtain ⟨w, p, a, os, n, L, pr, rfl, _⟩ := h; rfl) (due_core hlen)
theorem ok_due (D : Def K mg "_law_word_due" ["_law_which", "_law_prime", "_law_signs", "_law_own", "_law_long"] (top 57)) (hlen : mg "len" = none) (hint : mg "int" = none) (D0 : Has P w K mg base 1 "_law_word_due" ["_law_which", "_law_prime", "_law_signs", "_law_own", "_law_long"] (spDue0 K)) :
    Has P w K mg base 2 "_law_word_due" ["_law_which", "_law_prime", "_law_signs", "_law_own", "_law_long"] (spDue K) := by
  refine D.ok sc_due (fun vs H Q E h => by obtain ⟨w, p, a, os, n, L, pr, rfl, _⟩ := h; rfl) fun f cdv A outer s H vs Q E hr h => ?_
  obtain ⟨w, p, a, os, n, L, pr, rfl, hw, hpr, ha, hl, q⟩ := h
  by_cases h8 : w ≤ 8
  · exact due_core hlen f cdv A outer s H _ Q E hr ⟨w, p, a, os, n, L, pr, rfl, h8, hpr, ha, hl, fun u H' g e _ => q u H' g e⟩
  refine ⟨_, pss_cons (ps_if (pt_cmpR op_eq (pv 0) pe_int (nomark _)) pss_never pss_nil) (pss_cons (ps_if (ptw (pw_or (pt_cmpR op_eq (pv 0) pe_int (nomark _)) (pw_or1 (pt_cmpR op_eq (pv 0) pe_int (nomark _))))) (pss_cons (ps_set (i := 5) sc_due.nd rfl (Or.inl rfl) (pcall D0 hr rfl (pa_cons (pe_ix (ix_listK K rfl) (pe_lst (pa_cons pe_int (pa_cons pe_int pa_nil))) (pe_op op_sub (pv 0) pe_int) (fun _ _ => rfl)) (pa_cons (pv 1) (pa_cons (pv 2) (pa_cons (pv 3) (pa_cons (pv 4) pa_nil)))))))
    (pss_one (ps_ret (pe_ix (ix_listK K rfl) (pe_lst (pa_cons (pv 5) (pa_cons pe_str pa_nil))) (pe_callTy call_int1 rfl hint bt_int (pa_cons (pe_cmpR op_eq (pv 5) pe_str (nomark _)) pa_nil)) (fun _ _ => rfl))))) pss_nil) pss_never), ?_⟩
  have hw2 : w = 9 ∨ w = 10 := by (first | lia | omega)
  refine ⟨_, rfl, rfl, _, rfl, ite_no (fun z => by injection z; (first | lia | omega)) ?_⟩
  refine if_nx (A := w = 9 ∨ w = 10) ?_ (fun h1 H1 g1 => ?_) fun h1 => absurd hw2 h1
  · refine Tells.or (fun Q q => ⟨_, rfl, rfl, _, rfl, q _ _ (Same.refl _) ?_⟩) fun H1 g1 => fun Q q => ⟨_, rfl, rfl, _, rfl, q _ _ (Same.refl _) ?_⟩
    · rw [decide_eq_true_iff]
      exact ⟨fun z => by injection z; (first | lia | omega), fun z => congrArg V.int (by (first | lia | omega))⟩
    · rw [decide_eq_true_iff]
      exact ⟨fun z => by injection z; (first | lia | omega), fun z => congrArg V.int (by (first | lia | omega))⟩
  refine ⟨by show 2 ≤ sizeLine; decide, fun r h => ⟨_, rfl, _, _, rfl, rfl, ?_⟩⟩
  obtain ⟨v, hv, hat⟩ : ∃ v : Nat, v = (if w = 9 then 6 else 5) ∧ atI ([.int 6, .int 5] : List V) ((w : Int) - 9) = some (.int (v : Int)) := by
    rcases hw2 with rfl | rfl
    · exact ⟨6, rfl, rfl⟩
    · exact ⟨5, rfl, rfl⟩
  have hv8 : v ≤ 8 := by rw [hv]; split <;> decide
  refine ⟨r, _, _, _, rfl, rfl, SqL.of upd_same, hat, _, rfl, _, rfl, _, rfl, _, rfl, v, p, a, os, n, L, pr, rfl, hv8, hpr, (g1.trans (same_new h _)).seq ha, hl, fun u H2 g2 hu hfree => ?_⟩
  refine ⟨_, rfl, by show 2 ≤ sizeLine; decide, fun r3 h3 => ⟨_, rfl, rfl, .inr ⟨_, rfl, ?_⟩⟩⟩
  have g3 := g1.trans ((same_new h (.lst [.int 6, .int 5])).trans (g2.trans (same_new h3 (.lst [.str u, .str "sign"]))))
  have hat3 : atI ([.str u, .str "sign"] : List V) (if decide (V.str u = V.str "done") = true then 1 else 0) = some (.str (if u = Str.ofString "done" then Str.ofString "sign" else u)) := by
    by_cases hd : u = Str.ofString "done"
    · rw [decide_eq_true (congrArg V.str hd), if_pos rfl, if_pos hd]; rfl
    · rw [str_neD hd, if_neg Bool.false_ne_true, if_neg hd]; rfl
  refine ⟨r3, _, _, _, rfl, rfl, SqL.of upd_same, hat3, q _ _ g3 fun e => ?_⟩
  refine fits_two hw2 hv (hu e) ?_ fun e10 => ?_
  · subst e
    rcases hw2 with rfl | rfl
    · obtain rfl : v = 6 := hv
      show tkO true p (beside p os) 2 n = twoO (tkO true p os 1 n)
      rw [tk9, tk1]
    · obtain rfl : v = 5 := hv
      show laO true p [os, [some p]] L = twoO (laO true p [os, [some 1]] L)
      rw [la10, la5 (hpr.yes rfl).1.two]
  · intro z
    have := hfree z
    rw [hv, e10] at this
    exact absurd this (by decide)
end
end Sy
namespace Sy
open PySem PySem.Spec L2 L3
open PyProof.Rows hiding St
seal L2.PSs L2.PS L2.PE L2.PT L2.PW L2.PA L2.PG L2.PGs L2.PI L3.PIf L3.PSr L3.PSsr L3.PEr
/-- how the classes lie to each other -/
structure ClsOk (K : PySem.W.Frag) (c : Cls) (SE NL : Addr) : Prop where
  lk : ∀ k, ExcLk K (c.of k)
  st : ∀ k, PySem.W.exmOne K (.ref (c.of k)) (.ref SE) = some true
  ex : ∀ k k', PySem.W.exmOne K (.ref (c.of k)) (.ref (c.of k')) = some (decide (k = k'))
  kit : ∀ k k', PySem.W.kitOne K (.ref (c.of k)) (.ref (c.of k')) = some (decide (k = k'))
  nl : ∀ k, PySem.W.kitOne K (.ref (c.of k)) (.ref NL) = some false
  ve : ∀ k, PySem.W.kitOne K (.ref (c.of k)) (.type "ValueError") = some true
theorem outOf {c : Cls} {o : Option Kd} {good : Prop} {H : Hp} {E : XE} {σ : St} (ok : o = none → good) (bad : ∀ k, o = some k → ∀ H', Same H H' → E (.ref (c.of k)) σ H') : Out c o good H (fun cls _ H2 => E cls σ H2) := by
  cases o with
  | none => exact ok rfl
  | some k => exact fun H' g => bad k rfl H' g
/-- the calls, one by one -/
def tChain (K : PySem.W.Frag) (c : Cls) : TSr :=
  trIf (tTest (tOp rEq (tVar 0) (tC (V.int 0)))) (trDrop (trCall (spMadeE K c) (tCons (tVar 1) (tCons (tVar 2) (tCons (tVar 4) tNil)))))
  (trIf (tTest (tOp rEq (tVar 0) (tC (V.int 1)))) (trDrop (trCall (spIsMadeE K c) (tCons (tVar 1) (tCons (tVar 2) (tCons (tVar 3) tNil)))))
  (trIf (tTest (tOp rEq (tVar 0) (tC (V.int 2)))) (trDrop (trCall (spFilledE K c) (tCons (tVar 1) (tCons (tVar 2) (tCons (tVar 3) tNil)))))
  (trIf (tTest (tOp rEq (tVar 0) (tC (V.int 3)))) (trDrop (trCall (spMdE K c) (tCons (tVar 1) (tCons (tVar 2) (tCons (tVar 3) tNil)))))
  (trIf (tTest (tOp rEq (tVar 0) (tC (V.int 4)))) (trDrop (trCall (spRdE K c) (tCons (tVar 1) (tCons (tVar 2) (tCons (tVar 3) tNil)))))
  (trIf (tTest (tOp rEq (tVar 0) (tC (V.int 5)))) (trDrop (trCall (spLaE c) (tCons (tVar 1) (tCons (tLst (tCons (tVar 2) (tCons (tLst (tCons (tC (V.int 1)) tNil)) tNil))) (tCons (tVar 4) tNil)))))
  (trIf (tTest (tOp rEq (tVar 0) (tC (V.int 6)))) (trDrop (trCall (spTkE K c) (tCons (tVar 1) (tCons (tVar 2) (tCons (tC (V.int 1)) (tCons (tVar 3) tNil))))))
  (trIf (tTest (tOp rEq (tVar 0) (tC (V.int 7)))) (trDrop (trCall (spLaE c) (tCons (tVar 1) (tCons (tLst tNil) (tCons (tVar 4) tNil)))))
  (trIf (tTest (tOp rEq (tVar 0) (tC (V.int 8)))) (trDrop (trCall (spTkE K c) (tCons (tVar 1) (tCons (tVar 2) (tCons (tOp (rI0 fun i j => V.int (i + j)) (tCB (rLen K) (tCons (tVar 2) tNil)) (tC (V.int 1))) (tCons (tVar 3) tNil))))))
  (trIf (tTest (tOp rEq (tVar 0) (tC (V.int 10)))) (trDrop (trCall (spLaE c) (tCons (tVar 1) (tCons (tLst (tCons (tVar 2) (tCons (tLst (tCons (tVar 1) tNil)) tNil))) (tCons (tVar 4) tNil)))))
  (trDrop (trCall (spTkE K c) (tCons (tVar 1) (tCons (tCall (spBeside K) [] E0 (tCons (tVar 1) (tCons (tVar 2) tNil))) (tCons (tC (V.int 2)) (tCons (tVar 3) tNil)))))))))))))))
theorem chain_ok {K : PySem.W.Frag} {c : Cls} {D : Ends} {E : XE} {rest : St} {H : Hp} {w : Nat} {p : Int} {a : Addr} {os : List (Option Int)} {n L : Int} {pr : Bool} (hw : w ≤ 10) (hpr : PrB p pr) (ha : H a = some (.lst (os.map vo))) (hl : os.length ≤ 49) (hp : Bd p) (hos : BdL os) (hn : Bd n) (hL : Bd L)
    (ok : saidO w pr p os n L = none → ∀ H', Same H H' → D.nx (some (.int (w : Int)) :: some (.int p) :: some (.ref a) :: some (.int n) :: some (.int L) :: rest) H')
    (bad : ∀ k, saidO w pr p os n L = some k → ∀ H', Same H H' → E (.ref (c.of k)) (some (.int (w : Int)) :: some (.int p) :: some (.ref a) :: some (.int n) :: some (.int L) :: rest) H') :
    tChain K c D E (some (.int (w : Int)) :: some (.int p) :: some (.ref a) :: some (.int n) :: some (.int L) :: rest) H := by
  have hzo : (os.map vo).length = os.length := List.length_map ..
  refine ⟨_, rfl, rfl, _, rfl, ?_⟩
  by_cases e : w = 0
  · subst e
    exact ite_yes rfl ⟨_, rfl, _, rfl, _, rfl, p, a, os, L, pr, rfl, hpr, SqL.of ha, by (first | lia | omega), hp, hos, hL, outOf (fun z ns _ r H' g _ => ok z H' g) bad⟩
  refine ite_no (fun z => e (by injection z; (first | lia | omega))) ⟨_, rfl, rfl, _, rfl, ?_⟩
  by_cases e : w = 1
  · subst e
    exact ite_yes rfl ⟨_, rfl, _, rfl, _, rfl, p, a, os, n, pr, rfl, hpr, SqL.of ha, by (first | lia | omega), hp, hos, hn, outOf (fun z v H' g => ok z H' g) bad⟩
  refine ite_no (fun z => e (by injection z; (first | lia | omega))) ⟨_, rfl, rfl, _, rfl, ?_⟩
  by_cases e : w = 2
  · subst e
    exact ite_yes rfl ⟨_, rfl, _, rfl, _, rfl, p, a, os, n, pr, rfl, hpr, SqL.of ha, by (first | lia | omega), hp, hos, hn, outOf (fun z v H' g => ok z H' g) bad⟩
  refine ite_no (fun z => e (by injection z; (first | lia | omega))) ⟨_, rfl, rfl, _, rfl, ?_⟩
  by_cases e : w = 3
  · subst e
    exact ite_yes rfl ⟨_, rfl, _, rfl, _, rfl, p, a, os, n, pr, rfl, hpr, SqL.of ha, by (first | lia | omega), hp, hos, hn, outOf (fun z xs t a1 a2 H' g _ _ => ok z H' g) bad⟩
  refine ite_no (fun z => e (by injection z; (first | lia | omega))) ⟨_, rfl, rfl, _, rfl, ?_⟩
  by_cases e : w = 4
  · subst e
    exact ite_yes rfl ⟨_, rfl, _, rfl, _, rfl, p, a, os, n, pr, rfl, hpr, SqL.of ha, by (first | lia | omega), hp, hos, hn, outOf (fun z v H' g => ok z H' g) bad⟩
  refine ite_no (fun z => e (by injection z; (first | lia | omega))) ⟨_, rfl, rfl, _, rfl, ?_⟩
  by_cases e : w = 5
  · subst e
    refine ite_yes rfl ⟨_, rfl, _, rfl, by show 1 ≤ sizeLine; decide, fun r1 h1 => ⟨by show 2 ≤ sizeLine; decide, fun r2 h2 => ?_⟩⟩
    have g2 := (same_new h1 (.lst [.int 1])).trans (same_new h2 (.lst [.ref a, .ref r1]))
    exact ⟨_, rfl, p, r2, L, [a, r1], [os, [some 1]], pr, rfl, hpr, upd_same, ⟨g2 _ _ ha, (same_new h2 _) _ _ upd_same, trivial⟩, by show 2 ≤ 20; decide, fun w hw => by
      rcases List.mem_cons.mp hw with z | z
      · rw [z]; exact ⟨by (first | lia | omega), hos⟩
      · rw [List.mem_singleton.mp z]
        refine ⟨by decide, fun s hs => ?_⟩
        have : s = 1 := by simpa using hs
        rw [this]; exact ⟨by decide, by decide⟩, hp, hL, outOf (fun z v H' g => ok z H' (g2.trans g)) fun k z H' g => bad k z H' (g2.trans g)⟩
  refine ite_no (fun z => e (by injection z; (first | lia | omega))) ⟨_, rfl, rfl, _, rfl, ?_⟩
  by_cases e : w = 6
  · subst e
    exact ite_yes rfl ⟨_, rfl, _, rfl, _, rfl, p, a, 1, n, os, pr, rfl, hpr, SqL.of ha, by (first | lia | omega), hp, hos, by decide, by decide, hn, outOf (fun z v H' g => ok z H' g) bad⟩
  refine ite_no (fun z => e (by injection z; (first | lia | omega))) ⟨_, rfl, rfl, _, rfl, ?_⟩
  by_cases e : w = 7
  · subst e
    refine ite_yes rfl ⟨_, rfl, by show 0 ≤ sizeLine; decide, fun r2 h2 => ?_⟩
    have g2 := same_new h2 (.lst ([] : List V))
    exact ⟨_, rfl, p, r2, L, [], [], pr, rfl, hpr, upd_same, trivial, by decide, fun w hw => (by cases hw), hp, hL, outOf (fun z v H' g => ok z H' (g2.trans g)) fun k z H' g => bad k z H' (g2.trans g)⟩
  refine ite_no (fun z => e (by injection z; (first | lia | omega))) ⟨_, rfl, rfl, _, rfl, ?_⟩
  by_cases e : w = 8
  · subst e
    refine ite_yes rfl ⟨_, rfl, _, rfl, _, rfl, a, _, rfl, .inl (SqL.of ha), _, _, rfl, rfl, ?_⟩
    rw [hzo]
    exact ⟨_, rfl, p, a, (os.length : Int) + 1, n, os, pr, rfl, hpr, SqL.of ha, by (first | lia | omega), hp, hos, by (first | lia | omega), by (first | lia | omega), hn, outOf (fun z v H' g => ok z H' g) bad⟩
  refine ite_no (fun z => e (by injection z; (first | lia | omega))) ⟨_, rfl, rfl, _, rfl, ?_⟩
  by_cases e : w = 10
  · subst e
    refine ite_yes rfl ⟨_, rfl, _, rfl, _, rfl, by show 1 ≤ sizeLine; decide, fun r1 h1 => ⟨by show 2 ≤ sizeLine; decide, fun r2 h2 => ?_⟩⟩
    have g2 := (same_new h1 (.lst [.int p])).trans (same_new h2 (.lst [.ref a, .ref r1]))
    exact ⟨_, rfl, p, r2, L, [a, r1], [os, [some p]], pr, rfl, hpr, upd_same, ⟨g2 _ _ ha, (same_new h2 _) _ _ upd_same, trivial⟩, by show 2 ≤ 20; decide, fun w hw => by
      rcases List.mem_cons.mp hw with z | z
      · rw [z]; exact ⟨by (first | lia | omega), hos⟩
      · rw [List.mem_singleton.mp z]
        refine ⟨by show 1 ≤ 100; decide, fun s hs => ?_⟩
        have : s = p := by simpa using hs
        rw [this]; exact hp, hp, hL, outOf (fun z v H' g => ok z H' (g2.trans g)) fun k z H' g => bad k z H' (g2.trans g)⟩
  refine ite_no (fun z => e (by injection z; (first | lia | omega))) ?_
  obtain rfl : w = 9 := by (first | lia | omega)
  have hbl := beside_len p os
  refine ⟨_, rfl, _, rfl, _, rfl, p, a, os, rfl, SqL.of ha, hl, fun r H1 g1 e1 => ⟨_, rfl, p, r, 2, n, beside p os, pr, rfl, hpr, SqL.of e1, by (first | lia | omega), hp, fun s hs => ?_, by decide, by decide, hn, outOf (fun z v H' g => ok z H' (g1.trans g)) fun k z H' g => bad k z H' (g1.trans g)⟩⟩
  rcases beside_mem hs with z | z
  · exact hos s z
  · have : s = p := by simpa using z
    rw [this]; exact hp
theorem bt_ve : bootBuiltins "ValueError" = some (.type "ValueError") := by decide +kernel
inductive spSaid (c : Cls) : List V → Hp → VK → XK → Prop
  | mk {vs : List V} {H : Hp} {Q : VK} {E_ : XK} (w : Nat) (p : Int) (a : Addr) (os : List (Option Int)) (n L : Int) (pr : Bool) (z_0 : vs = [.int (w : Int), .int p, .ref a, .int n, .int L]) (z_1 : w ≤ 10) (z_2 : PrB p pr) (z_3 : H a = some (.lst (os.map vo))) (z_4 : os.length ≤ 49) (z_5 : Bd p) (z_6 : BdL os) (z_7 : Bd n) (z_8 : Bd L) (z_9 : ∀ (H' : Hp), Same H H' → Q (.str (wd (saidO w pr p os n L))) H') : spSaid c vs H Q E_
inductive spRefuses (c : Cls) : List V → Hp → VK → XK → Prop
  | mk {vs : List V} {H : Hp} {Q : VK} {E_ : XK} (w : Nat) (p : Int) (a : Addr) (os : List (Option Int)) (n L : Int) (pr : Bool) (z_0 : vs = [.int (w : Int), .int p, .ref a, .int n, .int L]) (z_1 : w ≤ 10) (z_2 : PrB p pr) (z_3 : H a = some (.lst (os.map vo))) (z_4 : os.length ≤ 49) (z_5 : Bd p) (z_6 : BdL os) (z_7 : Bd n) (z_8 : Bd L) (z_9 : ∀ (H' : Hp), Same H H' → Q (.bl (saidO w pr p os n L).isSome) H') : spRefuses c vs H Q E_
section
variable {P : Program} {w : World} {K : PySem.W.Frag} {mg : Str → Option Value} {base : Heap}
theorem sc_said : FnScope ["_law_which", "_law_prime", "_law_signs", "_law_size", "_law_length", "_law_word"] ["_law_which", "_law_prime", "_law_signs", "_law_size", "_law_length"] (defScope (top 56)) := ⟨rfl, rfl, rfl, by decide +kernel, rfl, by decide +kernel, by decide +kernel⟩
set_option maxHeartbeats 1000000 in
theorem ok_said {c : Cls} {SE NL : Addr} (D : Def K mg "_law_said" ["_law_which", "_law_prime", "_law_signs", "_law_size", "_law_length"] (top 56)) (hc : ClsOk K c SE NL) (hNP : mg "NotPrime" = some (.ref (c.of .prime))) (hBS : mg "BadSign" = some (.ref (c.of .sign))) (hBL : mg "BadLength" = some (.ref (c.of .length))) (hNM : mg "NotMended" = some (.ref (c.of .mended))) (hlen : mg "len" = none)
    (MD : HasE P w K mg base 20 "made" ["prime", "word", "length"] (spMadeE K c)) (IM : HasE P w K mg base 20 "is_made" ["prime", "signs", "size"] (spIsMadeE K c)) (FI : HasE P w K mg base 20 "filled" ["prime", "signs", "size"] (spFilledE K c)) (ME : HasE P w K mg base 20 "mended" ["prime", "signs", "size"] (spMdE K c)) (RD : HasE P w K mg base 20 "read" ["prime", "signs", "size"] (spRdE K c))
    (LA : HasE P w K mg base 20 "laid" ["prime", "words", "length"] (spLaE c)) (TK : HasE P w K mg base 20 "taken_up" ["prime", "signs", "count", "size"] (spTkE K c)) (BE : Has P w K mg base 20 "_law_beside_bad" ["_law_prime", "_law_signs"] (spBeside K)) :
    Has P w K mg base 21 "_law_said" ["_law_which", "_law_prime", "_law_signs", "_law_size", "_law_length"] (spSaid c) := by
  refine D.ok sc_said (fun vs H Q E h => by obtain ⟨w, p, a, os, n, L, pr, rfl, _⟩ := h; rfl) fun f cdv A outer s H vs Q E hr h => ?_
  obtain ⟨w, p, a, os, n, L, pr, rfl, hw, hpr, ha, hl, hp, hos, hn, hL, q⟩ := h
  refine ⟨_, (pss_cons (ps_set (i := 5) sc_said.nd rfl (Or.inl rfl) pe_str)
    (pss_cons (ps_try (t := tChain K c) (fun _ _ z => z) ⟨rfl, rfl⟩
      (pssr_one (psr_if (fun _ _ z => z) (pt_cmpR op_eq (pv 0) pe_int (nomark _)) (pssr_one (psr_expr (pr_call (fun _ _ z => z) MD hr rfl (pa_cons (pv 1) (pa_cons (pv 2) (pa_cons (pv 4) pa_nil))))))
      (pssr_one (psr_if (fun _ _ z => z) (pt_cmpR op_eq (pv 0) pe_int (nomark _)) (pssr_one (psr_expr (pr_call (fun _ _ z => z) IM hr rfl (pa_cons (pv 1) (pa_cons (pv 2) (pa_cons (pv 3) pa_nil))))))
      (pssr_one (psr_if (fun _ _ z => z) (pt_cmpR op_eq (pv 0) pe_int (nomark _)) (pssr_one (psr_expr (pr_call (fun _ _ z => z) FI hr rfl (pa_cons (pv 1) (pa_cons (pv 2) (pa_cons (pv 3) pa_nil))))))
      (pssr_one (psr_if (fun _ _ z => z) (pt_cmpR op_eq (pv 0) pe_int (nomark _)) (pssr_one (psr_expr (pr_call (fun _ _ z => z) ME hr rfl (pa_cons (pv 1) (pa_cons (pv 2) (pa_cons (pv 3) pa_nil))))))
      (pssr_one (psr_if (fun _ _ z => z) (pt_cmpR op_eq (pv 0) pe_int (nomark _)) (pssr_one (psr_expr (pr_call (fun _ _ z => z) RD hr rfl (pa_cons (pv 1) (pa_cons (pv 2) (pa_cons (pv 3) pa_nil))))))
      (pssr_one (psr_if (fun _ _ z => z) (pt_cmpR op_eq (pv 0) pe_int (nomark _)) (pssr_one (psr_expr (pr_call (fun _ _ z => z) LA hr rfl (pa_cons (pv 1) (pa_cons (pe_lst (pa_cons (pv 2) (pa_cons (pe_lst (pa_cons pe_int pa_nil)) pa_nil))) (pa_cons (pv 4) pa_nil))))))
      (pssr_one (psr_if (fun _ _ z => z) (pt_cmpR op_eq (pv 0) pe_int (nomark _)) (pssr_one (psr_expr (pr_call (fun _ _ z => z) TK hr rfl (pa_cons (pv 1) (pa_cons (pv 2) (pa_cons pe_int (pa_cons (pv 3) pa_nil)))))))
      (pssr_one (psr_if (fun _ _ z => z) (pt_cmpR op_eq (pv 0) pe_int (nomark _)) (pssr_one (psr_expr (pr_call (fun _ _ z => z) LA hr rfl (pa_cons (pv 1) (pa_cons (pe_lst pa_nil) (pa_cons (pv 4) pa_nil))))))
      (pssr_one (psr_if (fun _ _ z => z) (pt_cmpR op_eq (pv 0) pe_int (nomark _)) (pssr_one (psr_expr (pr_call (fun _ _ z => z) TK hr rfl (pa_cons (pv 1) (pa_cons (pv 2) (pa_cons (pe_op op_add (pe_callB (call_len_seqK K rfl) rfl hlen PySem.boot_len (pa_cons (pv 2) pa_nil)) pe_int) (pa_cons (pv 3) pa_nil)))))))
      (pssr_one (psr_if (fun _ _ z => z) (pt_cmpR op_eq (pv 0) pe_int (nomark _)) (pssr_one (psr_expr (pr_call (fun _ _ z => z) LA hr rfl (pa_cons (pv 1) (pa_cons (pe_lst (pa_cons (pv 2) (pa_cons (pe_lst (pa_cons (pv 1) pa_nil)) pa_nil))) (pa_cons (pv 4) pa_nil))))))
      (pssr_one (psr_expr (pr_call (fun _ _ z => z) TK hr rfl (pa_cons (pv 1) (pa_cons (pcall BE hr rfl (pa_cons (pv 1) (pa_cons (pv 2) pa_nil))) (pa_cons pe_int (pa_cons (pv 3) pa_nil)))))))))))))))))))))))))))
      (.cons rfl hNP (by decide) (fun ea => pss_one (ps_set (i := 5) sc_said.nd rfl (Or.inl rfl) pe_str)) (.cons rfl hBS (by decide) (fun ea => pss_one (ps_set (i := 5) sc_said.nd rfl (Or.inl rfl) pe_str)) (.cons rfl hBL (by decide) (fun ea => pss_one (ps_set (i := 5) sc_said.nd rfl (Or.inl rfl) pe_str)) (.cons rfl hNM (by decide) (fun ea => pss_one (ps_set (i := 5) sc_said.nd rfl (Or.inl rfl) pe_str)) .nil)))))
    (pss_one (ps_ret (pv 5))))), ?_⟩
  refine chain_ok (rest := [some (.str "done")]) hw hpr ha hl hp hos hn hL (fun z H' g => ?_) fun k z H' g => ?_
  · have q' := q H' g
    rw [z] at q'
    exact ⟨_, rfl, q'⟩
  · have q' := q H' g
    rw [z] at q'
    cases k with
    | prime => exact ⟨true, hc.ex .prime .prime, iteT ⟨_, rfl, q'⟩⟩
    | sign => exact ⟨false, hc.ex .sign .prime, iteF ⟨true, hc.ex .sign .sign, iteT ⟨_, rfl, q'⟩⟩⟩
    | length => exact ⟨false, hc.ex .length .prime, iteF ⟨false, hc.ex .length .sign, iteF ⟨true, hc.ex .length .length, iteT ⟨_, rfl, q'⟩⟩⟩⟩
    | mended => exact ⟨false, hc.ex .mended .prime, iteF ⟨false, hc.ex .mended .sign, iteF ⟨false, hc.ex .mended .length, iteF ⟨true, hc.ex .mended .mended, iteT ⟨_, rfl, q'⟩⟩⟩⟩⟩
theorem sc_refuses : FnScope ["_law_which", "_law_prime", "_law_signs", "_law_size", "_law_length", "e", "_law_under"] ["_law_which", "_law_prime", "_law_signs", "_law_size", "_law_length"] (defScope (top 58)) := ⟨rfl, rfl, rfl, by decide +kernel, rfl, by decide +kernel, by decide +kernel⟩
set_option maxHeartbeats 1000000 in
theorem ok_refuses {c : Cls} {SE NL : Addr} (D : Def K mg "_law_refuses" ["_law_which", "_law_prime", "_law_signs", "_law_size", "_law_length"] (top 58)) (hc : ClsOk K c SE NL) (hNP : mg "NotPrime" = some (.ref (c.of .prime))) (hBS : mg "BadSign" = some (.ref (c.of .sign))) (hBL : mg "BadLength" = some (.ref (c.of .length))) (hNM : mg "NotMended" = some (.ref (c.of .mended))) (hSE : mg "StrayError" = some (.ref SE)) (hNL : mg "NoLine" = some (.ref NL)) (hlen : mg "len" = none) (hi : mg "isinstance" = none) (hve : mg "ValueError" = none)
    (MD : HasE P w K mg base 20 "made" ["prime", "word", "length"] (spMadeE K c)) (IM : HasE P w K mg base 20 "is_made" ["prime", "signs", "size"] (spIsMadeE K c)) (FI : HasE P w K mg base 20 "filled" ["prime", "signs", "size"] (spFilledE K c)) (ME : HasE P w K mg base 20 "mended" ["prime", "signs", "size"] (spMdE K c)) (RD : HasE P w K mg base 20 "read" ["prime", "signs", "size"] (spRdE K c))
    (LA : HasE P w K mg base 20 "laid" ["prime", "words", "length"] (spLaE c)) (TK : HasE P w K mg base 20 "taken_up" ["prime", "signs", "count", "size"] (spTkE K c)) (BE : Has P w K mg base 20 "_law_beside_bad" ["_law_prime", "_law_signs"] (spBeside K)) :
    Has P w K mg base 21 "_law_refuses" ["_law_which", "_law_prime", "_law_signs", "_law_size", "_law_length"] (spRefuses c) := by
  refine D.ok sc_refuses (fun vs H Q E h => by obtain ⟨w, p, a, os, n, L, pr, rfl, _⟩ := h; rfl) fun f cdv A outer s H vs Q E hr h => ?_
  obtain ⟨w, p, a, os, n, L, pr, rfl, hw, hpr, ha, hl, hp, hos, hn, hL, q⟩ := h
  refine ⟨_, (pss_cons (ps_tryAs (t := tChain K c) (i := 5) (n := "e") (G := fun cls => ∃ C, cls = .ref C ∧ ExcLk K C) (fun _ _ z => z) ⟨rfl, rfl⟩
      (pssr_one (psr_if (fun _ _ z => z) (pt_cmpR op_eq (pv 0) pe_int (nomark _)) (pssr_one (psr_expr (pr_call (fun _ _ z => z) MD hr rfl (pa_cons (pv 1) (pa_cons (pv 2) (pa_cons (pv 4) pa_nil))))))
      (pssr_one (psr_if (fun _ _ z => z) (pt_cmpR op_eq (pv 0) pe_int (nomark _)) (pssr_one (psr_expr (pr_call (fun _ _ z => z) IM hr rfl (pa_cons (pv 1) (pa_cons (pv 2) (pa_cons (pv 3) pa_nil))))))
      (pssr_one (psr_if (fun _ _ z => z) (pt_cmpR op_eq (pv 0) pe_int (nomark _)) (pssr_one (psr_expr (pr_call (fun _ _ z => z) FI hr rfl (pa_cons (pv 1) (pa_cons (pv 2) (pa_cons (pv 3) pa_nil))))))
      (pssr_one (psr_if (fun _ _ z => z) (pt_cmpR op_eq (pv 0) pe_int (nomark _)) (pssr_one (psr_expr (pr_call (fun _ _ z => z) ME hr rfl (pa_cons (pv 1) (pa_cons (pv 2) (pa_cons (pv 3) pa_nil))))))
      (pssr_one (psr_if (fun _ _ z => z) (pt_cmpR op_eq (pv 0) pe_int (nomark _)) (pssr_one (psr_expr (pr_call (fun _ _ z => z) RD hr rfl (pa_cons (pv 1) (pa_cons (pv 2) (pa_cons (pv 3) pa_nil))))))
      (pssr_one (psr_if (fun _ _ z => z) (pt_cmpR op_eq (pv 0) pe_int (nomark _)) (pssr_one (psr_expr (pr_call (fun _ _ z => z) LA hr rfl (pa_cons (pv 1) (pa_cons (pe_lst (pa_cons (pv 2) (pa_cons (pe_lst (pa_cons pe_int pa_nil)) pa_nil))) (pa_cons (pv 4) pa_nil))))))
      (pssr_one (psr_if (fun _ _ z => z) (pt_cmpR op_eq (pv 0) pe_int (nomark _)) (pssr_one (psr_expr (pr_call (fun _ _ z => z) TK hr rfl (pa_cons (pv 1) (pa_cons (pv 2) (pa_cons pe_int (pa_cons (pv 3) pa_nil)))))))
      (pssr_one (psr_if (fun _ _ z => z) (pt_cmpR op_eq (pv 0) pe_int (nomark _)) (pssr_one (psr_expr (pr_call (fun _ _ z => z) LA hr rfl (pa_cons (pv 1) (pa_cons (pe_lst pa_nil) (pa_cons (pv 4) pa_nil))))))
      (pssr_one (psr_if (fun _ _ z => z) (pt_cmpR op_eq (pv 0) pe_int (nomark _)) (pssr_one (psr_expr (pr_call (fun _ _ z => z) TK hr rfl (pa_cons (pv 1) (pa_cons (pv 2) (pa_cons (pe_op op_add (pe_callB (call_len_seqK K rfl) rfl hlen PySem.boot_len (pa_cons (pv 2) pa_nil)) pe_int) (pa_cons (pv 3) pa_nil)))))))
      (pssr_one (psr_if (fun _ _ z => z) (pt_cmpR op_eq (pv 0) pe_int (nomark _)) (pssr_one (psr_expr (pr_call (fun _ _ z => z) LA hr rfl (pa_cons (pv 1) (pa_cons (pe_lst (pa_cons (pv 2) (pa_cons (pe_lst (pa_cons (pv 1) pa_nil)) pa_nil))) (pa_cons (pv 4) pa_nil))))))
      (pssr_one (psr_expr (pr_call (fun _ _ z => z) TK hr rfl (pa_cons (pv 1) (pa_cons (pcall BE hr rfl (pa_cons (pv 1) (pa_cons (pv 2) pa_nil))) (pa_cons pe_int (pa_cons (pv 3) pa_nil)))))))))))))))))))))))))))
      rfl hSE sc_refuses.nd rfl rfl rfl
      (fun cls ea oe hG hcl => (pss_cons (ps_set (i := 6) sc_refuses.nd rfl (Or.inl rfl) (pe_lst (pa_cons (pe_callB (call_isinG K rfl (List.mem_cons_self ..) hcl hG) rfl hi bt_isin (pa_cons (pv 5) (pa_cons (pe_glob (v := .ref (c.of .prime)) rfl hNP rfl) pa_nil))) (pa_cons (pe_callB (call_isinG K rfl (List.mem_cons_self ..) hcl hG) rfl hi bt_isin (pa_cons (pv 5) (pa_cons (pe_glob (v := .ref (c.of .sign)) rfl hBS rfl) pa_nil))) (pa_cons (pe_callB (call_isinG K rfl (List.mem_cons_self ..) hcl hG) rfl hi bt_isin (pa_cons (pv 5) (pa_cons (pe_glob (v := .ref (c.of .length)) rfl hBL rfl) pa_nil))) pa_nil)))))
    (pss_cons (ps_set (i := 6) sc_refuses.nd rfl (Or.inl rfl) (pe_op op_cat (pv 6) (pe_lst (pa_cons (pe_callB (call_isinG K rfl (List.mem_cons_self ..) hcl hG) rfl hi bt_isin (pa_cons (pv 5) (pa_cons (pe_glob (v := .ref (c.of .mended)) rfl hNM rfl) pa_nil))) (pa_cons (pe_callB (call_isinG K rfl (List.mem_cons_self ..) hcl hG) rfl hi bt_isin (pa_cons (pv 5) (pa_cons (pe_glob (v := .ref NL) rfl hNL rfl) pa_nil))) pa_nil)))))
    (pss_one (ps_ret (pe_and (pe_callB (call_isinG K rfl (List.mem_cons_self ..) hcl hG) rfl hi bt_isin (pa_cons (pv 5) (pa_cons (pe_bltn (v := .ty "ValueError") (by exact rfl) (by exact hve) bt_ve (by exact rfl)) pa_nil))) (pe_one (pe_cmpR op_eq (pe_bmK K rfl PySem.F.plainAttrs_list PySem.F.slot_list_count PySem.F.type_list_count mt_count (pv 6) (pa_cons pe_bl pa_nil)) pe_int (nomark _))))))))))
    (pss_one (ps_ret pe_bl))), ?_⟩
  refine chain_ok (rest := [none, none]) hw hpr ha hl hp hos hn hL (fun z H' g => ?_) fun k z H' g => ?_
  · have q' := q H' g
    rw [z] at q'
    exact q'
  · have q' := fun H2 (g2 : Same H' H2) => q H2 (g.trans g2)
    rw [z] at q'
    refine ⟨⟨_, rfl, hc.lk k⟩, hc.st k, fun ea hea => ?_⟩
    refine ⟨_, rfl, .own _ _ rfl (hc.kit k .prime) ⟨_, rfl, .own _ _ rfl (hc.kit k .sign) ⟨_, rfl, .own _ _ rfl (hc.kit k .length) ⟨by show 3 ≤ sizeLine; decide, fun r1 h1 => ?_⟩⟩⟩⟩
    refine ⟨_, rfl, _, rfl, .own _ _ rfl (hc.kit k .mended) ⟨_, rfl, .own _ _ rfl (hc.nl k) ⟨by show 2 ≤ sizeLine; decide, fun r2 h2 => ?_⟩⟩⟩
    refine ⟨r1, r2, _, _, rfl, rfl, (same_new h2 _) _ _ upd_same, upd_same, by show 5 ≤ sizeLine; decide, fun r3 h3 => ?_⟩
    refine ⟨_, rfl, .typ _ _ rfl (hc.ve k) ⟨_, rfl, iteT ⟨_, rfl, .inl ⟨rfl, _, SqL.of upd_same⟩, r3, _, _, rfl, rfl, upd_same, rfl, by cases k <;> rfl, rfl, ?_⟩⟩⟩
    have e1 : ∀ k : Kd, decide (V.int ((([V.bl (decide (k = .prime)), V.bl (decide (k = .sign)), V.bl (decide (k = .length))] ++ [V.bl (decide (k = .mended)), V.bl false]).countP fun u => eqV u (.bl true) : Nat) : Int) = V.int 1) = true := by
      intro k; cases k <;> decide
    rw [e1 k]
    exact q' _ ((same_new h1 _).trans ((same_new h2 _).trans (same_new h3 _)))
end
end Sy
namespace Sy
open PySem PySem.Spec L2 L3
open PyProof.Rows hiding St
seal L2.PSs L2.PS L2.PE L2.PT L2.PW L2.PA L2.PG L2.PGs L2.PI L3.PIf L3.PSr L3.PSsr L3.PEr
theorem Ok.bd {p : Int} (h : Ok p) : Bd p := by
  have h1 := h.pos
  have h2 := h.2
  exact ⟨by (first | lia | omega), by (first | lia | omega)⟩
theorem bd_small {i : Int} (h1 : -1 ≤ i) (h2 : i ≤ 1000000000000) : Bd i := ⟨by (first | lia | omega), by (first | lia | omega)⟩
theorem BdL.app {a b : List (Option Int)} (ha : BdL a) (hb : BdL b) : BdL (a ++ b) := fun s hs => (List.mem_append.mp hs).elim (ha s) (hb s)
theorem BdL.one {i : Int} (h : Bd i) : BdL [some i] := fun s hs => by
  have : s = i := by simpa using hs
  rw [this]; exact h
theorem BdL.gap : BdL [none] := fun s hs => by simp at hs
theorem cut_restV {xs : List V} {n : Nat} (h : n ≤ xs.length) : cutV xs (some (n : Int)) none = xs.drop n := by
  unfold cutV
  rw [HT.sIx_none, HT.sIx_nat, Nat.min_eq_left h, List.take_of_length_le (by rw [List.length_drop]; exact Nat.le_refl _)]
theorem pick_odd {p : Int} (hp : Bd p) (c : Int) : ∃ o : Option Int, BdL [o] ∧ atI ([.int (-1), .non, .int p, .int 1000000000000, .non] : List V) (c % 5) = some (vo o) := by
  have hc : c % 5 = 0 ∨ c % 5 = 1 ∨ c % 5 = 2 ∨ c % 5 = 3 ∨ c % 5 = 4 := by (first | lia | omega)
  rcases hc with h | h | h | h | h
  · exact ⟨some (-1), BdL.one (bd_small (by decide) (by decide)), by rw [h]; rfl⟩
  · exact ⟨none, BdL.gap, by rw [h]; rfl⟩
  · exact ⟨some p, BdL.one hp, by rw [h]; rfl⟩
  · exact ⟨some 1000000000000, BdL.one (bd_small (by decide) (by decide)), by rw [h]; rfl⟩
  · exact ⟨none, BdL.gap, by rw [h]; rfl⟩
theorem pick_long {x : Int} (hx : Bd x) (c : Int) : ∃ l : Int, Bd l ∧ atI ([.int x, .int 0, .int (-1), .int 1000000000000] : List V) (c % 4) = some (.int l) := by
  have hc : c % 4 = 0 ∨ c % 4 = 1 ∨ c % 4 = 2 ∨ c % 4 = 3 := by (first | lia | omega)
  rcases hc with h | h | h | h
  · exact ⟨x, hx, by rw [h]; rfl⟩
  · exact ⟨0, bd_small (by decide) (by decide), by rw [h]; rfl⟩
  · exact ⟨-1, bd_small (by decide) (by decide), by rw [h]; rfl⟩
  · exact ⟨1000000000000, bd_small (by decide) (by decide), by rw [h]; rfl⟩
theorem pick_no (c : Int) : ∃ p : Int, NoPr p ∧ Bd p ∧ atI ([.int 1, .int 0, .int (-1), .int 4, .int 9, .int 91, .int 1000, .int 1009] : List V) (c % 8) = some (.int p) := by
  have hc : c % 8 = 0 ∨ c % 8 = 1 ∨ c % 8 = 2 ∨ c % 8 = 3 ∨ c % 8 = 4 ∨ c % 8 = 5 ∨ c % 8 = 6 ∨ c % 8 = 7 := by (first | lia | omega)
  rcases hc with h | h | h | h | h | h | h | h
  · exact ⟨1, .inl (by decide), bd_small (by decide) (by decide), by rw [h]; rfl⟩
  · exact ⟨0, .inl (by decide), bd_small (by decide) (by decide), by rw [h]; rfl⟩
  · exact ⟨-1, .inl (by decide), bd_small (by decide) (by decide), by rw [h]; rfl⟩
  · exact ⟨4, .inr (.inr ⟨2, by decide, by decide, by decide⟩), bd_small (by decide) (by decide), by rw [h]; rfl⟩
  · exact ⟨9, .inr (.inr ⟨3, by decide, by decide, by decide⟩), bd_small (by decide) (by decide), by rw [h]; rfl⟩
  · exact ⟨91, .inr (.inr ⟨7, by decide, by decide, by decide⟩), bd_small (by decide) (by decide), by rw [h]; rfl⟩
  · exact ⟨1000, .inr (.inr ⟨2, by decide, by decide, by decide⟩), bd_small (by decide) (by decide), by rw [h]; rfl⟩
  · exact ⟨1009, .inr (.inl (by decide)), bd_small (by decide) (by decide), by rw [h]; rfl⟩
/-- the word tells whether it was refused -/
theorem wd_done (o : Option Kd) : (!decide (V.str (wd o) = V.str "done")) = o.isSome := by
  cases o with
  | none => decide +kernel
  | some k => cases k <;> decide +kernel
def freeW (w : Nat) : List V := if w = 9 then [.str "sign", .str "mended"] else [.str "done", .str "mended"]
/-- the last test never strikes -/
theorem free_in {w : Nat} {o : Option Kd} {u : Str} (h : Fits w o u) (hne : wd o ≠ u) : u = Str.ofString "free" ∧ inV (.str (wd o)) (freeW w) = true := by
  rcases h with h | ⟨h, h'⟩
  · exact absurd h.symm hne
  · refine ⟨h, ?_⟩
    rcases h' with ⟨hw, h' | h'⟩ | ⟨hw, h' | h'⟩
    · unfold freeW; rw [if_neg hw, h']; decide +kernel
    · unfold freeW; rw [if_neg hw, h']; decide +kernel
    · unfold freeW; rw [if_pos hw, h']; decide +kernel
    · unfold freeW; rw [if_pos hw, h']; decide +kernel
theorem free_flat (w : Nat) : (freeW w).all flatV = true := by
  unfold freeW; split <;> decide
section
variable {P : Program} {w : World} {K : PySem.W.Frag} {mg : Str → Option Value} {base : Heap}
theorem sc_law : FnScope ["_law_script", "_law_prime", "_law_size", "_law_length", "_law_signs", "_law_way", "_law_seed", "_law_odd", "_law_spot", "_law_long", "_law_own", "_law_which", "_law_due", "_law_told", "_law_free"] ["_law_script"] (defScope (top 59)) := ⟨rfl, rfl, rfl, by decide +kernel, rfl, by decide +kernel, by decide +kernel⟩
inductive Jlaw0 (K : PySem.W.Frag) : St → Hp → Prop
  | mk {σ' : St} {H' : Hp} (w : Nat) (r4 : Addr) (p : Int) (pr : Bool) (os : List (Option Int)) (wy lg ow : Int) (u : Str) (o0 o2 o3 o6 o7 o8 o13 o14 : Option V) (z_0 : w ≤ 10) (z_1 : Fits w (saidO w pr p os ow lg) u) (z_2 : PrB p pr) (z_3 : Bd p) (z_4 : (pr = true ↔ ¬ (wy = 4 ∨ wy = 6))) (z_5 : H' r4 = some (.lst (os.map vo))) (z_6 : os.length ≤ 7) (z_7 : BdL os) (z_8 : Bd lg) (z_9 : Bd ow) (z_10 : σ' = [o0, some (.int p), o2, o3, some (.ref r4), some (.int wy), o6, o7, o8, some (.int lg), some (.int ow), some (.int (w : Int)), some (.str u), o13, o14]) : Jlaw0 K σ' H'
inductive Jlaw1 (K : PySem.W.Frag) : St → Hp → Prop
  | mk {σ' : St} {H' : Hp} (w : Nat) (r4 r14 : Addr) (p : Int) (pr : Bool) (os : List (Option Int)) (wy lg ow : Int) (u : Str) (o0 o2 o3 o6 o7 o8 : Option V) (z_0 : w ≤ 10) (z_1 : Fits w (saidO w pr p os ow lg) u) (z_2 : PrB p pr) (z_3 : Bd p) (z_4 : (pr = true ↔ ¬ (wy = 4 ∨ wy = 6))) (z_5 : H' r4 = some (.lst (os.map vo))) (z_6 : H' r14 = some (.lst (freeW w))) (z_7 : os.length ≤ 7) (z_8 : BdL os) (z_9 : Bd lg) (z_10 : Bd ow) (z_11 : σ' = [o0, some (.int p), o2, o3, some (.ref r4), some (.int wy), o6, o7, o8, some (.int lg), some (.int ow), some (.int (w : Int)), some (.str u), some (.str (wd (saidO w pr p os ow lg))), some (.ref r14)]) : Jlaw1 K σ' H'
inductive Jlaw2 (K : PySem.W.Frag) : St → Hp → Prop
  | mk {σ' : St} {H' : Hp} (a' : Addr) (ns' : List Int) (p : Int) (n L : Nat) (z_0 : Sizes p n L) (z_1 : IL K H' a' ns') (z_2 : σ' = [some (.ref a'), some (.int p), some (.int (n : Int)), some (.int (L : Int)), none, none, none, none, none, none, none, none, none, none, none]) : Jlaw2 K σ' H'
inductive Jlaw3 (K : PySem.W.Frag) : St → Hp → Prop
  | mk {σ' : St} {H' : Hp} (a' r4 : Addr) (p : Int) (n L : Nat) (os : List (Option Int)) (wy sd : Int) (o7 o8 : Option V) (z_0 : Sizes p n L) (z_1 : H' r4 = some (.lst (os.map vo))) (z_2 : os.length ≤ 7) (z_3 : BdL os) (z_4 : σ' = [some (.ref a'), some (.int p), some (.int (n : Int)), some (.int (L : Int)), some (.ref r4), some (.int wy), some (.int sd), o7, o8, none, none, none, none, none, none]) : Jlaw3 K σ' H'
inductive Jlaw4 (K : PySem.W.Frag) : St → Hp → Prop
  | mk {σ' : St} {H' : Hp} (a' r4 : Addr) (p : Int) (n L : Nat) (os : List (Option Int)) (wy sd : Int) (o7 o8 : Option V) (z_0 : Sizes p n L) (z_1 : H' r4 = some (.lst (os.map vo))) (z_2 : os.length ≤ 7) (z_3 : BdL os) (z_4 : σ' = [some (.ref a'), some (.int p), some (.int (n : Int)), some (.int (L : Int)), some (.ref r4), some (.int wy), some (.int sd), o7, o8, none, none, none, none, none, none]) : Jlaw4 K σ' H'
inductive Jlaw5 (K : PySem.W.Frag) : St → Hp → Prop
  | mk {σ' : St} {H' : Hp} (r4 : Addr) (p : Int) (os : List (Option Int)) (wy sd lg ow : Int) (o0 o2 o3 o7 o8 : Option V) (z_0 : Ok p) (z_1 : H' r4 = some (.lst (os.map vo))) (z_2 : os.length ≤ 7) (z_3 : BdL os) (z_4 : Bd lg) (z_5 : Bd ow) (z_6 : σ' = [o0, some (.int p), o2, o3, some (.ref r4), some (.int wy), some (.int sd), o7, o8, some (.int lg), some (.int ow), none, none, none, none]) : Jlaw5 K σ' H'
inductive Jlaw6 (K : PySem.W.Frag) : St → Hp → Prop
  | mk {σ' : St} {H' : Hp} (r4 : Addr) (p : Int) (pr : Bool) (os : List (Option Int)) (wy lg ow : Int) (o0 o2 o3 o6 o7 o8 o11 o12 o13 o14 : Option V) (z_0 : PrB p pr) (z_1 : Bd p) (z_2 : (pr = true ↔ ¬ (wy = 4 ∨ wy = 6))) (z_3 : H' r4 = some (.lst (os.map vo))) (z_4 : os.length ≤ 7) (z_5 : BdL os) (z_6 : Bd lg) (z_7 : Bd ow) (z_8 : σ' = [o0, some (.int p), o2, o3, some (.ref r4), some (.int wy), o6, o7, o8, some (.int lg), some (.int ow), o11, o12, o13, o14]) : Jlaw6 K σ' H'
set_option maxHeartbeats 4000000 in
theorem fn_law {fl : Addr} {fdl : FuncData} {c : Cls} (F : Fun K "law" "law" (top 59) fl fdl) (hlist : mg "list" = none) (hlen : mg "len" = none) (hrng : mg "range" = none)
    (AT : Has P w K mg base 1 "_law_at" ["_law_script", "_law_k"] (spAt K)) (SZ : Has P w K mg base 2 "_law_sizes" ["_law_script"] (spSizes K))
    (DU : Has P w K mg base 2 "_law_word_due" ["_law_which", "_law_prime", "_law_signs", "_law_own", "_law_long"] (spDue K))
    (SA : Has P w K mg base 21 "_law_said" ["_law_which", "_law_prime", "_law_signs", "_law_size", "_law_length"] (spSaid c)) (RF : Has P w K mg base 21 "_law_refuses" ["_law_which", "_law_prime", "_law_signs", "_law_size", "_law_length"] (spRefuses c)) : FnOk P w K mg base CX0 22 fl fdl ["_law_script"] (spLaw K) := by
  refine F.ok sc_law (fun vs H Q E h => by obtain ⟨a, ns, rfl, _⟩ := h; rfl) fun cdv A outer s H vs Q E hr h => ?_
  obtain ⟨a, ns, rfl, ha, hn63, q⟩ := h
  refine ⟨_, (pss_cons (ps_set (i := 0) sc_law.nd rfl (Or.inr rfl) (pe_slice (sl_listK K rfl) (pv 0) po_none (po_some pe_int)))
    (pss_cut (Jlaw2 K)
      (ps_asg (pcall SZ hr rfl (pa_cons (pv 0) pa_nil)) (pg_tupK K rfl rfl (pgs_cons (pg_name (i := 1) sc_law.nd rfl (Or.inr rfl)) (pgs_cons (pg_name (i := 2) sc_law.nd rfl (Or.inl rfl)) (pgs_cons (pg_name (i := 3) sc_law.nd rfl (Or.inl rfl)) pgs_nil)))))
    (pss_cons (ps_setComp (i := 4) (N' := ["_law_k", "_law_script", "_law_prime"]) (ix := [none, some 0, some 1]) sc_law.nd rfl rfl rfl
      ⟨rfl, by decide +kernel, by decide +kernel, by with_unfolding_all rfl, by exact ⟨rfl, rfl, trivial⟩, by exact ⟨⟨_, rfl⟩, ⟨_, rfl⟩, trivial⟩, by exact ⟨⟨rfl, rfl, rfl⟩, ⟨rfl, rfl, rfl⟩, trivial⟩⟩
      (pi_range1 rfl hrng (pa_cons (pv 2) pa_nil))
      fun C ex pn s H => ⟨pg_name (i := 0) (show (["_law_k", "_law_script", "_law_prime"] : List Str).Nodup by decide +kernel) rfl (Or.inl rfl), pif_nil, pe_op op_mod (pcall AT hr rfl (pa_cons (pv 1) (pa_cons (pe_op op_add pe_int (pv 0)) pa_nil))) (pv 2)⟩)
    (pss_cons (ps_set (i := 5) sc_law.nd rfl (Or.inl rfl) (pe_op op_mod (pcall AT hr rfl (pa_cons (pv 0) (pa_cons pe_int pa_nil))) pe_int))
    (pss_cons (ps_set (i := 6) sc_law.nd rfl (Or.inl rfl) (pcall AT hr rfl (pa_cons (pv 0) (pa_cons pe_int pa_nil))))
    (pss_cons (ps_set (i := 7) sc_law.nd rfl (Or.inl rfl) (pe_ix (ix_listK K rfl) (pe_lst (pa_cons (pe_un un_neg pe_int) (pa_cons pe_non (pa_cons (pv 1) (pa_cons pe_int (pa_cons pe_non pa_nil)))))) (pe_op op_mod (pcall AT hr rfl (pa_cons (pv 0) (pa_cons pe_int pa_nil))) pe_int) (fun _ _ => rfl)))
    (pss_cut (Jlaw3 K)
      (ps_if (pt_cmpR (op_inK K rfl) (pv 5) (pe_lst (pa_cons pe_int (pa_cons pe_int (pa_cons pe_int pa_nil)))) rfl) (pss_cons (ps_set (i := 8) sc_law.nd rfl (Or.inl rfl) (pe_op op_mod (pv 6) (pe_op op_add (pe_callB (call_len_seqK K rfl) rfl hlen PySem.boot_len (pa_cons (pv 4) pa_nil)) pe_int)))
    (pss_one (ps_set (i := 4) sc_law.nd rfl (Or.inl rfl) (pe_op op_cat (pe_op op_cat (pe_slice (sl_listK K rfl) (pv 4) po_none (po_some (pv 8))) (pe_lst (pa_cons (pv 7) pa_nil))) (pe_slice (sl_listK K rfl) (pv 4) (po_some (pv 8)) po_none))))) pss_nil)
    (pss_cut (Jlaw4 K)
      (ps_if (pt_cmpR op_eq (pv 5) pe_int (nomark _)) (pss_one (ps_set (i := 4) sc_law.nd rfl (Or.inl rfl) (pe_lst pa_nil))) pss_nil)
    (pss_cons (ps_set (i := 9) sc_law.nd rfl (Or.inl rfl) (pv 3))
    (pss_cons (ps_set (i := 10) sc_law.nd rfl (Or.inl rfl) (pv 2))
    (pss_cut (Jlaw5 K)
      (ps_if (pt_cmpR (op_inK K rfl) (pv 5) (pe_lst (pa_cons pe_int (pa_cons pe_int pa_nil))) rfl) (pss_cons (ps_set (i := 9) sc_law.nd rfl (Or.inl rfl) (pe_ix (ix_listK K rfl) (pe_lst (pa_cons (pe_op op_add (pv 1) pe_int) (pa_cons pe_int (pa_cons (pe_un un_neg pe_int) (pa_cons pe_int pa_nil))))) (pe_op op_mod (pv 6) pe_int) (fun _ _ => rfl)))
    (pss_one (ps_set (i := 10) sc_law.nd rfl (Or.inl rfl) (pe_ix (ix_listK K rfl) (pe_lst (pa_cons (pe_op op_add (pe_callB (call_len_seqK K rfl) rfl hlen PySem.boot_len (pa_cons (pv 4) pa_nil)) pe_int) (pa_cons pe_int (pa_cons (pe_un un_neg pe_int) (pa_cons pe_int pa_nil))))) (pe_op op_mod (pv 6) pe_int) (fun _ _ => rfl))))) pss_nil)
    (pss_cut (Jlaw6 K)
      (ps_if (pt_cmpR (op_inK K rfl) (pv 5) (pe_lst (pa_cons pe_int (pa_cons pe_int pa_nil))) rfl)
        (pss_one (ps_set (i := 1) sc_law.nd rfl (Or.inr rfl) (pe_ix (ix_listK K rfl) (pe_lst (pa_cons pe_int (pa_cons pe_int (pa_cons (pe_un un_neg pe_int) (pa_cons pe_int (pa_cons pe_int (pa_cons pe_int (pa_cons pe_int (pa_cons pe_int pa_nil))))))))) (pe_op op_mod (pv 6) pe_int) (fun _ _ => rfl)))) pss_nil)
    (pss_cons (ps_for PassesOwn.never rfl (pi_range1 rfl hrng (pa_cons pe_int pa_nil)) (pg_name (i := 11) sc_law.nd rfl (Or.inl rfl)) (pss_cons (ps_set (i := 12) sc_law.nd rfl (Or.inl rfl) (pcall DU hr rfl (pa_cons (pv 11) (pa_cons (pv 1) (pa_cons (pv 4) (pa_cons (pv 10) (pa_cons (pv 9) pa_nil)))))))
    (pss_cut (Jlaw0 K)
      (ps_if (pt_cmpR (op_inK K rfl) (pv 5) (pe_lst (pa_cons pe_int (pa_cons pe_int pa_nil))) rfl) (pss_one (ps_set (i := 12) sc_law.nd rfl (Or.inl rfl) pe_str)) pss_nil)
    (pss_cons (ps_set (i := 13) sc_law.nd rfl (Or.inl rfl) (pcall SA hr rfl (pa_cons (pv 11) (pa_cons (pv 1) (pa_cons (pe_callTy (call_list_ofK K rfl) rfl hlist bt_list (pa_cons (pv 4) pa_nil)) (pa_cons (pv 10) (pa_cons (pv 9) pa_nil)))))))
    (pss_cons (ps_if (pt_cmpR op_ne (pcall RF hr rfl (pa_cons (pv 11) (pa_cons (pv 1) (pa_cons (pe_callTy (call_list_ofK K rfl) rfl hlist bt_list (pa_cons (pv 4) pa_nil)) (pa_cons (pv 10) (pa_cons (pv 9) pa_nil)))))) (pe_cmpR op_ne (pv 13) pe_str (nomark _)) (nomark _)) pss_never pss_nil)
    (pss_cons (ps_set (i := 14) sc_law.nd rfl (Or.inl rfl) (pe_lst (pa_cons pe_str (pa_cons pe_str pa_nil))))
    (pss_cut (Jlaw1 K)
      (ps_if (pt_cmpR op_eq (pv 11) pe_int (nomark _)) (pss_one (ps_set (i := 14) sc_law.nd rfl (Or.inl rfl) (pe_lst (pa_cons pe_str (pa_cons pe_str pa_nil))))) pss_nil)
    (pss_one (ps_if (ptw (pw_and (pt_cmpR op_ne (pv 13) (pv 12) (nomark _)) (pw_and1 (ptw (pw_or (pt_cmpR op_ne (pv 12) pe_str (nomark _)) (pw_or1 (pt_cmpR (op_notInK K rfl) (pv 13) (pv 14) rfl))))))) pss_never pss_nil)))))))))
    (pss_one (ps_ret pe_bl))))))))))))))), ?_⟩
  have hz : ∀ l : List Int, (l.map V.int).length = l.length := fun l => List.length_map ..
  have hzo : ∀ l : List (Option Int), (l.map vo).length = l.length := fun l => List.length_map ..
  refine ⟨_, rfl, 500, rfl, a, _, rfl, ha, fun r0 h0 => ?_⟩
  rw [show (500 : Int) = ((500 : Nat) : Int) from rfl, cut_all (n := 500) (by rw [hz]; (first | lia | omega))]
  refine ⟨⟨_, rfl, r0, ns, rfl, SqL.of upd_same, hn63, fun p n L t H1 g1 z e1 => ?_⟩, ?_⟩
  · exact ⟨t, _, rfl, SqT.of e1, rfl, _, _, rfl, _, _, rfl, _, _, rfl, rfl, r0, ns, p, n, L, z, SqL.of (g1 _ _ upd_same), rfl⟩
  clear h0 r0
  rintro σ1 H1 ⟨a1, ns1, p, n, L, z, ha1, rfl⟩
  have hp := z.ok.pos
  have hpm := z.ok.2
  have n6 := z.n6
  refine ⟨_, rfl, (n : Int), rfl, by (first | lia | omega), by (first | lia | omega), ?_⟩
  rw [Int.toNat_natCast]
  refine comp_range (fun i ys H' => H' = H1 ∧ ∃ os : List (Option Int), ys = os.map vo ∧ os.length = i ∧ BdL os) ⟨rfl, [], rfl, rfl, fun s hs => by simp at hs⟩ ?_ ?_
  · rintro i ys H' hi ⟨rfl, os, rfl, hol, hob⟩
    refine ⟨small (by rw [hzo]; (first | lia | omega)), ⟨rfl, rfl, trivial⟩, ⟨_, rfl, _, rfl, _, _, rfl, rfl, a1, _, ns1, rfl, ha1, by (first | lia | omega), fun v => ⟨_, rfl, _, _, rfl, rfl, hp, rfl, os ++ [some (v % p)], by rw [List.map_append]; rfl, by simp [hol], hob.app (BdL.one ?_)⟩⟩⟩
    have m := md (a := v) hp
    exact bd_small (by (first | lia | omega)) (by (first | lia | omega))
  rintro ys H2 ⟨rfl, os, rfl, hol, hob⟩
  refine ⟨small (by rw [hzo]; (first | lia | omega)), fun r4 h4 => ?_⟩
  have ha2 := (same_new h4 (.lst (os.map vo))).seq ha1
  have e4 : (upd H2 r4 (.lst (os.map vo))) r4 = some (.lst (os.map vo)) := upd_same
  generalize upd H2 r4 (.lst (os.map vo)) = H3 at ha2 e4 ⊢
  refine ⟨_, rfl, a1, 3, ns1, rfl, ha2, by decide, fun v1 => ⟨_, _, rfl, rfl, (show (0 : Int) < 8 by decide), ?_⟩⟩
  refine ⟨_, rfl, a1, 4, ns1, rfl, ha2, by decide, fun sd => ?_⟩
  refine ⟨_, rfl, _, rfl, by show 5 ≤ sizeLine; decide, fun r5 h5 => ?_⟩
  have g5 := same_new h5 (.lst [.int (-1), .non, .int p, .int 1000000000000, .non])
  refine ⟨_, rfl, a1, 5, ns1, rfl, g5.seq ha2, by decide, fun v2 => ⟨_, _, rfl, rfl, (show (0 : Int) < 5 by decide), ?_⟩⟩
  obtain ⟨o, hob2, hat⟩ := pick_odd z.ok.bd v2
  refine ⟨r5, _, _, _, rfl, rfl, SqL.of upd_same, hat, ?_⟩
  have e5 := g5 _ _ e4
  generalize upd H3 r5 (.lst [.int (-1), .non, .int p, .int 1000000000000, .non]) = H4 at e5 ⊢
  generalize v1 % 8 = wy
  clear hat h5 g5 e4 ha2 h4 ha1
  refine ⟨?_, ?_⟩
  · refine if_by (A := wy = 1 ∨ wy = 5 ∨ wy = 6) (fun Q q => ⟨_, rfl, by show 3 ≤ sizeLine; decide, fun r h => ⟨r, _, rfl, .inl (SqL.of upd_same), rfl, rfl, _, rfl, q _ _ (same_new h _) ?_⟩⟩) (fun _ H5 g6 => ?_) fun _ H5 g6 => ?_
    · exact (in_num wy [1, 5, 6]).trans (by simp)
    · have e6 := g6 _ _ e5
      have hm : (0 : Int) < ((os.map vo).length : Int) + 1 := by (first | lia | omega)
      refine ⟨_, rfl, _, rfl, r4, _, rfl, .inl (SqL.of e6), _, _, rfl, rfl, _, _, rfl, rfl, hm, ?_⟩
      obtain ⟨k, ek⟩ : ∃ k : Nat, sd % (((os.map vo).length : Int) + 1) = (k : Int) := ⟨(sd % (((os.map vo).length : Int) + 1)).toNat, by have := md (a := sd) hm; (first | lia | omega)⟩
      have hk : k ≤ os.length := by
        have := md (a := sd) hm
        rw [hzo] at this ek
        (first | lia | omega)
      dsimp only
      rw [ek]
      refine ⟨_, rfl, _, rfl, (k : Int), rfl, r4, _, rfl, SqL.of e6, fun r11 h11 => ?_⟩
      rw [cut_take (by rw [hzo]; exact hk), ← List.map_take]
      have g9 := same_new h11 (.lst ((os.take k).map vo))
      have e11 : (upd H5 r11 (.lst ((os.take k).map vo))) r11 = some (.lst ((os.take k).map vo)) := upd_same
      have f39 := g9 _ _ e6
      generalize upd H5 r11 (.lst ((os.take k).map vo)) = H9 at g9 e11 f39 ⊢
      refine ⟨_, rfl, by show 1 ≤ sizeLine; decide, fun r12 h12 => ?_⟩
      have g10 := same_new h12 (.lst [vo o])
      have e12 : (upd H9 r12 (.lst [vo o])) r12 = some (.lst [vo o]) := upd_same
      have e11' := g10 _ _ e11
      have f310 := g10 _ _ f39
      generalize upd H9 r12 (.lst [vo o]) = H10 at e12 e11' f310 ⊢
      have l1 : ((os.take k).map vo).length ≤ 6 := by rw [hzo, List.length_take]; (first | lia | omega)
      have l2 : ((os.drop k).map vo).length ≤ 6 := by rw [hzo, List.length_drop]; (first | lia | omega)
      refine ⟨r11, r12, _, _, rfl, rfl, e11', e12, Nat.le_trans (show _ ≤ 64 by show _ + 1 ≤ 64; (first | lia | omega)) (by decide), fun r13 h13 => ?_⟩
      have g11 := same_new h13 (.lst ((os.take k).map vo ++ [vo o]))
      have e13 : (upd H10 r13 (.lst ((os.take k).map vo ++ [vo o]))) r13 = some (.lst ((os.take k).map vo ++ [vo o])) := upd_same
      have f311 := g11 _ _ f310
      generalize upd H10 r13 (.lst ((os.take k).map vo ++ [vo o])) = H11 at e13 f311 ⊢
      refine ⟨_, rfl, _, rfl, (k : Int), rfl, r4, _, rfl, SqL.of f311, fun r14 h14 => ?_⟩
      rw [cut_restV (by rw [hzo]; exact hk), ← List.map_drop]
      have g12 := same_new h14 (.lst ((os.drop k).map vo))
      have e14 : (upd H11 r14 (.lst ((os.drop k).map vo))) r14 = some (.lst ((os.drop k).map vo)) := upd_same
      have e13' := g12 _ _ e13
      generalize upd H11 r14 (.lst ((os.drop k).map vo)) = H12 at e14 e13' ⊢
      refine ⟨r13, r14, _, _, rfl, rfl, e13', e14, Nat.le_trans (show _ ≤ 127 by rw [List.length_append]; show _ + 1 + _ ≤ 127; (first | lia | omega)) (by decide), fun r15 h15 => ?_⟩
      refine ⟨a1, r15, p, n, L, os.take k ++ [o] ++ os.drop k, wy, sd, _, _, z, by rw [upd_same, List.map_append, List.map_append]; rfl, ?_, ?_, rfl⟩
      · rw [List.length_append, List.length_append, List.length_take, List.length_drop]
        show _ + 1 + _ ≤ 7
        (first | lia | omega)
      · exact (BdL.app (fun s hs => hob s (List.mem_of_mem_take hs)) hob2).app fun s hs => hob s (List.mem_of_mem_drop hs)
    · exact ⟨a1, r4, p, n, L, os, wy, sd, _, _, z, g6 _ _ e5, by (first | lia | omega), hob, rfl⟩
  clear e5 H4 wy hob2 o v2 sd v1 H3 r4 hob hol os H2 n6 hpm hp z L n p ns1 a1
  rintro σ2 H2 ⟨a1, r4, p, n, L, os, wy, sd, o7, o8, z, e4, hol, hob, rfl⟩
  refine ⟨?_, ?_⟩
  · refine ⟨_, rfl, rfl, _, rfl, ?_⟩
    by_cases h2 : wy = 2
    · exact ite_yes (congrArg V.int h2) ⟨by show 0 ≤ sizeLine; decide, fun r h => ⟨a1, r, p, n, L, [], wy, sd, _, _, z, upd_same, Nat.zero_le _, fun s hs => absurd hs (by simp), rfl⟩⟩
    · exact ite_no (fun e => h2 (by injection e)) ⟨a1, r4, p, n, L, os, wy, sd, _, _, z, e4, hol, hob, rfl⟩
  clear e4 hob hol z o8 o7 sd wy os L n p r4 a1 H2
  rintro σ2 H2 ⟨a1, r4, p, n, L, os, wy, sd, o7, o8, z, e4, hol, hob, rfl⟩
  have hp := z.ok.pos
  have hpm := z.ok.2
  have n6 := z.n6
  have Lp := z.Lp
  refine ⟨_, rfl, _, rfl, ?_⟩
  refine ⟨?_, ?_⟩
  · refine if_by (A := wy = 3 ∨ wy = 5) (fun Q q => ⟨_, rfl, by show 2 ≤ sizeLine; decide, fun r h => ⟨r, _, rfl, .inl (SqL.of upd_same), rfl, rfl, _, rfl, q _ _ (same_new h _) ?_⟩⟩) (fun _ H5 g6 => ?_) fun _ H5 g6 => ?_
    · exact (in_num wy [3, 5]).trans (by simp)
    · have e6 := g6 _ _ e4
      refine ⟨_, rfl, _, _, rfl, rfl, _, rfl, by show 4 ≤ sizeLine; decide, fun r1 h1 => ?_⟩
      obtain ⟨lg, hlg, hat⟩ := pick_long (x := p + 1) (bd_small (by (first | lia | omega)) (by (first | lia | omega))) sd
      refine ⟨_, rfl, _, _, rfl, rfl, (show (0 : Int) < 4 by decide), r1, _, _, _, rfl, rfl, SqL.of upd_same, hat, ?_⟩
      have e7 := (same_new h1 (.lst [.int (p + 1), .int 0, .int (-1), .int 1000000000000])) _ _ e6
      generalize upd H5 r1 (.lst [.int (p + 1), .int 0, .int (-1), .int 1000000000000]) = H6 at e7 ⊢
      obtain ⟨ow, how, hat2⟩ := pick_long (x := ((os.map vo).length : Int) + 1) (bd_small (by (first | lia | omega)) (by rw [hzo]; (first | lia | omega))) sd
      refine ⟨_, rfl, r4, _, rfl, .inl (SqL.of e7), _, _, rfl, rfl, _, rfl, by show 4 ≤ sizeLine; decide, fun r2 h2 => ?_⟩
      refine ⟨_, rfl, _, _, rfl, rfl, (show (0 : Int) < 4 by decide), r2, _, _, _, rfl, rfl, SqL.of upd_same, hat2, ?_⟩
      exact ⟨r4, p, os, wy, sd, lg, ow, _, _, _, _, _, z.ok, (same_new h2 _) _ _ e7, hol, hob, hlg, how, rfl⟩
    · exact ⟨r4, p, os, wy, sd, (L : Int), (n : Int), _, _, _, _, _, z.ok, g6 _ _ e4, hol, hob, bd_small (by (first | lia | omega)) (by (first | lia | omega)), bd_small (by (first | lia | omega)) (by (first | lia | omega)), rfl⟩
  clear e4 hob hol Lp n6 hpm hp z o8 o7 sd wy os L n p r4 a1 H2
  rintro σ2 H2 ⟨r4, p, os, wy, sd, lg, ow, o0, o2, o3, o7, o8, ok, e4, hol, hob, hlg, how, rfl⟩
  refine ⟨?_, ?_⟩
  · refine if_by (A := wy = 4 ∨ wy = 6) (fun Q q => ⟨_, rfl, by show 2 ≤ sizeLine; decide, fun r h => ⟨r, _, rfl, .inl (SqL.of upd_same), rfl, rfl, _, rfl, q _ _ (same_new h _) ?_⟩⟩) (fun hw H5 g6 => ?_) fun hw H5 g6 => ?_
    · exact (in_num wy [4, 6]).trans (by simp)
    · obtain ⟨p', hno, hbp, hat⟩ := pick_no sd
      refine ⟨_, rfl, by show 8 ≤ sizeLine; decide, fun r1 h1 => ⟨_, rfl, _, _, rfl, rfl, (show (0 : Int) < 8 by decide), r1, _, _, _, rfl, rfl, SqL.of upd_same, hat, ?_⟩⟩
      exact ⟨r4, p', false, os, wy, lg, ow, _, _, _, _, _, _, _, _, _, _, ⟨fun z => (Bool.false_ne_true z).elim, fun _ => hno⟩, hbp, ⟨fun z => (Bool.false_ne_true z).elim, fun z => absurd hw z⟩, (same_new h1 _) _ _ (g6 _ _ e4), hol, hob, hlg, how, rfl⟩
    · exact ⟨r4, p, true, os, wy, lg, ow, _, _, _, _, _, _, _, _, _, _, ⟨fun _ => ok, fun z => (Bool.false_ne_true z.symm).elim⟩, ok.bd, ⟨fun _ => hw, fun _ => rfl⟩, g6 _ _ e4, hol, hob, hlg, how, rfl⟩
  clear how hlg hob hol e4 ok o8 o7 o3 o2 o0 ow lg sd wy os p r4 H2
  rintro σ2 H2 J2
  refine ⟨11, rfl, by decide, by decide, ?_⟩
  refine for_range (fun i σ H' => Jlaw6 K σ H') J2 ?_ ?_
  · rintro i σ H3 hi ⟨r4, p, pr, os, wy, lg, ow, o0, o2, o3, o6, o7, o8, o11, o12, o13, o14, hpr, hbp, hway, e4, hol, hob, hlg, how, rfl⟩
    have hi11 : i < 11 := hi
    refine ⟨_, rfl, _, rfl, _, rfl, _, rfl, _, rfl, i, p, r4, os, ow, lg, pr, (by rw [Int.zero_add]; rfl), by (first | lia | omega), hpr, SqL.of e4, by (first | lia | omega), fun u H4 g4 hu => ?_⟩
    have e5 := g4 _ _ e4
    refine ⟨?_, ?_⟩
    · refine if_by (A := wy = 4 ∨ wy = 6) (fun Q q => ⟨_, rfl, by show 2 ≤ sizeLine; decide, fun r h => ⟨r, _, rfl, .inl (SqL.of upd_same), rfl, rfl, _, rfl, q _ _ (same_new h _) ?_⟩⟩) (fun hw H5 g6 => ?_) fun hw H5 g6 => ?_
      · exact (in_num wy [4, 6]).trans (by simp)
      · have epr : pr = false := by
          cases pr with
          | false => rfl
          | true => exact absurd hw (hway.mp rfl)
        refine ⟨i, r4, p, pr, os, wy, lg, ow, _, _, _, _, _, _, _, _, _, by (first | lia | omega), .inl ?_, hpr, hbp, hway, g6 _ _ e5, hol, hob, hlg, how, by rw [Int.zero_add]; rfl⟩
        rw [epr, said_prime]
        rfl
      · exact ⟨i, r4, p, pr, os, wy, lg, ow, u, _, _, _, _, _, _, _, _, by (first | lia | omega), hu (hway.mpr hw), hpr, hbp, hway, g6 _ _ e5, hol, hob, hlg, how, by rw [Int.zero_add]; rfl⟩
    clear e5 hu g4 u H4 hi11 how hlg hob hol e4 hway hbp hpr o14 o13 o12 o11 o8 o7 o6 o3 o2 o0 ow lg wy os pr p r4 hi H3 i
    rintro σ3 H3 ⟨w, r4, p, pr, os, wy, lg, ow, u, o0, o2, o3, o6, o7, o8, o13, o14, hw, hu, hpr, hbp, hway, e4, hol, hob, hlg, how, rfl⟩
    refine ⟨_, rfl, _, rfl, _, rfl, r4, _, rfl, .inl (SqL.of e4), fun r1 h1 => ⟨_, rfl, _, rfl, w, p, r1, os, ow, lg, pr, rfl, hw, hpr, upd_same, by (first | lia | omega), hbp, hob, how, hlg, fun H4 g4 => ?_⟩⟩
    have G4 := (same_new h1 (.lst (os.map vo))).trans g4
    have e5 := G4 _ _ e4
    refine ⟨_, rfl, _, rfl, _, rfl, r4, _, rfl, .inl (SqL.of e5), fun r2 h2 => ⟨_, rfl, _, rfl, w, p, r2, os, ow, lg, pr, rfl, hw, hpr, upd_same, by (first | lia | omega), hbp, hob, how, hlg, fun H5 g5 => ?_⟩⟩
    have G5 := (same_new h2 (.lst (os.map vo))).trans g5
    have e6 := G5 _ _ e5
    refine ⟨_, rfl, rfl, rfl, ?_⟩
    rw [wd_done]
    refine ⟨_, rfl, iteNS rfl ?_⟩
    refine ⟨by show 2 ≤ sizeLine; decide, fun r3 h3 => ?_⟩
    have g7 := same_new h3 (.lst [.str "done", .str "mended"])
    have e7 := g7 _ _ e6
    have f7 : (upd H5 r3 (.lst [.str "done", .str "mended"])) r3 = some (.lst [.str "done", .str "mended"]) := upd_same
    generalize upd H5 r3 (.lst [.str "done", .str "mended"]) = H6 at g7 e7 f7 ⊢
    refine ⟨?_, ?_⟩
    · refine ⟨_, rfl, rfl, _, rfl, ?_⟩
      by_cases h9 : w = 9
      · refine ite_yes (congrArg V.int (by (first | lia | omega))) ⟨by show 2 ≤ sizeLine; decide, fun r5 h5 => ?_⟩
        exact ⟨w, r4, r5, p, pr, os, wy, lg, ow, u, _, _, _, _, _, _, hw, hu, hpr, hbp, hway, (same_new h5 _) _ _ e7, by rw [upd_same]; unfold freeW; rw [if_pos h9], hol, hob, hlg, how, rfl⟩
      · refine ite_no (fun e => h9 (by injection e; (first | lia | omega))) ?_
        exact ⟨w, r4, r3, p, pr, os, wy, lg, ow, u, _, _, _, _, _, _, hw, hu, hpr, hbp, hway, e7, by rw [f7]; unfold freeW; rw [if_neg h9], hol, hob, hlg, how, rfl⟩
    clear f7 e7 g7 h3 r3 H6 e6 G5 g5 H5 h2 r2 e5 G4 g4 H4 h1 r1 how hlg hob hol e4 hway hbp hpr hu hw o14 o13 o8 o7 o6 o3 o2 o0 u ow lg wy os pr p r4 w H3
    rintro σ4 H4 ⟨w, r4, r14, p, pr, os, wy, lg, ow, u, o0, o2, o3, o6, o7, o8, hw, hu, hpr, hbp, hway, e4, e14, hol, hob, hlg, how, rfl⟩
    have fin : ∀ H5, Same H4 H5 → Jlaw6 K [o0, some (.int p), o2, o3, some (.ref r4), some (.int wy), o6, o7, o8, some (.int lg), some (.int ow), some (.int (w : Int)), some (.str u), some (.str (wd (saidO w pr p os ow lg))), some (.ref r14)] H5 :=
      fun H5 g => ⟨r4, p, pr, os, wy, lg, ow, _, _, _, _, _, _, _, _, _, _, hpr, hbp, hway, g _ _ e4, hol, hob, hlg, how, rfl⟩
    refine ⟨_, rfl, _, rfl, rfl, _, rfl, ?_⟩
    by_cases hd : wd (saidO w pr p os ow lg) = u
    · exact iteNS (congrArg V.str hd) (iteF (fin _ (Same.refl _)))
    obtain ⟨hf, hin⟩ := free_in hu hd
    refine ite_not (fun _ => ?_) (fun e => absurd (by injection e) hd)
    refine ⟨_, rfl, rfl, _, rfl, iteNS (congrArg V.str hf) ?_⟩
    refine ⟨_, rfl, _, rfl, r14, _, rfl, .inl (SqL.of e14), rfl, free_flat w, _, rfl, ?_⟩
    rw [hin]
    exact iteF (fin _ (Same.refl _))
  · rintro σ H3 _
    exact q _
end
end Sy
namespace Sy
open PySem PySem.Spec L2 L3
open PyProof.Rows hiding St
/-- one class, by looks that are answered one by one -/
structure ClsF (K : PySem.W.Frag) (C SE NL : Addr) : Prop where
  ga : PySem.W.findIn K (.ref C) "__getattribute__" = some (some (.builtin "BaseException.__getattribute__"))
  no : PySem.W.findIn K (.ref C) "__getattr__" = some none
  cl : PySem.W.findIn K (.ref C) "__class__" = some (some (.builtin "object.__class__"))
  ob : PySem.W.mroIn K C (.type "object") = some true
  be : PySem.W.mroIn K C (.type "BaseException") = some true
  is : PySem.W.isClsIn K C = true
  ty : PySem.W.typeIn K (.ref C) = some (.type "type")
  se : PySem.W.mroIn K C (.ref SE) = some true
  nl : PySem.W.mroIn K C (.ref NL) = some false
  ve : PySem.W.mroIn K C (.type "ValueError") = some true
/-- .. and what they share -/
structure ClsS (K : PySem.W.Frag) (SE NL : Addr) : Prop where
  get : PySem.W.specialIn K (.builtin "object.__class__") "__get__" = some (some (.builtin "getset_descriptor.__get__"))
  set : PySem.W.takesIn K (.builtin "object.__class__") = some true
  seI : PySem.W.isClsIn K SE = true
  seT : PySem.W.typeIn K (.ref SE) = some (.type "type")
  seB : PySem.W.mroIn K SE (.type "BaseException") = some true
  nlI : PySem.W.isClsIn K NL = true
  nlT : PySem.W.typeIn K (.ref NL) = some (.type "type")
/-- none of them is another's kind -/
structure ClsM (K : PySem.W.Frag) (a b d e : Addr) : Prop where
  aa : PySem.W.mroIn K a (.ref a) = some true
  ab : PySem.W.mroIn K a (.ref b) = some false
  ad : PySem.W.mroIn K a (.ref d) = some false
  ae : PySem.W.mroIn K a (.ref e) = some false
  ba : PySem.W.mroIn K b (.ref a) = some false
  bb : PySem.W.mroIn K b (.ref b) = some true
  bd : PySem.W.mroIn K b (.ref d) = some false
  be : PySem.W.mroIn K b (.ref e) = some false
  da : PySem.W.mroIn K d (.ref a) = some false
  db : PySem.W.mroIn K d (.ref b) = some false
  dd : PySem.W.mroIn K d (.ref d) = some true
  de : PySem.W.mroIn K d (.ref e) = some false
  ea : PySem.W.mroIn K e (.ref a) = some false
  eb : PySem.W.mroIn K e (.ref b) = some false
  ed : PySem.W.mroIn K e (.ref d) = some false
  ee : PySem.W.mroIn K e (.ref e) = some true
theorem kitMeta_ve : PySem.W.kitMeta "ValueError" = true := by decide +kernel
theorem beq_self (v : Value) : (v == v) = true := beq_iff_eq.mpr rfl
theorem beq_no {v u : Value} (h : v ≠ u) : (v == u) = false := beq_eq_false_iff_ne.mpr h
section
variable {K : PySem.W.Frag} {C D : Addr} {b : Bool}
theorem kitCls_of (is : PySem.W.isClsIn K D = true) (ty : PySem.W.typeIn K (.ref D) = some (.type "type")) (h : PySem.W.mroIn K C (.ref D) = some b) : PySem.W.kitCls K (.ref C) (.ref D) = some b := by
  show (if ((PySem.W.clsIn K D).isSome && PySem.W.typeIn K (.ref D) == some (.type "type")) = true then PySem.W.mroIn K C (.ref D) else none) = some b
  rw [show (PySem.W.clsIn K D).isSome = true from is, ty, h]
  exact if_pos (by rw [Bool.true_and]; exact beq_iff_eq.mpr rfl)
theorem exm_of (is : PySem.W.isClsIn K D = true) (ty : PySem.W.typeIn K (.ref D) = some (.type "type")) (be : PySem.W.mroIn K D (.type "BaseException") = some true) (h : PySem.W.mroIn K C (.ref D) = some b) : PySem.W.exmOne K (.ref C) (.ref D) = some b := by
  show (if (PySem.W.mroIn K D (.type "BaseException") == some true) = true then PySem.W.kitCls K (.ref C) (.ref D) else none) = some b
  rw [be, kitCls_of is ty h]
  exact if_pos rfl
theorem kit_of (is : PySem.W.isClsIn K D = true) (ty : PySem.W.typeIn K (.ref D) = some (.type "type")) (h : PySem.W.mroIn K C (.ref D) = some b) (hb : C = D → b = true) : PySem.W.kitOne K (.ref C) (.ref D) = some b := by
  unfold PySem.W.kitOne
  by_cases e : C = D
  · subst e
    rw [beq_self, hb rfl]
    exact if_pos rfl
  · rw [beq_no fun z => e (by injection z), kitCls_of is ty h]
    exact if_neg Bool.false_ne_true
theorem kit_ve (h : PySem.W.mroIn K C (.type "ValueError") = some true) : PySem.W.kitOne K (.ref C) (.type "ValueError") = some true := by
  have hne : (Value.ref C == Value.type "ValueError") = false := beq_no fun z => by cases z
  unfold PySem.W.kitOne PySem.W.kitCls PySem.W.subIn
  rw [hne, if_neg Bool.false_ne_true]
  exact (if_pos kitMeta_ve).trans h
end
theorem ClsM.all {K : PySem.W.Frag} {a b d e : Addr} (M : ClsM K a b d e) (k k' : Kd) : PySem.W.mroIn K (Cls.of ⟨a, b, d, e⟩ k) (.ref (Cls.of ⟨a, b, d, e⟩ k')) = some (decide (k = k')) := by
  obtain ⟨aa, ab, ad, ae, ba, bb, bd, be, da, db, dd, de, ea, eb, ed, ee⟩ := M
  cases k <;> cases k' <;> assumption
theorem clsOk_of {K : PySem.W.Frag} {a b d e SE NL : Addr} (S : ClsS K SE NL) (M : ClsM K a b d e) (fa : ClsF K a SE NL) (fb : ClsF K b SE NL) (fd : ClsF K d SE NL) (fe : ClsF K e SE NL) : ClsOk K ⟨a, b, d, e⟩ SE NL := by
  have F : ∀ k, ClsF K (Cls.of ⟨a, b, d, e⟩ k) SE NL := fun k => by cases k <;> assumption
  have self : ∀ k k', Cls.of ⟨a, b, d, e⟩ k = Cls.of ⟨a, b, d, e⟩ k' → decide (k = k') = true := fun k k' z => by
    have h1 := M.all k k'
    rw [← z, M.all k k] at h1
    have h2 := Option.some.inj h1
    rw [← h2]
    exact decide_eq_true rfl
  refine ⟨fun k => ⟨(F k).ga, (F k).no, (F k).cl, S.get, S.set, (F k).ob, (F k).be, Option.isSome_iff_exists.mp (F k).is⟩, fun k => exm_of S.seI S.seT S.seB (F k).se, fun k k' => exm_of (F k').is (F k').ty (F k').be (M.all k k'), fun k k' => kit_of (F k').is (F k').ty (M.all k k') (self k k'), fun k => kit_of S.nlI S.nlT (F k).nl fun z => ?_, fun k => kit_ve (F k).ve⟩
  have h1 := (F k).nl
  rw [← z, M.all k k] at h1
  exact (Option.some.inj h1).symm.trans (decide_eq_true rfl)
end Sy
namespace L3
section
variable {α : Type} {P : List α → Prop}
theorem len1 (h : ∀ a, P [a]) : ∀ us : List α, us.length = 1 → P us := by
  intro us hl
  match us, hl with
  | [a], _ => exact h a
theorem len2 (h : ∀ a b, P [a, b]) : ∀ us : List α, us.length = 2 → P us := by
  intro us hl
  match us, hl with
  | [a, b], _ => exact h a b
theorem len3 (h : ∀ a b c, P [a, b, c]) : ∀ us : List α, us.length = 3 → P us := by
  intro us hl
  match us, hl with
  | [a, b, c], _ => exact h a b c
theorem len4 (h : ∀ a b c d, P [a, b, c, d]) : ∀ us : List α, us.length = 4 → P us := by
  intro us hl
  match us, hl with
  | [a, b, c, d], _ => exact h a b c d
theorem len5 (h : ∀ a b c d e, P [a, b, c, d, e]) : ∀ us : List α, us.length = 5 → P us := by
  intro us hl
  match us, hl with
  | [a, b, c, d, e], _ => exact h a b c d e
end
end L3
namespace Sy
open PySem PySem.Spec L2 L3
open PyProof.Rows hiding St
/-- all defs of the text keep their promises -/
theorem fin_mk {l : PySem.W.OpenLaw} {w : World} {K : PySem.W.Frag} {h : Heap} {mg : Str → Option Value} {fa f3 : Addr} (X : K.In h) (G : h.Ns mainGlobals mg) (hfa : mg "law" = some (.ref fa))
    {od3 an3 : Option Addr} {sl3 : Array (Option Value)} {oc3 kV3 dc3 pm3 cd3 ct3 : Value}
    (a3 : PySem.W.nsIn K mainGlobals "law" = some (some (.ref f3))) (l3 : K.lookup f3 = some ⟨oc3, od3, .func (PySem.W.fnOf "law" "law" (defArgs (top 59)) (defBody (top 59)) (defScope (top 59)) .none kV3 dc3 pm3 an3 cd3 ct3), sl3⟩) (c3 : PySem.W.codeIn K cd3 "law" = true) (k3 : PySem.W.keepIn K (.ref f3) = true)
    (d_is_prime : Def K mg "is_prime" ["number"] (top 9))
    (d_check_prime : Def K mg "check_prime" ["prime"] (top 10))
    (d_is_sign : Def K mg "is_sign" ["prime", "number"] (top 11))
    (d_check_signs : Def K mg "check_signs" ["prime", "signs"] (top 12))
    (d_check_signs_or_gaps : Def K mg "check_signs_or_gaps" ["prime", "signs"] (top 13))
    (d_added : Def K mg "added" ["prime", "one", "two"] (top 14))
    (d_lessened : Def K mg "lessened" ["prime", "one", "two"] (top 15))
    (d_multiplied : Def K mg "multiplied" ["prime", "one", "two"] (top 16))
    (d_power : Def K mg "power" ["prime", "sign", "times"] (top 17))
    (d_inverse : Def K mg "inverse" ["prime", "sign"] (top 18))
    (d_sign_at : Def K mg "sign_at" ["prime", "curve", "place"] (top 20))
    (d_signs_along : Def K mg "signs_along" ["prime", "curve", "length"] (top 21))
    (d_powers_of : Def K mg "powers_of" ["prime", "place", "count"] (top 22))
    (d_sum_of_curves : Def K mg "sum_of_curves" ["prime", "one", "two"] (top 23))
    (d_scaled : Def K mg "scaled" ["prime", "curve", "factor"] (top 24))
    (d_with_nought_at : Def K mg "with_nought_at" ["prime", "curve", "place"] (top 25))
    (d_curve_through : Def K mg "curve_through" ["prime", "places", "signs"] (top 26))
    (d_divided : Def K mg "divided" ["prime", "over", "under"] (top 27))
    (d_check_length : Def K mg "check_length" ["prime", "size", "length"] (top 29))
    (d_lengthened : Def K mg "lengthened" ["prime", "word", "length"] (top 30))
    (d_made : Def K mg "made" ["prime", "word", "length"] (top 31))
    (d_is_made : Def K mg "is_made" ["prime", "signs", "size"] (top 32))
    (d_known_places : Def K mg "known_places" ["signs"] (top 33))
    (d_filled : Def K mg "filled" ["prime", "signs", "size"] (top 34))
    (d_without : Def K mg "without" ["prime", "row", "column", "other"] (top 36))
    (d_first_not_nought : Def K mg "first_not_nought" ["row"] (top 37))
    (d_rest_beside : Def K mg "rest_beside" ["prime", "row", "kept"] (top 38))
    (d_solved : Def K mg "solved" ["prime", "rows", "unknowns"] (top 39))
    (d_equation : Def K mg "equation" ["prime", "place", "sign", "size", "room"] (top 40))
    (d_only_curve : Def K mg "only_curve" ["prime", "places", "signs", "size", "room"] (top 41))
    (d_wrong_places : Def K mg "wrong_places" ["signs", "word"] (top 43))
    (d_nearest : Def K mg "nearest" ["prime", "signs", "size"] (top 44))
    (d_mended : Def K mg "mended" ["prime", "signs", "size"] (top 45))
    (d_read : Def K mg "read" ["prime", "signs", "size"] (top 46))
    (d_laid : Def K mg "laid" ["prime", "words", "length"] (top 48))
    (d_check_count : Def K mg "check_count" ["signs", "count"] (top 49))
    (d_signs_of_one : Def K mg "signs_of_one" ["signs", "count", "first"] (top 50))
    (d_taken_up : Def K mg "taken_up" ["prime", "signs", "count", "size"] (top 51))
    (d__law_at : Def K mg "_law_at" ["_law_script", "_law_k"] (top 53))
    (d__law_sizes : Def K mg "_law_sizes" ["_law_script"] (top 54))
    (d__law_beside_bad : Def K mg "_law_beside_bad" ["_law_prime", "_law_signs"] (top 55))
    (d__law_said : Def K mg "_law_said" ["_law_which", "_law_prime", "_law_signs", "_law_size", "_law_length"] (top 56))
    (d__law_word_due : Def K mg "_law_word_due" ["_law_which", "_law_prime", "_law_signs", "_law_own", "_law_long"] (top 57))
    (d__law_refuses : Def K mg "_law_refuses" ["_law_which", "_law_prime", "_law_signs", "_law_size", "_law_length"] (top 58))
    {tG : Tok} (zG : PySem.W.nsIn K mainGlobals "GREATEST" = some (some (.int 1000 tG)))
    (z_ValueError : PySem.W.nsIn K mainGlobals "ValueError" = some none)
    (z_enumerate : PySem.W.nsIn K mainGlobals "enumerate" = some none)
    (z_int : PySem.W.nsIn K mainGlobals "int" = some none)
    (z_isinstance : PySem.W.nsIn K mainGlobals "isinstance" = some none)
    (z_len : PySem.W.nsIn K mainGlobals "len" = some none)
    (z_list : PySem.W.nsIn K mainGlobals "list" = some none)
    (z_min : PySem.W.nsIn K mainGlobals "min" = some none)
    (z_range : PySem.W.nsIn K mainGlobals "range" = some none)
    (z_reversed : PySem.W.nsIn K mainGlobals "reversed" = some none)
    (z_zip : PySem.W.nsIn K mainGlobals "zip" = some none)
    {A_BadLength : Addr} (zc_BadLength : PySem.W.nsIn K mainGlobals "BadLength" = some (some (.ref A_BadLength))) (q_BadLength : PySem.W.excIn K A_BadLength vbm "ValueError.__new__" = true)
    {A_BadSign : Addr} (zc_BadSign : PySem.W.nsIn K mainGlobals "BadSign" = some (some (.ref A_BadSign))) (q_BadSign : PySem.W.excIn K A_BadSign vbm "ValueError.__new__" = true)
    {A_NoLine : Addr} (zc_NoLine : PySem.W.nsIn K mainGlobals "NoLine" = some (some (.ref A_NoLine)))
    {A_NotMended : Addr} (zc_NotMended : PySem.W.nsIn K mainGlobals "NotMended" = some (some (.ref A_NotMended))) (q_NotMended : PySem.W.excIn K A_NotMended vbm "ValueError.__new__" = true)
    {A_NotPrime : Addr} (zc_NotPrime : PySem.W.nsIn K mainGlobals "NotPrime" = some (some (.ref A_NotPrime))) (q_NotPrime : PySem.W.excIn K A_NotPrime vbm "ValueError.__new__" = true)
    {A_StrayError : Addr} (zc_StrayError : PySem.W.nsIn K mainGlobals "StrayError" = some (some (.ref A_StrayError)))
    (zS : ClsS K A_StrayError A_NoLine) (zM : ClsM K A_NotPrime A_BadSign A_BadLength A_NotMended) (zf1 : ClsF K A_NotPrime A_StrayError A_NoLine) (zf2 : ClsF K A_BadSign A_StrayError A_NoLine) (zf3 : ClsF K A_BadLength A_StrayError A_NoLine) (zf4 : ClsF K A_NotMended A_StrayError A_NoLine)
    : ∃ fd : FuncData, (∀ (s : Shared) (v : Value), BindsTo s fd ⟨[v], []⟩ [("_law_script", v)]) ∧ ∀ base : Heap, K.In base → base.Ns mainGlobals mg → FnOk l.prog w K mg base CX0 22 fa fd ["_law_script"] (spLaw K) := by
  have e := hfa.symm.trans (PySem.W.mg_of X G a3)
  cases e
  have m_ValueError := PySem.W.mg_none_of X G z_ValueError
  have m_enumerate := PySem.W.mg_none_of X G z_enumerate
  have m_int := PySem.W.mg_none_of X G z_int
  have m_isinstance := PySem.W.mg_none_of X G z_isinstance
  have m_len := PySem.W.mg_none_of X G z_len
  have m_list := PySem.W.mg_none_of X G z_list
  have m_min := PySem.W.mg_none_of X G z_min
  have m_range := PySem.W.mg_none_of X G z_range
  have m_reversed := PySem.W.mg_none_of X G z_reversed
  have m_zip := PySem.W.mg_none_of X G z_zip
  have C_BadLength := PySem.W.mg_of X G zc_BadLength
  have C_BadSign := PySem.W.mg_of X G zc_BadSign
  have C_NoLine := PySem.W.mg_of X G zc_NoLine
  have C_NotMended := PySem.W.mg_of X G zc_NotMended
  have C_NotPrime := PySem.W.mg_of X G zc_NotPrime
  have C_StrayError := PySem.W.mg_of X G zc_StrayError
  have mG : ∃ t, mg "GREATEST" = some (.int 1000 t) := ⟨tG, PySem.W.mg_of X G zG⟩
  have hcl := clsOk_of zS zM zf1 zf2 zf3 zf4
  refine ⟨PySem.W.fnOf "law" "law" (defArgs (top 59)) (defBody (top 59)) (defScope (top 59)) .none kV3 dc3 pm3 an3 cd3 ct3, fun s v => .of_eq rfl, fun base _ _ => ?_⟩
  have AT1 := ok_at (P := l.prog) (w := w) (base := base) d__law_at m_len
  have SZ2 := ok_sizes d__law_sizes m_len m_range m_min m_int AT1
  have DU1 := ok_due0 (P := l.prog) (w := w) (base := base) d__law_word_due m_len
  have DU2 := ok_due d__law_word_due m_len m_int DU1
  have IPB1 := ok_is_primeB (P := l.prog) (w := w) (base := base) d_is_prime mG
  have CPE2 := ok_check_primeE d_check_prime C_NotPrime q_NotPrime mG IPB1
  have IS1 := ok_is_sign (P := l.prog) (w := w) (base := base) d_is_sign
  have CSE2 := ok_check_signsE d_check_signs C_BadSign q_BadSign IS1
  have CLE1 := ok_check_lengthE (P := l.prog) (w := w) (base := base) d_check_length C_BadLength q_BadLength
  have A1 := ok_added (P := l.prog) (w := w) (base := base) d_added
  have M1 := ok_multiplied (P := l.prog) (w := w) (base := base) d_multiplied
  have S2 := ok_sign_at d_sign_at m_reversed A1 M1
  have AL3 := ok_signs_along d_signs_along m_range S2
  have L1 := ok_lessened (P := l.prog) (w := w) (base := base) d_lessened
  have P2 := ok_power d_power M1
  have I3 := ok_inverse d_inverse P2
  have SU2 := ok_sum d_sum_of_curves m_zip A1
  have SC2 := ok_scaled d_scaled M1
  have WO3 := ok_wo d_with_nought_at m_zip SC2 L1
  have CT4 := ok_ct d_curve_through m_zip S2 L1 M1 I3 SU2 SC2 WO3
  have LO5 := ok_lengthened d_lengthened m_list m_range m_len AL3 CT4
  have MAE6 := ok_madeE (c := ⟨A_NotPrime, A_BadSign, A_BadLength, A_NotMended⟩) d_made m_len CPE2 CSE2 CLE1 LO5
  have IME6 := ok_is_madeE (c := ⟨A_NotPrime, A_BadSign, A_BadLength, A_NotMended⟩) d_is_made m_len CPE2 CSE2 CLE1 LO5
  have CGE3 := ok_check_gapsE d_check_signs_or_gaps CSE2
  have KP1 := ok_known (P := l.prog) (w := w) (base := base) d_known_places m_enumerate
  have FIE5 := ok_filledE (c := ⟨A_NotPrime, A_BadSign, A_BadLength, A_NotMended⟩) d_filled m_len CPE2 CGE3 CLE1 KP1 CT4 AL3
  have PW2 := ok_powers d_powers_of m_len M1
  have EQ3 := ok_equation d_equation PW2 SC2 L1
  have WI1 := ok_without (P := l.prog) (w := w) (base := base) d_without m_zip
  have FN1 := ok_first (P := l.prog) (w := w) (base := base) d_first_not_nought m_enumerate
  have RB2 := ok_rest d_rest_beside WI1
  have SO4 := ok_solved d_solved WI1 FN1 RB2 I3 SC2
  have DV2 := ok_divided d_divided m_list m_len m_zip m_reversed L1 M1
  have OC5 := ok_only d_only_curve m_zip EQ3 SO4 DV2
  have WP2 := ok_wrongp d_wrong_places KP1
  have NE6 := ok_nearest d_nearest C_NotMended q_NotMended m_len KP1 OC5 AL3 WP2
  have MEE7 := ok_mendedE (c := ⟨A_NotPrime, A_BadSign, A_BadLength, A_NotMended⟩) d_mended m_len CPE2 CGE3 CLE1 NE6
  have RDE8 := ok_readE (c := ⟨A_NotPrime, A_BadSign, A_BadLength, A_NotMended⟩) d_read MEE7
  have LAE7 := ok_laidE (c := ⟨A_NotPrime, A_BadSign, A_BadLength, A_NotMended⟩) d_laid m_len m_range CPE2 MAE6
  have CE1 := ok_countE (P := l.prog) (w := w) (base := base) d_check_count C_BadLength q_BadLength m_len
  have ON1 := ok_one (P := l.prog) (w := w) (base := base) d_signs_of_one m_len m_range
  have TKE9 := ok_takenE (c := ⟨A_NotPrime, A_BadSign, A_BadLength, A_NotMended⟩) d_taken_up m_range CPE2 CE1 ON1 RDE8
  have BE1 := ok_beside (P := l.prog) (w := w) (base := base) d__law_beside_bad
  have SAI1 := ok_said d__law_said hcl C_NotPrime C_BadSign C_BadLength C_NotMended m_len MAE6.up IME6.up FIE5.up MEE7.up RDE8.up LAE7.up TKE9.up BE1.up
  have REF1 := ok_refuses d__law_refuses hcl C_NotPrime C_BadSign C_BadLength C_NotMended C_StrayError C_NoLine m_len m_isinstance m_ValueError MAE6.up IME6.up FIE5.up MEE7.up RDE8.up LAE7.up TKE9.up BE1.up
  exact fn_law (fun_mk l3 c3 k3) m_list m_len m_range AT1 SZ2 DU2 SAI1 REF1
end Sy
/-- the heap, as a tree, ahead of the last rows -/
def PySem.W.Fast.tw12556366647643700042 : Nat := 0
/-- the same, earlier -/
def PySem.W.Fast.tw13458072272909561651 : Nat := 0
/-- the same, earlier still -/
def PySem.W.Fast.tw9566886461710802080 : Nat := 0
/-- the heap behind the last row -/
def PySem.W.Fast.tw8755758719117551415 : Nat := 0
open PySem PySem.W PyProof.Rows
set_option maxRecDepth 100000 in
set_option maxHeartbeats 0 in
theorem PySem.Challenge.cw_straysign_k09_refused_holds : PySem.Challenge.rw_straysign_k09_refused.Holds := by
  w_on; o_law; k_head; (case hw => w_witness2)
  k_fill
  refine L2.walk_ofK (l := PySem.Challenge.rw_straysign_k09_refused) (n := 63) (k := 22) (x := "_law_script") (CX := L2.CX0) (sp := Sy.spLaw) rfl (by decide) rfl ⟨rfl, by decide, by decide⟩ (fun w h Y => PySem.W.kIn_of Y) ?F ?S ?C
  case F =>
    intro w mg fa h KX G hmg
    refine' Sy.fin_mk KX G hmg ?a ?l ?c ?k ?d_is_prime ?d_check_prime ?d_is_sign ?d_check_signs ?d_check_signs_or_gaps ?d_added ?d_lessened ?d_multiplied ?d_power ?d_inverse ?d_sign_at ?d_signs_along ?d_powers_of ?d_sum_of_curves ?d_scaled ?d_with_nought_at ?d_curve_through ?d_divided ?d_check_length ?d_lengthened ?d_made ?d_is_made ?d_known_places ?d_filled ?d_without ?d_first_not_nought ?d_rest_beside ?d_solved ?d_equation ?d_only_curve ?d_wrong_places ?d_nearest ?d_mended ?d_read ?d_laid ?d_check_count ?d_signs_of_one ?d_taken_up ?d__law_at ?d__law_sizes ?d__law_beside_bad ?d__law_said ?d__law_word_due ?d__law_refuses ?zG  ?z_ValueError ?z_enumerate ?z_int ?z_isinstance ?z_len ?z_list ?z_min ?z_range ?z_reversed ?z_zip ?zc_BadLength ?q_BadLength ?zc_BadSign ?q_BadSign ?zc_NoLine ?zc_NotMended ?q_NotMended ?zc_NotPrime ?q_NotPrime ?zc_StrayError ?zS ?zM ?zf1 ?zf2 ?zf3 ?zf4
    (case a => k_is); (case l => k_is); (case c => k_is); (case k => k_is)
    case d_is_prime =>
      refine' L3.def_mk KX G ?a ?l ?c ?k ?b
      (case a => k_is); (case l => k_is); (case c => k_is); (case k => k_is)
      (case b => exact fun _ _ _ _ _ _ => L3.len1 fun _ => rfl)
    case d_check_prime =>
      refine' L3.def_mk KX G ?a ?l ?c ?k ?b
      (case a => k_is); (case l => k_is); (case c => k_is); (case k => k_is)
      (case b => exact fun _ _ _ _ _ _ => L3.len1 fun _ => rfl)
    case d_is_sign =>
      refine' L3.def_mk KX G ?a ?l ?c ?k ?b
      (case a => k_is); (case l => k_is); (case c => k_is); (case k => k_is)
      (case b => exact fun _ _ _ _ _ _ => L3.len2 fun _ _ => rfl)
    case d_check_signs =>
      refine' L3.def_mk KX G ?a ?l ?c ?k ?b
      (case a => k_is); (case l => k_is); (case c => k_is); (case k => k_is)
      (case b => exact fun _ _ _ _ _ _ => L3.len2 fun _ _ => rfl)
    case d_check_signs_or_gaps =>
      refine' L3.def_mk KX G ?a ?l ?c ?k ?b
      (case a => k_is); (case l => k_is); (case c => k_is); (case k => k_is)
      (case b => exact fun _ _ _ _ _ _ => L3.len2 fun _ _ => rfl)
    case d_added =>
      refine' L3.def_mk KX G ?a ?l ?c ?k ?b
      (case a => k_is); (case l => k_is); (case c => k_is); (case k => k_is)
      (case b => exact fun _ _ _ _ _ _ => L3.len3 fun _ _ _ => rfl)
    case d_lessened =>
      refine' L3.def_mk KX G ?a ?l ?c ?k ?b
      (case a => k_is); (case l => k_is); (case c => k_is); (case k => k_is)
      (case b => exact fun _ _ _ _ _ _ => L3.len3 fun _ _ _ => rfl)
    case d_multiplied =>
      refine' L3.def_mk KX G ?a ?l ?c ?k ?b
      (case a => k_is); (case l => k_is); (case c => k_is); (case k => k_is)
      (case b => exact fun _ _ _ _ _ _ => L3.len3 fun _ _ _ => rfl)
    case d_power =>
      refine' L3.def_mk KX G ?a ?l ?c ?k ?b
      (case a => k_is); (case l => k_is); (case c => k_is); (case k => k_is)
      (case b => exact fun _ _ _ _ _ _ => L3.len3 fun _ _ _ => rfl)
    case d_inverse =>
      refine' L3.def_mk KX G ?a ?l ?c ?k ?b
      (case a => k_is); (case l => k_is); (case c => k_is); (case k => k_is)
      (case b => exact fun _ _ _ _ _ _ => L3.len2 fun _ _ => rfl)
    case d_sign_at =>
      refine' L3.def_mk KX G ?a ?l ?c ?k ?b
      (case a => k_is); (case l => k_is); (case c => k_is); (case k => k_is)
      (case b => exact fun _ _ _ _ _ _ => L3.len3 fun _ _ _ => rfl)
    case d_signs_along =>
      refine' L3.def_mk KX G ?a ?l ?c ?k ?b
      (case a => k_is); (case l => k_is); (case c => k_is); (case k => k_is)
      (case b => exact fun _ _ _ _ _ _ => L3.len3 fun _ _ _ => rfl)
    case d_powers_of =>
      refine' L3.def_mk KX G ?a ?l ?c ?k ?b
      (case a => k_is); (case l => k_is); (case c => k_is); (case k => k_is)
      (case b => exact fun _ _ _ _ _ _ => L3.len3 fun _ _ _ => rfl)
    case d_sum_of_curves =>
      refine' L3.def_mk KX G ?a ?l ?c ?k ?b
      (case a => k_is); (case l => k_is); (case c => k_is); (case k => k_is)
      (case b => exact fun _ _ _ _ _ _ => L3.len3 fun _ _ _ => rfl)
    case d_scaled =>
      refine' L3.def_mk KX G ?a ?l ?c ?k ?b
      (case a => k_is); (case l => k_is); (case c => k_is); (case k => k_is)
      (case b => exact fun _ _ _ _ _ _ => L3.len3 fun _ _ _ => rfl)
    case d_with_nought_at =>
      refine' L3.def_mk KX G ?a ?l ?c ?k ?b
      (case a => k_is); (case l => k_is); (case c => k_is); (case k => k_is)
      (case b => exact fun _ _ _ _ _ _ => L3.len3 fun _ _ _ => rfl)
    case d_curve_through =>
      refine' L3.def_mk KX G ?a ?l ?c ?k ?b
      (case a => k_is); (case l => k_is); (case c => k_is); (case k => k_is)
      (case b => exact fun _ _ _ _ _ _ => L3.len3 fun _ _ _ => rfl)
    case d_divided =>
      refine' L3.def_mk KX G ?a ?l ?c ?k ?b
      (case a => k_is); (case l => k_is); (case c => k_is); (case k => k_is)
      (case b => exact fun _ _ _ _ _ _ => L3.len3 fun _ _ _ => rfl)
    case d_check_length =>
      refine' L3.def_mk KX G ?a ?l ?c ?k ?b
      (case a => k_is); (case l => k_is); (case c => k_is); (case k => k_is)
      (case b => exact fun _ _ _ _ _ _ => L3.len3 fun _ _ _ => rfl)
    case d_lengthened =>
      refine' L3.def_mk KX G ?a ?l ?c ?k ?b
      (case a => k_is); (case l => k_is); (case c => k_is); (case k => k_is)
      (case b => exact fun _ _ _ _ _ _ => L3.len3 fun _ _ _ => rfl)
    case d_made =>
      refine' L3.def_mk KX G ?a ?l ?c ?k ?b
      (case a => k_is); (case l => k_is); (case c => k_is); (case k => k_is)
      (case b => exact fun _ _ _ _ _ _ => L3.len3 fun _ _ _ => rfl)
    case d_is_made =>
      refine' L3.def_mk KX G ?a ?l ?c ?k ?b
      (case a => k_is); (case l => k_is); (case c => k_is); (case k => k_is)
      (case b => exact fun _ _ _ _ _ _ => L3.len3 fun _ _ _ => rfl)
    case d_known_places =>
      refine' L3.def_mk KX G ?a ?l ?c ?k ?b
      (case a => k_is); (case l => k_is); (case c => k_is); (case k => k_is)
      (case b => exact fun _ _ _ _ _ _ => L3.len1 fun _ => rfl)
    case d_filled =>
      refine' L3.def_mk KX G ?a ?l ?c ?k ?b
      (case a => k_is); (case l => k_is); (case c => k_is); (case k => k_is)
      (case b => exact fun _ _ _ _ _ _ => L3.len3 fun _ _ _ => rfl)
    case d_without =>
      refine' L3.def_mk KX G ?a ?l ?c ?k ?b
      (case a => k_is); (case l => k_is); (case c => k_is); (case k => k_is)
      (case b => exact fun _ _ _ _ _ _ => L3.len4 fun _ _ _ _ => rfl)
    case d_first_not_nought =>
      refine' L3.def_mk KX G ?a ?l ?c ?k ?b
      (case a => k_is); (case l => k_is); (case c => k_is); (case k => k_is)
      (case b => exact fun _ _ _ _ _ _ => L3.len1 fun _ => rfl)
    case d_rest_beside =>
      refine' L3.def_mk KX G ?a ?l ?c ?k ?b
      (case a => k_is); (case l => k_is); (case c => k_is); (case k => k_is)
      (case b => exact fun _ _ _ _ _ _ => L3.len3 fun _ _ _ => rfl)
    case d_solved =>
      refine' L3.def_mk KX G ?a ?l ?c ?k ?b
      (case a => k_is); (case l => k_is); (case c => k_is); (case k => k_is)
      (case b => exact fun _ _ _ _ _ _ => L3.len3 fun _ _ _ => rfl)
    case d_equation =>
      refine' L3.def_mk KX G ?a ?l ?c ?k ?b
      (case a => k_is); (case l => k_is); (case c => k_is); (case k => k_is)
      (case b => exact fun _ _ _ _ _ _ => L3.len5 fun _ _ _ _ _ => rfl)
    case d_only_curve =>
      refine' L3.def_mk KX G ?a ?l ?c ?k ?b
      (case a => k_is); (case l => k_is); (case c => k_is); (case k => k_is)
      (case b => exact fun _ _ _ _ _ _ => L3.len5 fun _ _ _ _ _ => rfl)
    case d_wrong_places =>
      refine' L3.def_mk KX G ?a ?l ?c ?k ?b
      (case a => k_is); (case l => k_is); (case c => k_is); (case k => k_is)
      (case b => exact fun _ _ _ _ _ _ => L3.len2 fun _ _ => rfl)
    case d_nearest =>
      refine' L3.def_mk KX G ?a ?l ?c ?k ?b
      (case a => k_is); (case l => k_is); (case c => k_is); (case k => k_is)
      (case b => exact fun _ _ _ _ _ _ => L3.len3 fun _ _ _ => rfl)
    case d_mended =>
      refine' L3.def_mk KX G ?a ?l ?c ?k ?b
      (case a => k_is); (case l => k_is); (case c => k_is); (case k => k_is)
      (case b => exact fun _ _ _ _ _ _ => L3.len3 fun _ _ _ => rfl)
    case d_read =>
      refine' L3.def_mk KX G ?a ?l ?c ?k ?b
      (case a => k_is); (case l => k_is); (case c => k_is); (case k => k_is)
      (case b => exact fun _ _ _ _ _ _ => L3.len3 fun _ _ _ => rfl)
    case d_laid =>
      refine' L3.def_mk KX G ?a ?l ?c ?k ?b
      (case a => k_is); (case l => k_is); (case c => k_is); (case k => k_is)
      (case b => exact fun _ _ _ _ _ _ => L3.len3 fun _ _ _ => rfl)
    case d_check_count =>
      refine' L3.def_mk KX G ?a ?l ?c ?k ?b
      (case a => k_is); (case l => k_is); (case c => k_is); (case k => k_is)
      (case b => exact fun _ _ _ _ _ _ => L3.len2 fun _ _ => rfl)
    case d_signs_of_one =>
      refine' L3.def_mk KX G ?a ?l ?c ?k ?b
      (case a => k_is); (case l => k_is); (case c => k_is); (case k => k_is)
      (case b => exact fun _ _ _ _ _ _ => L3.len3 fun _ _ _ => rfl)
    case d_taken_up =>
      refine' L3.def_mk KX G ?a ?l ?c ?k ?b
      (case a => k_is); (case l => k_is); (case c => k_is); (case k => k_is)
      (case b => exact fun _ _ _ _ _ _ => L3.len4 fun _ _ _ _ => rfl)
    case d__law_at =>
      refine' L3.def_mk KX G ?a ?l ?c ?k ?b
      (case a => k_is); (case l => k_is); (case c => k_is); (case k => k_is)
      (case b => exact fun _ _ _ _ _ _ => L3.len2 fun _ _ => rfl)
    case d__law_sizes =>
      refine' L3.def_mk KX G ?a ?l ?c ?k ?b
      (case a => k_is); (case l => k_is); (case c => k_is); (case k => k_is)
      (case b => exact fun _ _ _ _ _ _ => L3.len1 fun _ => rfl)
    case d__law_beside_bad =>
      refine' L3.def_mk KX G ?a ?l ?c ?k ?b
      (case a => k_is); (case l => k_is); (case c => k_is); (case k => k_is)
      (case b => exact fun _ _ _ _ _ _ => L3.len2 fun _ _ => rfl)
    case d__law_said =>
      refine' L3.def_mk KX G ?a ?l ?c ?k ?b
      (case a => k_is); (case l => k_is); (case c => k_is); (case k => k_is)
      (case b => exact fun _ _ _ _ _ _ => L3.len5 fun _ _ _ _ _ => rfl)
    case d__law_word_due =>
      refine' L3.def_mk KX G ?a ?l ?c ?k ?b
      (case a => k_is); (case l => k_is); (case c => k_is); (case k => k_is)
      (case b => exact fun _ _ _ _ _ _ => L3.len5 fun _ _ _ _ _ => rfl)
    case d__law_refuses =>
      refine' L3.def_mk KX G ?a ?l ?c ?k ?b
      (case a => k_is); (case l => k_is); (case c => k_is); (case k => k_is)
      (case b => exact fun _ _ _ _ _ _ => L3.len5 fun _ _ _ _ _ => rfl)
    (case zG => k_is)
    (case z_ValueError => k_is)
    (case z_enumerate => k_is)
    (case z_int => k_is)
    (case z_isinstance => k_is)
    (case z_len => k_is)
    (case z_list => k_is)
    (case z_min => k_is)
    (case z_range => k_is)
    (case z_reversed => k_is)
    (case z_zip => k_is)
    (case zc_BadLength => k_is)
    (case q_BadLength => first | k_is | k_exc)
    (case zc_BadSign => k_is)
    (case q_BadSign => first | k_is | k_exc)
    (case zc_NoLine => k_is)
    (case zc_NotMended => k_is)
    (case q_NotMended => first | k_is | k_exc)
    (case zc_NotPrime => k_is)
    (case q_NotPrime => first | k_is | k_exc)
    (case zc_StrayError => k_is)
    (case zS => (refine' Sy.ClsS.mk ?_ ?_ ?_ ?_ ?_ ?_ ?_ <;> k_is))
    (case zM => (refine' Sy.ClsM.mk ?_ ?_ ?_ ?_ ?_ ?_ ?_ ?_ ?_ ?_ ?_ ?_ ?_ ?_ ?_ ?_ <;> k_is))
    (case zf1 => (refine' Sy.ClsF.mk ?_ ?_ ?_ ?_ ?_ ?_ ?_ ?_ ?_ ?_ <;> k_is))
    (case zf2 => (refine' Sy.ClsF.mk ?_ ?_ ?_ ?_ ?_ ?_ ?_ ?_ ?_ ?_ <;> k_is))
    (case zf3 => (refine' Sy.ClsF.mk ?_ ?_ ?_ ?_ ?_ ?_ ?_ ?_ ?_ ?_ <;> k_is))
    (case zf4 => (refine' Sy.ClsF.mk ?_ ?_ ?_ ?_ ?_ ?_ ?_ ?_ ?_ ?_ <;> k_is))
  case S => exact fun K H a ns hl hO hS => ⟨a, ns, rfl, hS, hl, fun _ => rfl⟩
  case C => exact fun _ _ _ _ z => z
#print axioms PySem.Challenge.cw_straysign_k09_refused_holds
