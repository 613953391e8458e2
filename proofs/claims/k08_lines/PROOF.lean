import PyProof.Rows.All
import Wide.All
import OpenK.AllK
import Wide.FinOn
import Lean
import PyProof.EqAt
import PyProof.EqKinds
import PyProof.TupleCall
import PySem.Challenge.RW_straysign_k08_lines
set_option Elab.async false
set_option linter.all false
set_option maxRecDepth 100000
namespace L2
open PySem PySem.Spec PyProof.Rows
/-- a key: an int or a str -/
abbrev Key := Sum Int Str
def keyIs : Key → Value → Bool
  | .inl k, v => Value.isInt k v
  | .inr x, v => Value.isStrOf x v
def keyH (w : World) : Key → Int
  | .inl k => hashInt k
  | .inr x => hashStr w x
theorem keyIs_shape : ∀ {k : Key} {v : Value}, keyIs k v = true → (∃ i t, k = Sum.inl i ∧ v = Value.int i t) ∨ (∃ x t, k = Sum.inr x ∧ v = Value.str x t)
  | .inl i, v, h => by
    obtain ⟨t, e⟩ := Value.isInt_shape (k := i) (v := v) h
    exact .inl ⟨i, t, rfl, e⟩
  | .inr x, v, h => by
    obtain ⟨t, e⟩ := Value.isStrOf_shape (x := x) (v := v) h
    exact .inr ⟨x, t, rfl, e⟩
theorem key_ll (a b : Int) : decide ((Sum.inl a : Key) = Sum.inl b) = (a == b) := by
  by_cases e : a = b
  · subst e; simp
  · have h : ¬ (Sum.inl a : Key) = Sum.inl b := fun q => e (Sum.inl.inj q)
    rw [decide_eq_false h]
    exact (beq_eq_false_iff_ne.mpr e).symm
theorem key_rr (a b : Str) : decide ((Sum.inr a : Key) = Sum.inr b) = decide (a = b) := by
  by_cases e : a = b
  · subst e; simp
  · have h : ¬ (Sum.inr a : Key) = Sum.inr b := fun q => e (Sum.inr.inj q)
    rw [decide_eq_false h, decide_eq_false e]
theorem key_lr (a : Int) (b : Str) : decide ((Sum.inl a : Key) = Sum.inr b) = false := decide_eq_false (fun q => nomatch q)
theorem key_rl (a : Str) (b : Int) : decide ((Sum.inr a : Key) = Sum.inl b) = false := decide_eq_false (fun q => nomatch q)
def mixKind (prog : Program) (w : World) : PySem.KeyKind prog w Key where
  is := keyIs
  hash := keyH w
  inj := fun v a b ha hb => by
    rcases keyIs_shape ha with ⟨i, t, rfl, rfl⟩ | ⟨x, t, rfl, rfl⟩
    · rcases keyIs_shape hb with ⟨j, u, rfl, e⟩ | ⟨y, u, rfl, e⟩
      · injection e with e1 _; rw [e1]
      · exact nomatch e
    · rcases keyIs_shape hb with ⟨j, u, rfl, e⟩ | ⟨y, u, rfl, e⟩
      · exact nomatch e
      · injection e with e1 _; rw [e1]
  byValue := fun k v h => by
    rcases keyIs_shape h with ⟨i, t, rfl, rfl⟩ | ⟨x, t, rfl, rfl⟩ <;> rfl
  pyHash := fun hv h => by
    rcases keyIs_shape hv with ⟨i, t, rfl, rfl⟩ | ⟨x, t, rfl, rfl⟩
    · exact wpAny_pyHash_int h
    · exact wpAny_pyHash_str h
  eqBool := fun hu hv h => by
    rcases keyIs_shape hu with ⟨i, t, rfl, rfl⟩ | ⟨x, t, rfl, rfl⟩
    · rcases keyIs_shape hv with ⟨j, u, rfl, rfl⟩ | ⟨y, u, rfl, rfl⟩
      · rw [key_ll] at h; exact wpAny_eqBool_int h
      · rw [key_lr] at h; exact SeqAt.EqAt.int_str i t y u _ _ _ _ h
    · rcases keyIs_shape hv with ⟨j, u, rfl, rfl⟩ | ⟨y, u, rfl, rfl⟩
      · rw [key_rl] at h; exact SeqAt.EqAt.str_int x t j u _ _ _ _ h
      · rw [key_rr] at h; exact wpAny_eqBool_str h
  «strs» := fun k x t v h => by
    rcases keyIs_shape h with ⟨i, u, rfl, e⟩ | ⟨y, u, rfl, e⟩
    · exact nomatch e
    · injection e with e1 _
      subst e1
      cases v <;> rfl
end L2
namespace L2
open PySem PySem.Spec PyProof.Rows
/-- a value, without the heap -/
inductive V where
  | non | bl (b : Bool) | int (i : Int) | str (x : Str) | byt (b : Array UInt8) | flt (b : UInt64) | ref (a : Addr) | ty (n : String)
  deriving DecidableEq
def RelV : V → Value → Prop
  | .non, u => u = Value.none
  | .bl b, u => u = Value.bool b
  | .int i, u => ∃ t, u = Value.int i t
  | .str x, u => ∃ t, u = Value.str x t
  | .byt b, u => ∃ t, u = Value.bytes b t
  | .flt b, u => ∃ t, u = Value.float b t
  | .ref a, u => u = Value.ref a
  | .ty n, u => u = Value.type n
abbrev Vals : List V → List Value → Prop := Paired RelV
theorem Vals.length {xs : List V} {us : List Value} (r : Vals xs us) : xs.length = us.length := Paired.length r
theorem Vals.get : ∀ {xs : List V} {us : List Value} {i : Nat} {x : V}, Vals xs us → xs[i]? = some x → ∃ u, us[i]? = some u ∧ RelV x u
  | _, _, _, _, .nil, e => by simp at e
  | _, _, 0, _, .cons r _, e => by simp at e; subst e; exact ⟨_, rfl, r⟩
  | _, _, i + 1, x, .cons _ t, e => by
    obtain ⟨u, h1, h2⟩ := Vals.get (i := i) (x := x) t (by simpa using e)
    exact ⟨u, by simpa using h1, h2⟩
theorem Vals.append : ∀ {xs ys : List V} {us ws : List Value}, Vals xs us → Vals ys ws → Vals (xs ++ ys) (us ++ ws)
  | _, _, _, _, .nil, s => s
  | _, _, _, _, .cons r t, s => .cons r (Vals.append t s)
theorem Vals.take : ∀ {xs : List V} {us : List Value} (n : Nat), Vals xs us → Vals (xs.take n) (us.take n)
  | _, _, 0, _ => .nil
  | _, _, _ + 1, .nil => .nil
  | _, _, n + 1, .cons r t => .cons r (Vals.take n t)
theorem Vals.drop : ∀ {xs : List V} {us : List Value} (n : Nat), Vals xs us → Vals (xs.drop n) (us.drop n)
  | _, _, 0, r => r
  | _, _, _ + 1, .nil => .nil
  | _, _, n + 1, .cons _ t => Vals.drop n t
def RelO : Option V → Option Value → Prop
  | some v, some u => RelV v u
  | none, none => True
  | _, _ => False
def KV {κ : Type} : List (κ × V) → List (κ × Value) → Prop := Paired fun (p : κ × V) (q : κ × Value) => p.1 = q.1 ∧ RelV p.2 q.2
/-- a key of a dict (00_mix): an int or a text -/
def kV : Key → V
  | .inl i => .int i
  | .inr x => .str x
/-- what stands at a tracked address -/
inductive HO where
  /-- a list -/
  | lst (xs : List V)
  /-- a tuple (never changes) -/
  | tup (xs : List V)
  /-- a dict whose keys are ints and texts; one whose keys are tuples of ints and texts (the empty one is both) -/
  | dK (kvs : List (Key × V)) | dT (kvs : List (List Key × V))
  /-- a set of ints: its members, its size -/
  | set (S : Int → Bool) (n : Nat)
  /-- an instance of the class at C, its dict at dx, its attributes -/
  | ins (C dx : Addr) (fs : List (Str × V))
  /-- the dict of the instance at x -/
  | own (x : Addr)
  /-- the dict of an exception -/
  | xd (fs : List (Str × V))
  /-- a bound method, f of x -/
  | met (f x : Addr)
  /-- a range object lo, lo + 1, .. below hi -/
  | rng (lo hi : Int)
  /-- a thing that is known to the object (the script; a dict while a loop walks it): read, never written while it is so -/
  | frz (o : Obj) (u : HO)
  /-- a code object's table -/
  | tbl (ps : Array Value)
  /-- any other thing, by what is true of its one object (a def of one's own: SetO a S n := HO.ext fun h => ..) -/
  | ext (φ : Heap → Prop)
abbrev Hp := Addr → Option HO
def upd (H : Hp) (a : Addr) (o : HO) : Hp := fun b => if b = a then some o else H b
theorem upd_same {H : Hp} {a : Addr} {o : HO} : upd H a o a = some o := by unfold upd; rw [if_pos rfl]
theorem upd_ne {H : Hp} {a b : Addr} {o : HO} (h : b ≠ a) : upd H a o b = H b := by unfold upd; rw [if_neg h]
theorem ne_of_none {H : Hp} {a b : Addr} {o : HO} (h : H a = some o) (h' : H b = none) : a ≠ b := by
  intro e; subst e; rw [h] at h'; cases h'
section
variable (P : Program) (w : World)
def ObjOk (H : Hp) (h : Heap) (a : Addr) : HO → Prop
  | .lst xs => xs.length ≤ sizeLine ∧ ∃ (its : List Value) (n : Nat), Vals xs its ∧ h.get? a = some { cls := .type "list", data := .seq its.toArray n }
  | .tup xs => xs.length ≤ sizeLine ∧ ∃ its : List Value, Vals xs its ∧ IsTup h a its.toArray
  | .dK kvs => kvs.length ≤ sizeLine ∧ (a == sysModules) = false ∧ ∃ vs, KV kvs vs ∧ h.DictOf (mixKind P w) a vs
  | .dT kvs => kvs.length ≤ sizeLine ∧ (a == sysModules) = false ∧ ∃ xs : List (List Key × Addr × Value),
      Paired (fun (p : List Key × V) (q : List Key × Addr × Value) => p.1 = q.1 ∧ H q.2.1 = some (.tup (p.1.map kV)) ∧ RelV p.2 q.2.2) kvs xs ∧
      ∃ o es ep, h.get? a = some o ∧ o.ExactDict ∧ o.data = .dict es ep ∧ es.toList = xs.map (entryOfKey (tupleKind (mixKind P w))) ∧ (xs.map (·.1)).Nodup
  | .set S n => h.SetOf (intKind P w) a S n
  | .ins C dx fs => H dx = some (.own a) ∧ fs.length ≤ 1000 ∧ dx ≠ a ∧ h.get? a = some (PySem.W.instObj C dx) ∧
      ∃ mA, h.Ns1 dx mA ∧ (∀ f, RelO (fs.lookup f) (mA f)) ∧ PySem.Within mA (fs.map (·.1))
  | .own _ => ∃ o, h.get? a = some o
  | .xd fs => ∃ mA, h.Ns1 a mA ∧ ∀ f, RelO (fs.lookup f) (mA f)
  | .rng lo hi => ∃ t u v, h.get? a = some { cls := .type "range", data := .fields #[.int lo t, .int hi u, .int 1 v] }
  | .frz o u => h.get? a = some o ∧ ObjOk H h a u
  | .tbl ps => h.get? a = some { cls := .none, data := .fields ps }
  | .met f x => h.get? a = some (PySem.W.methodObj (.ref f) (.ref x))
  | .ext φ => φ h ∧ (∃ o, h.get? a = some o) ∧ ∀ h1 h2 : Heap, φ h1 → (∀ o, h1.get? a = some o → h2.get? a = some o) → φ h2
/-- the abstract heap is held -/
def HOk (H : Hp) (h : Heap) : Prop := ∀ a o, H a = some o → ObjOk P w H h a o
end
section
variable {P : Program} {w : World} {H H' : Hp} {h h' : Heap} {a : Addr} {o : HO}
theorem ObjOk.lt (x : ObjOk P w H h a o) : a < h.objs.size := by
  cases o with
  | lst xs => obtain ⟨_, _, _, _, e⟩ := x; exact Heap.lt_size e
  | tup xs => obtain ⟨_, _, _, p⟩ := x; exact p.lt
  | dK kvs => obtain ⟨_, _, _, _, o, _, _, e, _⟩ := x; exact Heap.lt_size e
  | dT kvs => obtain ⟨_, _, _, _, o, _, _, e, _⟩ := x; exact Heap.lt_size e
  | set S n => obtain ⟨o, _, _, _, e, _⟩ := x; exact Heap.lt_size e
  | ins C dx fs => obtain ⟨_, _, _, e, _⟩ := x; exact Heap.lt_size e
  | own y => obtain ⟨_, e⟩ := x; exact Heap.lt_size e
  | xd fs => obtain ⟨_, ⟨_, _, _, e, _⟩, _⟩ := x; exact Heap.lt_size e
  | rng lo hi => obtain ⟨_, _, _, e⟩ := x; exact Heap.lt_size e
  | frz ob u => obtain ⟨e, _⟩ := x; exact Heap.lt_size e
  | tbl ps => exact Heap.lt_size (show h.get? a = some _ from x)
  | met f y => exact Heap.lt_size (show h.get? a = some _ from x)
  | ext φ => obtain ⟨_, ⟨_, e⟩, _⟩ := x; exact Heap.lt_size e
theorem Paired.mapP {α β : Type} {F G : α → β → Prop} : ∀ {l₁ : List α} {l₂ : List β}, Paired F l₁ l₂ → (∀ a b, F a b → G a b) → Paired G l₁ l₂
  | _, _, .nil, _ => .nil
  | _, _, .cons r t, f => .cons (f _ _ r) (Paired.mapP t f)
/-- what an object's description leans on: its own object, its own dict, the tuples -/
theorem ObjOk.stay (x : ObjOk P w H h a o) (k : ∀ b u, (b = a ∨ H b = some (.own a)) → h.get? b = some u → h'.get? b = some u)
    (ho : ∀ b, H b = some (.own a) → H' b = some (.own a)) (ht : ∀ b xs, H b = some (.tup xs) → H' b = some (.tup xs)) : ObjOk P w H' h' a o := by
  induction o with
  | lst xs => obtain ⟨z, its, n, r, e⟩ := x; exact ⟨z, its, n, r, k _ _ (.inl rfl) e⟩
  | tup xs => obtain ⟨z, its, r, ob, e, c⟩ := x; exact ⟨z, its, r, ob, k _ _ (.inl rfl) e, c⟩
  | dK kvs => obtain ⟨z, y, vs, r, ob, es, ep, e, c⟩ := x; exact ⟨z, y, vs, r, ob, es, ep, k _ _ (.inl rfl) e, c⟩
  | dT kvs =>
    obtain ⟨z, y, xs, r, ob, es, ep, e, c⟩ := x
    exact ⟨z, y, xs, Paired.mapP r fun p q z => ⟨z.1, ht _ _ z.2.1, z.2.2⟩, ob, es, ep, k _ _ (.inl rfl) e, c⟩
  | set S n => obtain ⟨ob, es, ep, t, e, c⟩ := x; exact ⟨ob, es, ep, t, k _ _ (.inl rfl) e, c⟩
  | ins C dx fs =>
    obtain ⟨d, z, ne, e, mA, ⟨od, es, ep, e2, c⟩, r⟩ := x
    exact ⟨ho _ d, z, ne, k _ _ (.inl rfl) e, mA, ⟨od, es, ep, k _ _ (.inr d) e2, c⟩, r⟩
  | own y => obtain ⟨ob, e⟩ := x; exact ⟨ob, k _ _ (.inl rfl) e⟩
  | xd fs => obtain ⟨mA, ⟨od, es, ep, e, c⟩, r⟩ := x; exact ⟨mA, ⟨od, es, ep, k _ _ (.inl rfl) e, c⟩, r⟩
  | rng lo hi => obtain ⟨t, u, v, e⟩ := x; exact ⟨t, u, v, k _ _ (.inl rfl) e⟩
  | frz ob u ih => obtain ⟨e, q⟩ := x; exact ⟨k _ _ (.inl rfl) e, ih q⟩
  | tbl ps =>
    have e : h.get? a = some { cls := .none, data := .fields ps } := x
    show h'.get? a = some { cls := .none, data := .fields ps }
    exact k a _ (.inl rfl) e
  | met f y =>
    have e : h.get? a = some (PySem.W.methodObj (.ref f) (.ref y)) := x
    show h'.get? a = some (PySem.W.methodObj (.ref f) (.ref y))
    exact k a _ (.inl rfl) e
  | ext φ => obtain ⟨p, ⟨o, e⟩, st⟩ := x; exact ⟨st _ _ p fun o q => k _ _ (.inl rfl) q, ⟨o, k _ _ (.inl rfl) e⟩, st⟩
theorem HOk.lt (x : HOk P w H h) (e : H a = some o) : a < h.objs.size := (x a o e).lt
theorem HOk.fresh (x : HOk P w H h) (e : h.objs.size ≤ a) : H a = none := by
  cases q : H a with
  | none => rfl
  | some u => exact absurd (Nat.lt_of_lt_of_le (x.lt q) e) (Nat.lt_irrefl _)
/-- every object of the heap is kept -/
theorem HOk.kept (x : HOk P w H h) (k : ∀ b u, h.get? b = some u → h'.get? b = some u) : HOk P w H h' := fun a o e =>
  (x a o e).stay (fun b u _ q => k b u q) (fun _ q => q) fun _ _ q => q
/-- a new object is laid and tracked -/
theorem HOk.laid (x : HOk P w H h) (k : ∀ b u, h.get? b = some u → h'.get? b = some u) (hp : h.objs.size ≤ a) (new : ObjOk P w (upd H a o) h' a o) : HOk P w (upd H a o) h' := fun b u e => by
  have hn := x.fresh hp
  by_cases hb : b = a
  · subst hb; rw [upd_same] at e; cases e; exact new
  · rw [upd_ne hb] at e
    exact (x b u e).stay (fun c v _ q => k c v q) (fun c q => by rw [upd_ne (ne_of_none q hn)]; exact q) fun c xs q => by rw [upd_ne (ne_of_none q hn)]; exact q
end
/-- what may be read as u: it is u, or a known u -/
def Rd (H : Hp) (a : Addr) (u : HO) : Prop := H a = some u ∨ ∃ o, H a = some (.frz o u)
theorem Rd.ok {P : Program} {w : World} {H : Hp} {h : Heap} {a : Addr} {u : HO} (r : Rd H a u) (x : HOk P w H h) : ObjOk P w H h a u := by
  rcases r with r | ⟨o, r⟩
  · exact x a u r
  · obtain ⟨_, q⟩ := x a _ r
    exact q
/-- what may be written -/
def Mut : Option HO → Prop
  | some (.lst _) => True
  | some (.dK _) => True
  | some (.dT _) => True
  | some (.set _ _) => True
  | some (.ins _ _ _) => True
  | some (.ext _) => True
  | _ => False
section
variable {P : Program} {w : World} {H : Hp} {h h' : Heap} {x e : Addr} {o' : HO}
/-- the object at e is changed: x itself, or the dict of the instance x -/
theorem HOk.write (ok : HOk P w H h) (mu : Mut (H x)) (he : e = x ∨ H e = some (.own x)) (k : ∀ b u, b ≠ e → h.get? b = some u → h'.get? b = some u) (heo : ∃ u, h'.get? e = some u)
    (new : ObjOk P w (upd H x o') h' x o') : HOk P w (upd H x o') h' := fun b u q => by
  have nown : ∀ c y, H c = some (.own y) → c ≠ x := fun c y r z => by subst z; rw [r] at mu; exact mu
  have ntup : ∀ c xs, H c = some (.tup xs) → c ≠ x := fun c xs r z => by subst z; rw [r] at mu; exact mu
  by_cases hb : b = x
  · subst hb; rw [upd_same] at q; cases q; exact new
  · rw [upd_ne hb] at q
    by_cases hbe : b = e
    · have q' : H b = some (.own x) := by
        rcases he with z | z
        · exact absurd (hbe.trans z) hb
        · rw [hbe]; exact z
      rw [q] at q'; cases q'
      obtain ⟨v, hv⟩ := heo
      exact ⟨v, by rw [hbe]; exact hv⟩
    · refine (ok b u q).stay (fun c v hc r => k c v ?_ r) (fun c r => by rw [upd_ne (nown c b r)]; exact r) fun c xs r => by rw [upd_ne (ntup c xs r)]; exact r
      rcases hc with rfl | hc
      · exact hbe
      · rintro rfl
        rcases he with z | z
        · exact nown c b hc z
        · rw [hc] at z; cases z; exact hb rfl
end
structure Un (fs ex : List Addr) (H H' : Hp) (h h' : Heap) : Prop where
  keep : ∀ b o, h.get? b = some o → H b = none → b ∉ fs → b ∉ ex → h'.get? b = some o
  slot : ∀ b o, h.get? b = some o → H b = none → b ∈ fs → b ∉ ex → ∃ sl, h'.get? b = some { o with slots := sl }
  free : ∀ b o, h.get? b = some o → H b = none → b ∉ ex → H' b = none
  there : ∀ b o, h.get? b = some o → b ∉ ex → ∃ o', h'.get? b = some o'
  tups : ∀ b xs, H b = some (.tup xs) → H' b = some (.tup xs)
  frzs : ∀ b o u, H b = some (.frz o u) → H' b = some (.frz o u)
  tbls : ∀ b ps, H b = some (.tbl ps) → ∃ more, H' b = some (.tbl (ps ++ more))
section
variable {fs fs' ex ex' : List Addr} {H H1 H2 : Hp} {h h1 h2 h' : Heap} {a x e : Addr} {o : HO}
theorem Un.any (u : Un fs ex H H1 h h1) {b : Addr} {ob : Obj} (q : h.get? b = some ob) (n : H b = none) (hx : b ∉ ex) : ∃ sl, h1.get? b = some { ob with slots := sl } := by
  by_cases hb : b ∈ fs
  · exact u.slot b ob q n hb hx
  · exact ⟨ob.slots, u.keep b ob q n hb hx⟩
theorem Un.trans (a : Un fs ex H H1 h h1) (b : Un fs ex H1 H2 h1 h2) : Un fs ex H H2 h h2 where
  keep := fun c ob q n hc hx => b.keep c ob (a.keep c ob q n hc hx) (a.free c ob q n hx) hc hx
  slot := fun c ob q n hc hx => by
    obtain ⟨sl, e1⟩ := a.slot c ob q n hc hx
    obtain ⟨sl', e2⟩ := b.slot c _ e1 (a.free c ob q n hx) hc hx
    exact ⟨sl', e2⟩
  free := fun c ob q n hx => by
    obtain ⟨o', e1⟩ := a.there c ob q hx
    exact b.free c o' e1 (a.free c ob q n hx) hx
  there := fun c ob q hx => by
    obtain ⟨o', e1⟩ := a.there c ob q hx
    exact b.there c o' e1 hx
  tups := fun c xs q => b.tups c xs (a.tups c xs q)
  frzs := fun c ob xs q => b.frzs c ob xs (a.frzs c ob xs q)
  tbls := fun c ps q => by
    obtain ⟨m1, e1⟩ := a.tbls c ps q
    obtain ⟨m2, e2⟩ := b.tbls c _ e1
    exact ⟨m1 ++ m2, by rw [e2, Array.append_assoc]⟩
theorem Un.kept (k : ∀ b u, h.get? b = some u → h'.get? b = some u) : Un fs ex H H h h' :=
  ⟨fun b ob q _ _ _ => k b ob q, fun b ob q _ _ _ => ⟨ob.slots, k b ob q⟩, fun _ _ _ n _ => n, fun b ob q _ => ⟨ob, k b ob q⟩, fun _ _ q => q, fun _ _ _ q => q, fun _ ps q => ⟨#[], by rw [q]; simp⟩⟩
theorem Un.refl : Un fs ex H H h h := Un.kept fun _ _ q => q
theorem Un.laid (k : ∀ b u, h.get? b = some u → h'.get? b = some u) (hp : h.objs.size ≤ a) (hn : H a = none) : Un fs ex H (upd H a o) h h' where
  keep := fun b u q _ _ _ => k b u q
  slot := fun b u q _ _ _ => ⟨u.slots, k b u q⟩
  free := fun b u q n _ => by rw [upd_ne (Nat.ne_of_lt (Nat.lt_of_lt_of_le (Heap.lt_size q) hp))]; exact n
  there := fun b u q _ => ⟨u, k b u q⟩
  tups := fun b xs q => by rw [upd_ne (ne_of_none q hn)]; exact q
  frzs := fun b u xs q => by rw [upd_ne (ne_of_none q hn)]; exact q
  tbls := fun b ps q => ⟨#[], by rw [upd_ne (ne_of_none q hn), q]; simp⟩
theorem Un.write (mu : Mut (H x)) (he : e = x ∨ H e = some (.own x)) (k : ∀ b u, b ≠ e → h.get? b = some u → h'.get? b = some u) (heo : ∃ u, h'.get? e = some u) : Un fs ex H (upd H x o) h h' := by
  have hx : ∀ b, H b = none → b ≠ x := fun b n z => by subst z; rw [n] at mu; exact mu
  have hb : ∀ b, H b = none → b ≠ e := fun b n z => by
    subst z
    rcases he with r | r
    · exact hx b n r
    · rw [n] at r; cases r
  have hm : ∀ b u, H b = some u → ¬ Mut (some u) → b ≠ x := fun b u q nm z => by subst z; rw [q] at mu; exact nm mu
  refine ⟨fun b u q n _ _ => k b u (hb b n) q, fun b u q n _ _ => ⟨u.slots, k b u (hb b n) q⟩, fun b u q n _ => by rw [upd_ne (hx b n)]; exact n, fun b u q _ => ?_,
    fun b xs q => by rw [upd_ne (hm b _ q fun z => z)]; exact q, fun b u xs q => by rw [upd_ne (hm b _ q fun z => z)]; exact q, fun b ps q => ⟨#[], by rw [upd_ne (hm b _ q fun z => z), q]; simp⟩⟩
  by_cases hbe : b = e
  · subst hbe; exact heo
  · exact ⟨u, k b u hbe q⟩
theorem Un.mono (u : Un fs ex H H1 h h1) (hs : ∀ b ∈ fs, b ∈ fs') (hx : ∀ b ∈ ex, b ∈ ex') : Un fs' ex' H H1 h h1 :=
  ⟨fun b ob q n hb he => u.keep b ob q n (fun z => hb (hs b z)) fun z => he (hx b z), fun _ _ q n _ he => u.any q n fun z => he (hx _ z), fun b ob q n he => u.free b ob q n fun z => he (hx b z), fun b ob q he => u.there b ob q fun z => he (hx b z), u.tups, u.frzs, u.tbls⟩
end
def trk (h : Heap) (H : Hp) : List Addr := (List.range h.objs.size).filter fun a => (H a).isSome
def hidT (h : Heap) (H : Hp) : Heap := PySem.W.hideAll h (trk h H)
theorem hidT_size (h : Heap) (H : Hp) : (hidT h H).objs.size = h.objs.size := PySem.W.hideAll_size _ _
theorem hidT_get {h : Heap} {H : Hp} {b : Addr} {o : Obj} (e : h.get? b = some o) (n : H b = none) : (hidT h H).get? b = some o :=
  PySem.W.hideAll_get _ e fun hm => by
    have q : (H b).isSome = true := (List.mem_filter.mp hm).2
    rw [n] at q; simp at q
theorem of_hidT {h : Heap} {H : Hp} {b : Addr} {o : Obj} (e : (hidT h H).get? b = some o) : h.get? b = some o ∧ H b = none := by
  have e' : h.get? b = some o := PySem.W.of_hideAll (trk h H) e
  refine ⟨e', ?_⟩
  cases q : H b with
  | none => rfl
  | some x =>
    have hm : b ∈ trk h H := List.mem_filter.mpr ⟨List.mem_range.mpr (Heap.lt_size e'), by simp [q]⟩
    have z : (hidT h H).get? b = none := PySem.W.hideAll_none (trk h H) hm
    rw [z] at e; cases e
def allNews (g h : Heap) (L : Addr) : List (Addr × Obj) := (List.range h.objs.size).filterMap fun a => if a = L ∨ (g.get? a).isSome = true then none else (h.get? a).map fun o => (a, o)
def rest (g h : Heap) (L d : Addr) : List (Addr × Obj) := (allNews g h L).filter fun p => decide (p.1 ≠ d)
end L2
namespace L2
open PySem PySem.Spec PyProof.Rows
/-- the module's facts, over the base: the heap at the law's entry without what is tracked there -/
structure Mod (K : PySem.W.Frag) (mg : Str → Option Value) (base : Heap) : Prop where
  kin : K.In base
  glob : base.Ns mainGlobals mg
  blt : ∃ mb, base.Ns builtinsNs mb ∧ ∀ x : Str, x ≠ "__name__" → mb x = bootBuiltins x
  nolimit : base.NoLimit
/-- the context: a def's body (or a comprehension's block) running. base: fixed through the whole law; s₀, H₀: the entry; outer: the frames whose slots others may change (a def's callers); stack: all frames that run;
   ex: iterators that were made ahead of the entry and are walked here (a comprehension's); fn: the names whose cells were made at the entry (a def: all; a comprehension's block: its own); calm: not within an except suite; pn: pins that every state bears; xe: what is wanted of an exception that leaves the code -/
structure Cx where
  prog : Program
  w : World
  K : PySem.W.Frag
  mg : Str → Option Value
  base : Heap
  A : Around
  N : List Str
  s₀ : Shared
  H₀ : Hp
  env : Env
  outer : List Env
  stack : List Env
  ex : List Addr
  fn : Str → Bool
  calm : Bool
  pn : List (Addr × Obj)
  xe : Value → Shared → Prop
/-- the callers' frames -/
def frs (l : List Env) : List Addr := l.filterMap (·.frame)
abbrev Cx.fs (X : Cx) : List Addr := frs X.outer
def Vis (sc : Scope) (x : Str) : Prop := sc.names.lookup x = some .local ∨ sc.names.lookup x = some .cell ∨ sc.names.lookup x = some .free
def Loc (sc : Scope) (x : Str) : Prop := sc.names.lookup x = some .local ∨ sc.names.lookup x = some .cell
def Look (env : Env) (h : Heap) (m : Str → Option Value) (x : Str) (u : Value) : Prop :=
  (env.kindOf x = some .local ∧ m x = some u) ∨ ((env.kindOf x = some .cell ∨ env.kindOf x = some .free) ∧ ∃ c, env.cells.lookup x = some c ∧ h.IsCell c (some u))
structure Cx.Ok (X : Cx) : Prop where
  mod : Mod X.K X.mg X.base
  kind : X.env.scope.kind = .function
  glob : X.env.globals = mainGlobals
  blt : X.env.builtins = builtinsNs
  above : X.s₀.heap.objs.size ≤ X.env.locals
  inj : ∀ x y c, X.env.cells.lookup x = some c → X.env.cells.lookup y = some c → x = y
  has : ∀ x, (X.env.kindOf x = some .cell ∨ X.env.kindOf x = some .free) → ∃ c, X.env.cells.lookup x = some c
  cab : ∀ x c, X.fn x = true → X.env.cells.lookup x = some c → X.s₀.heap.objs.size ≤ c
  hd : X.calm = true → X.A.handled = none
  frames : X.A.frames = some X.stack
  stk : X.stack = X.outer ∨ (X.stack = X.env :: X.outer ∧ X.env.frame = some X.env.locals)
  exf : ∀ b ∈ X.ex, b ≠ X.env.locals ∧ ∀ x c, X.env.cells.lookup x = some c → c ≠ b
  bs : ∀ b o, X.base.get? b = some o → X.s₀.heap.get? b = some o ∧ X.H₀ b = none
  bsz : X.base.objs.size ≤ X.s₀.heap.objs.size
  noex : ∀ b o, X.base.get? b = some o → b ∉ X.ex
  exfs : ∀ b ∈ X.ex, b ∉ X.fs
  funs : X.s₀.heap.FunFrames X.base X.outer
  frf : ∀ b ∈ X.fs, X.H₀ b = none
structure Inv (X : Cx) (pins : List (Addr × Obj)) (σ : List (Option V)) (H : Hp) (s : Shared) : Prop where
  ok : X.Ok
  os : s.os = X.s₀.os
  bare : AllBare s.gens
  base : Un X.fs X.ex X.H₀ H X.s₀.heap s.heap
  loc : ∃ m, s.heap.Ns X.env.locals m ∧ ∀ (i : Nat) (x : Str) (v : V), X.N[i]? = some x → σ[i]? = some (some v) → Vis X.env.scope x → ∃ u, RelV v u ∧ Look X.env s.heap m x u
  cell : ∀ x c, X.env.cells.lookup x = some c → ∃ v, s.heap.IsCell c v
  free : H X.env.locals = none
  freeC : ∀ x c, X.env.cells.lookup x = some c → H c = none
  pin : ∀ p ∈ X.pn ++ pins, s.heap.get? p.1 = some p.2 ∧ H p.1 = none ∧ p.1 ≠ X.env.locals ∧ p.1 ∉ X.fs ∧ ∀ v, p.2.data ≠ .cell v
  hok : HOk X.prog X.w H s.heap
  len : σ.length = X.N.length
section
variable {X : Cx} {pins : List (Addr × Obj)} {σ : List (Option V)} {H H' : Hp} {s : Shared} {h' : Heap}
theorem Cx.Ok.nofr (ok : X.Ok) {b : Addr} {o : Obj} (e : X.base.get? b = some o) : b ∉ X.fs := fun hb => by
  have := (ok.funs.mem hb).1
  rw [e] at this; cases this
theorem Inv.bs (I : Inv X pins σ H s) : ∀ b o, X.base.get? b = some o → s.heap.get? b = some o ∧ H b = none := fun b o e =>
  ⟨I.base.keep b o (I.ok.bs b o e).1 (I.ok.bs b o e).2 (I.ok.nofr e) (I.ok.noex b o e), I.base.free b o (I.ok.bs b o e).1 (I.ok.bs b o e).2 (I.ok.noex b o e)⟩
theorem Inv.bk (I : Inv X pins σ H s) : ∀ b o, X.base.get? b = some o → s.heap.get? b = some o := fun b o e => (I.bs b o e).1
theorem Inv.mod (I : Inv X pins σ H s) : Mod X.K X.mg X.base := I.ok.mod
theorem Inv.kIn (I : Inv X pins σ H s) : X.K.In s.heap := I.ok.mod.kin.keeps I.bk
/-- the frame over the base: for OpenK's rules (K.In X.base is I.mod.kin) -/
theorem Inv.fr (I : Inv X pins σ H s) : ∃ m, Fr X.base X.env.locals s.heap m :=
  let ⟨m, hn, _⟩ := I.loc
  ⟨m, hn, I.bk, Nat.le_trans I.ok.bsz I.ok.above⟩
theorem Inv.lt (I : Inv X pins σ H s) : X.env.locals < s.heap.objs.size := let ⟨_, hn, _⟩ := I.loc; hn.lt
theorem Inv.sz (I : Inv X pins σ H s) : X.s₀.heap.objs.size ≤ s.heap.objs.size := Nat.le_trans I.ok.above (Nat.le_of_lt I.lt)
theorem Inv.nofs (I : Inv X pins σ H s) {a : Addr} (h : s.heap.objs.size ≤ a) : a ∉ X.fs := fun hb => by
  obtain ⟨_, o, ho, _⟩ := I.ok.funs.mem hb
  exact absurd (Nat.lt_of_lt_of_le (Heap.lt_size ho) (Nat.le_trans I.sz h)) (Nat.lt_irrefl _)
theorem Inv.cne (I : Inv X pins σ H s) : ∀ x c, X.env.cells.lookup x = some c → c ≠ X.env.locals := fun x c e z => by
  obtain ⟨v, o, ho, hd⟩ := I.cell x c e
  obtain ⟨m, ⟨o', es, ep, ho', hd', _⟩, _⟩ := I.loc
  rw [z, ho'] at ho; cases ho; rw [hd'] at hd; cases hd
theorem Inv.funs (I : Inv X pins σ H s) : s.heap.FunFrames X.base X.outer := by
  have all : ∀ (l : List Env), (∀ b ∈ frs l, b ∈ X.fs) → X.s₀.heap.FunFrames X.base l → s.heap.FunFrames X.base l := by
    intro l
    induction l with
    | nil => intro _ _; trivial
    | cons env r ih =>
      intro hs hl
      obtain ⟨hk, ⟨L, o, hf, hn, ho, hd⟩, hr⟩ := hl
      have hL : L ∈ X.fs := hs L (by unfold frs; rw [List.filterMap_cons, hf]; exact List.mem_cons_self)
      obtain ⟨sl, e⟩ := I.base.slot L o ho (I.ok.frf L hL) hL fun z => I.ok.exfs L z hL
      exact ⟨hk, ⟨L, _, hf, hn, e, hd⟩, ih (fun b hb => hs b (by unfold frs; rw [List.filterMap_cons, hf]; exact List.mem_cons_of_mem _ hb)) hr⟩
  exact all X.outer (fun _ hb => hb) I.ok.funs
/-- the frames that run, for a call -/
theorem Inv.stack (I : Inv X pins σ H s) : s.heap.FunFrames X.base X.stack := by
  rcases I.ok.stk with e | ⟨e, hf⟩
  · rw [e]; exact I.funs
  · rw [e]
    obtain ⟨m, hn, _⟩ := I.loc
    refine .cons (by rw [I.ok.kind]; decide) hf hn ?_ I.funs
    exact Heap.get?_none_of_le (Nat.le_trans I.ok.bsz I.ok.above)
theorem Inv.stkSub (I : Inv X pins σ H s) : ∀ b ∈ frs X.stack, b ∈ X.env.locals :: X.fs := fun b hb => by
  rcases I.ok.stk with e | ⟨e, hf⟩
  · rw [e] at hb; exact List.mem_cons_of_mem _ hb
  · rw [e] at hb
    unfold frs at hb
    rw [List.filterMap_cons, hf] at hb
    exact hb
theorem Inv.stkFree (I : Inv X pins σ H s) : ∀ b ∈ frs X.stack, H b = none := fun b hb => by
  rcases List.mem_cons.mp (I.stkSub b hb) with e | hb
  · rw [e]; exact I.free
  · obtain ⟨_, o, ho, _⟩ := I.ok.funs.mem hb
    exact I.base.free b o ho (I.ok.frf b hb) fun z => I.ok.exfs b z hb
/-- THE STEP: the untracked objects but the frame and the records at ch are kept (the callers' frames up to slots), the frame's map is kept, the new abstract heap is held -/
theorem Inv.step {g' : Array GenState} {t' : Nat} {d' : Drawn} {ch : List Addr} (I : Inv X pins σ H s)
    (hch : ∀ b ∈ ch, (b ∈ X.ex ∨ X.s₀.heap.objs.size ≤ b) ∧ b ≠ X.env.locals ∧ (∀ x c, X.env.cells.lookup x = some c → c ≠ b) ∧ ∀ p ∈ X.pn ++ pins, p.1 ≠ b)
    (keep : ∀ b o, b ≠ X.env.locals → b ∉ X.fs → b ∉ ch → s.heap.get? b = some o → H b = none → h'.get? b = some o)
    (slot : ∀ b o, b ≠ X.env.locals → b ∈ X.fs → b ∉ ch → s.heap.get? b = some o → H b = none → ∃ sl, h'.get? b = some { o with slots := sl }) (free : ∀ b o, b ∉ ch → s.heap.get? b = some o → H b = none → H' b = none)
    (there : ∀ b o, b ∉ ch → s.heap.get? b = some o → ∃ o', h'.get? b = some o')
    (tups : ∀ b xs, H b = some (.tup xs) → H' b = some (.tup xs)) (frzs : ∀ b o u, H b = some (.frz o u) → H' b = some (.frz o u)) (tbls : ∀ b ps, H b = some (.tbl ps) → ∃ more, H' b = some (.tbl (ps ++ more)))
    (ns : ∀ m, s.heap.Ns X.env.locals m → h'.Ns X.env.locals m) (hok : HOk X.prog X.w H' h') (hg : AllBare g') :
    Inv X pins σ H' { s with heap := h', gens := g', drawn := d', toks := t' } := by
  have neL : ∀ b o, X.s₀.heap.get? b = some o → b ≠ X.env.locals := fun b o e => Nat.ne_of_lt (Nat.lt_of_lt_of_le (Heap.lt_size e) I.ok.above)
  have neC : ∀ b o, X.s₀.heap.get? b = some o → b ∉ X.ex → b ∉ ch := fun b o e hx hb => by
    rcases (hch b hb).1 with z | z
    · exact hx z
    · exact absurd (Nat.lt_of_lt_of_le (Heap.lt_size e) z) (Nat.lt_irrefl _)
  have cellK : ∀ x c, X.env.cells.lookup x = some c → ∀ v, s.heap.IsCell c v → h'.IsCell c v := fun x c e v ⟨o, ho, hd⟩ => by
    have nch : c ∉ ch := fun z => (hch c z).2.2.1 x c e rfl
    by_cases hc : c ∈ X.fs
    · obtain ⟨sl, q⟩ := slot c o (I.cne x c e) hc nch ho (I.freeC x c e)
      exact ⟨_, q, hd⟩
    · exact ⟨o, keep c o (I.cne x c e) hc nch ho (I.freeC x c e), hd⟩
  refine ⟨I.ok, I.os, hg, ⟨fun b o e n hb hx => ?_, fun b o e n hb hx => ?_, fun b o e n hx => ?_, fun b o e hx => ?_, fun b xs e => tups b xs (I.base.tups b xs e), fun b o xs e => frzs b o xs (I.base.frzs b o xs e), fun b ps e => ?_⟩, ?_, fun x c e => ?_, ?_, fun x c e => ?_, fun p hp => ?_, hok, I.len⟩
  · exact keep b o (neL b o e) hb (neC b o e hx) (I.base.keep b o e n hb hx) (I.base.free b o e n hx)
  · obtain ⟨sl, e1⟩ := I.base.slot b o e n hb hx
    obtain ⟨sl', e2⟩ := slot b _ (neL b o e) hb (neC b o e hx) e1 (I.base.free b o e n hx)
    exact ⟨sl', e2⟩
  · obtain ⟨o', e1⟩ := I.base.there b o e hx
    exact free b o' (neC b o e hx) e1 (I.base.free b o e n hx)
  · obtain ⟨o', e1⟩ := I.base.there b o e hx
    exact there b o' (neC b o e hx) e1
  · obtain ⟨m1, e1⟩ := I.base.tbls b ps e
    obtain ⟨m2, e2⟩ := tbls b _ e1
    exact ⟨m1 ++ m2, by rw [e2, Array.append_assoc]⟩
  · obtain ⟨m, hn, hl⟩ := I.loc
    refine ⟨m, ns m hn, fun i x v e1 e2 e3 => ?_⟩
    obtain ⟨u, r, l⟩ := hl i x v e1 e2 e3
    refine ⟨u, r, ?_⟩
    rcases l with l | ⟨k, c, e, z⟩
    · exact .inl l
    · exact .inr ⟨k, c, e, cellK x c e _ z⟩
  · obtain ⟨v, z⟩ := I.cell x c e
    exact ⟨v, cellK x c e v z⟩
  · obtain ⟨m, ⟨o, _, _, ho, _⟩, _⟩ := I.loc
    exact free _ o (fun z => (hch _ z).2.1 rfl) ho I.free
  · obtain ⟨v, o, ho, hd⟩ := I.cell x c e
    exact free c o (fun z => (hch c z).2.2.1 x c e rfl) ho (I.freeC x c e)
  · obtain ⟨e, n, ne, nf, d⟩ := I.pin p hp
    have nch : p.1 ∉ ch := fun z => (hch p.1 z).2.2.2 p hp rfl
    exact ⟨keep p.1 p.2 ne nf nch e n, free p.1 p.2 nch e n, ne, nf, d⟩
/-- .. where the frame's own object is kept too -/
theorem Inv.un {t' : Nat} (I : Inv X pins σ H s) (u : Un X.fs [] H H' s.heap h') (hok : HOk X.prog X.w H' h') : Inv X pins σ H' { s with heap := h', toks := t' } := by
  obtain ⟨m, ⟨o, es, ep, ho, r⟩, _⟩ := id I.loc
  obtain ⟨sl, hL⟩ := u.any ho I.free (by simp)
  exact I.step (g' := s.gens) (d' := s.drawn) (ch := []) (fun _ z => nomatch z) (fun b o _ hb _ e n => u.keep b o e n hb (by simp)) (fun b o _ hb _ e n => u.slot b o e n hb (by simp)) (fun b o _ e n => u.free b o e n (by simp)) (fun b o _ e => u.there b o e (by simp)) u.tups u.frzs u.tbls (fun m' hm => by
    obtain ⟨o', es', ep', ho', r'⟩ := hm
    rw [ho] at ho'; cases ho'
    exact ⟨_, es', ep', hL, r'⟩) hok I.bare
/-- behind a call (or a comprehension's block): the slots of this frame may have changed too, the records at ch may have turned -/
theorem Inv.call {g' : Array GenState} {t' : Nat} {d' : Drawn} {ch : List Addr} (I : Inv X pins σ H s) (u : Un (frs X.stack) ch H H' s.heap h') (hok : HOk X.prog X.w H' h') (hg : AllBare g')
    (hch : ∀ b ∈ ch, (b ∈ X.ex ∨ X.s₀.heap.objs.size ≤ b) ∧ b ≠ X.env.locals ∧ (∀ x c, X.env.cells.lookup x = some c → c ≠ b) ∧ ∀ p ∈ X.pn ++ pins, p.1 ≠ b) :
    Inv X pins σ H' { s with heap := h', gens := g', drawn := d', toks := t' } := by
  obtain ⟨m, ⟨o, es, ep, ho, r⟩, _⟩ := id I.loc
  obtain ⟨sl, hL⟩ := u.any ho I.free fun z => (hch _ z).2.1 rfl
  exact I.step (ch := ch) hch (fun b o hL hb hc e n => u.keep b o e n (fun z => (List.mem_cons.mp (I.stkSub b z)).elim hL hb) hc) (fun b o _ _ hc e n => u.any e n hc) (fun b o hc e n => u.free b o e n hc) (fun b o hc e => u.there b o e hc) u.tups u.frzs u.tbls (fun m' hm => by
    obtain ⟨o', es', ep', ho', r'⟩ := hm
    rw [ho] at ho'; cases ho'
    exact ⟨_, es', ep', hL, r'⟩) hok hg
/-- an untracked record of ours (an iterator) has turned -/
theorem Inv.turned {t' : Nat} {it : Addr} (I : Inv X pins σ H s) (k : ∀ b o, b ≠ it → s.heap.get? b = some o → h'.get? b = some o) (hn : H it = none) (hL : it ≠ X.env.locals)
    (h1 : it ∈ X.ex ∨ X.s₀.heap.objs.size ≤ it) (h2 : ∀ x c, X.env.cells.lookup x = some c → c ≠ it) (h3 : ∀ p ∈ X.pn ++ pins, p.1 ≠ it) : Inv X pins σ H { s with heap := h', toks := t' } := by
  have nit : ∀ b u, H b = some u → b ≠ it := fun b u e z => by rw [z, hn] at e; cases e
  refine I.step (g' := s.gens) (d' := s.drawn) (ch := [it]) (fun b hb => ?_) (fun b o _ _ hc e _ => k b o (fun z => hc (by simp [z])) e) (fun b o _ _ hc e _ => ⟨o.slots, k b o (fun z => hc (by simp [z])) e⟩) (fun _ _ _ _ n => n)
    (fun b o hc e => ⟨o, k b o (fun z => hc (by simp [z])) e⟩) (fun _ _ e => e) (fun _ _ _ e => e) (fun b ps e => ⟨#[], by rw [e]; simp⟩) (fun m hm => ?_) (fun b u e => ?_) I.bare
  · have e : b = it := by simpa using hb
    subst e
    exact ⟨h1, hL, h2, h3⟩
  · obtain ⟨o, es, ep, ho, r⟩ := hm
    exact ⟨o, es, ep, k _ o (Ne.symm hL) ho, r⟩
  · refine (I.hok b u e).stay (fun c v hc q => k c v ?_ q) (fun _ q => q) fun _ _ q => q
    rcases hc with z | z
    · rw [z]; exact nit b u e
    · exact nit c _ z
theorem Inv.tok (I : Inv X pins σ H s) (t : Nat) : Inv X pins σ H { s with toks := t } := I.un (h' := s.heap) (t' := t) Un.refl I.hok
/-- all objects kept -/
theorem Inv.kept {t' : Nat} (I : Inv X pins σ H s) (k : ∀ b u, s.heap.get? b = some u → h'.get? b = some u) : Inv X pins σ H { s with heap := h', toks := t' } := I.un (Un.kept k) (I.hok.kept k)
/-- a new object laid and tracked -/
theorem Inv.laid {a : Addr} {o : HO} {t' : Nat} (I : Inv X pins σ H s) (k : ∀ b u, s.heap.get? b = some u → h'.get? b = some u) (hp : s.heap.objs.size ≤ a) (new : ObjOk X.prog X.w (upd H a o) h' a o) :
    Inv X pins σ (upd H a o) { s with heap := h', toks := t' } := I.un (Un.laid k hp (I.hok.fresh hp)) (I.hok.laid k hp new)
/-- an object written -/
theorem Inv.write {x e : Addr} {o : HO} {t' : Nat} (I : Inv X pins σ H s) (mu : Mut (H x)) (he : e = x ∨ H e = some (.own x)) (k : ∀ b u, b ≠ e → s.heap.get? b = some u → h'.get? b = some u) (heo : ∃ u, h'.get? e = some u)
    (new : ObjOk X.prog X.w (upd H x o) h' x o) : Inv X pins σ (upd H x o) { s with heap := h', toks := t' } := I.un (Un.write mu he k heo) (I.hok.write mu he k heo new)
/-- forgetting slots, pins -/
theorem Inv.weak {σ' : List (Option V)} (I : Inv X pins σ H s) (hl : σ'.length = σ.length) (w : ∀ (i : Nat) v, σ'[i]? = some (some v) → σ[i]? = some (some v)) : Inv X pins σ' H s :=
  ⟨I.ok, I.os, I.bare, I.base, let ⟨m, hn, hl'⟩ := I.loc; ⟨m, hn, fun i x v e1 e2 e3 => hl' i x v e1 (w i v e2) e3⟩, I.cell, I.free, I.freeC, I.pin, I.hok, hl.trans I.len⟩
theorem Inv.pins_of {pins' : List (Addr × Obj)} (I : Inv X pins σ H s) (h : ∀ p ∈ pins', s.heap.get? p.1 = some p.2 ∧ H p.1 = none ∧ p.1 ≠ X.env.locals ∧ p.1 ∉ X.fs ∧ ∀ v, p.2.data ≠ .cell v) : Inv X pins' σ H s :=
  ⟨I.ok, I.os, I.bare, I.base, I.loc, I.cell, I.free, I.freeC, fun p hp => (List.mem_append.mp hp).elim (fun z => I.pin p (List.mem_append_left _ z)) (h p), I.hok, I.len⟩
theorem nodup_ix {N : List Str} (hN : N.Nodup) {i j : Nat} {x : Str} (a : N[i]? = some x) (b : N[j]? = some x) : i = j := by
  obtain ⟨h1, e1⟩ := List.getElem?_eq_some_iff.mp a
  obtain ⟨h2, e2⟩ := List.getElem?_eq_some_iff.mp b
  exact (List.getElem_inj hN).mp (e1.trans e2.symm)
/-- a name is stored; what changed -/
theorem store_ok2 {M : Model} {A : Around} {E : Value → Shared → Prop} {i : Nat} {x : Str} {v : V} {u : Value} {Q : Unit → Shared → Prop} (I : Inv X pins σ H s) (hN : X.N.Nodup) (hi : X.N[i]? = some x) (hx : Loc X.env.scope x) (r : RelV v u)
    (h : ∀ s', Inv X pins (σ.set i (some v)) H s' → (∃ a, Heap.SameBut a s.heap s'.heap ∧ (a = X.env.locals ∨ X.env.cells.lookup x = some a)) → Q () s') (hf : X.fn x = true ∨ X.env.scope.names.lookup x = some .local := by first | exact .inl rfl | exact .inr rfl | assumption) : wpAny M A (storeName X.env x u) Q E s := by
  obtain ⟨m, hn, hl⟩ := id I.loc
  have hcls : (X.env.scope.kind == .class || (X.env.scope.kind == .module && X.env.locals != X.env.globals)) = false := by rw [I.ok.kind]; rfl
  have hiσ : i < σ.length := by rw [I.len]; exact (List.getElem?_eq_some_iff.mp hi).1
  have cne := I.cne
  have tracked : ∀ {a : Addr} {h' : Heap}, (∃ o, s.heap.get? a = some o ∧ H a = none) → Heap.SameBut a s.heap h' → HOk X.prog X.w H h' := fun {a h'} ha hs b ob e => by
    obtain ⟨_, _, hfree⟩ := ha
    refine (I.hok b ob e).stay (fun c w' hc q => (hs.2 c ?_).trans q) (fun _ q => q) fun _ _ q => q
    rintro rfl
    rcases hc with rfl | hc
    · rw [hfree] at e; cases e
    · rw [hfree] at hc; cases hc
  rcases hx with hk | hk
  · refine wpAny_storeName_local hk hn (fun h' hn' hs => ?_) hcls
    obtain ⟨oL, _, _, hoL, _⟩ := id hn
    refine h _ ⟨I.ok, I.os, I.bare, ⟨fun b o e n hb hx => ?_, fun b o e n hb hx => ?_, I.base.free, fun b o e hx => ?_, I.base.tups, I.base.frzs, I.base.tbls⟩, ⟨_, hn', fun j y v' e1 e2 e3 => ?_⟩, fun y c e => ?_, I.free, I.freeC, fun p hp => ?_, tracked ⟨oL, hoL, I.free⟩ hs, by simpa using I.len⟩ ⟨_, hs, .inl rfl⟩
    · exact (hs.2 b (Nat.ne_of_lt (Nat.lt_of_lt_of_le (Heap.lt_size e) I.ok.above))).trans (I.base.keep b o e n hb hx)
    · obtain ⟨sl, e1⟩ := I.base.slot b o e n hb hx
      exact ⟨sl, (hs.2 b (Nat.ne_of_lt (Nat.lt_of_lt_of_le (Heap.lt_size e) I.ok.above))).trans e1⟩
    · obtain ⟨o', e1⟩ := I.base.there b o e hx
      exact ⟨o', (hs.2 b (Nat.ne_of_lt (Nat.lt_of_lt_of_le (Heap.lt_size e) I.ok.above))).trans e1⟩
    · by_cases hj : j = i
      · subst hj
        rw [hi] at e1; cases e1
        rw [List.getElem?_set_self hiσ] at e2
        cases e2
        exact ⟨u, r, .inl ⟨hk, by simp⟩⟩
      · rw [List.getElem?_set_ne (Ne.symm hj)] at e2
        obtain ⟨u', r', q⟩ := hl j y v' e1 e2 e3
        refine ⟨u', r', ?_⟩
        rcases q with ⟨k, e⟩ | ⟨k, c, e, z⟩
        · refine .inl ⟨k, ?_⟩
          have : y ≠ x := fun e => hj (nodup_ix hN e1 (e ▸ hi))
          simp [this, e]
        · exact .inr ⟨k, c, e, z.sameBut hs (cne y c e)⟩
    · obtain ⟨w', z⟩ := I.cell y c e
      exact ⟨w', z.sameBut hs (cne y c e)⟩
    · obtain ⟨e, n, ne, nf, d⟩ := I.pin p hp
      exact ⟨(hs.2 p.1 ne).trans e, n, ne, nf, d⟩
  · have hfn : X.fn x = true := by
      rcases hf with z | z
      · exact z
      · rw [z] at hk; cases hk
    obtain ⟨c, hc⟩ := I.ok.has x (.inl hk)
    obtain ⟨w', z⟩ := I.cell x c hc
    refine wpAny_storeName_cell I.ok.kind hk hc z (fun h' hc' hs => ?_)
    obtain ⟨oc, hoc, hocd⟩ := id z
    refine h { s with heap := h' } ⟨I.ok, I.os, I.bare, ⟨fun b o e n hb hx => ?_, fun b o e n hb hx => ?_, I.base.free, fun b o e hx => ?_, I.base.tups, I.base.frzs, I.base.tbls⟩, ⟨m, hn.sameBut hs (Ne.symm (cne x c hc)), fun j y v' e1 e2 e3 => ?_⟩, fun y c' e => ?_, I.free, I.freeC, fun p hp => ?_, tracked ⟨oc, hoc, I.freeC x c hc⟩ hs, by simpa using I.len⟩ ⟨c, hs, .inr hc⟩
    · exact (hs.2 b (Nat.ne_of_lt (Nat.lt_of_lt_of_le (Heap.lt_size e) (I.ok.cab x c hfn hc)))).trans (I.base.keep b o e n hb hx)
    · obtain ⟨sl, e1⟩ := I.base.slot b o e n hb hx
      exact ⟨sl, (hs.2 b (Nat.ne_of_lt (Nat.lt_of_lt_of_le (Heap.lt_size e) (I.ok.cab x c hfn hc)))).trans e1⟩
    · obtain ⟨o', e1⟩ := I.base.there b o e hx
      exact ⟨o', (hs.2 b (Nat.ne_of_lt (Nat.lt_of_lt_of_le (Heap.lt_size e) (I.ok.cab x c hfn hc)))).trans e1⟩
    · by_cases hj : j = i
      · subst hj
        rw [hi] at e1; cases e1
        rw [List.getElem?_set_self hiσ] at e2
        cases e2
        exact ⟨u, r, .inr ⟨.inl hk, c, hc, hc'⟩⟩
      · rw [List.getElem?_set_ne (Ne.symm hj)] at e2
        obtain ⟨u', r', q⟩ := hl j y v' e1 e2 e3
        refine ⟨u', r', ?_⟩
        rcases q with q | ⟨k, c', e, z'⟩
        · exact .inl q
        · refine .inr ⟨k, c', e, z'.sameBut hs ?_⟩
          rintro rfl
          exact hj (nodup_ix hN e1 (I.ok.inj _ _ _ e hc ▸ hi))
    · by_cases hcc : c' = c
      · subst hcc; exact ⟨_, hc'⟩
      · obtain ⟨w2, z2⟩ := I.cell y c' e
        exact ⟨w2, z2.sameBut hs hcc⟩
    · obtain ⟨e, n, ne, nf, d⟩ := I.pin p hp
      refine ⟨(hs.2 p.1 ?_).trans e, n, ne, nf, d⟩
      intro q
      rw [q, hoc] at e
      have q' : oc = p.2 := Option.some.inj e
      exact d w' (by rw [← q']; exact hocd)
theorem store_ok {M : Model} {A : Around} {E : Value → Shared → Prop} {i : Nat} {x : Str} {v : V} {u : Value} {Q : Unit → Shared → Prop} (I : Inv X pins σ H s) (hN : X.N.Nodup) (hi : X.N[i]? = some x) (hx : Loc X.env.scope x) (r : RelV v u)
    (h : ∀ s', Inv X pins (σ.set i (some v)) H s' → Q () s') (hf : X.fn x = true ∨ X.env.scope.names.lookup x = some .local := by first | exact .inl rfl | exact .inr rfl | assumption) : wpAny M A (storeName X.env x u) Q E s :=
  store_ok2 I hN hi hx r (fun s' I' _ => h s' I') hf
/-- behind a call or a block, the state as it is -/
theorem Inv.call' {s' : Shared} {ch : List Addr} (I : Inv X pins σ H s) (ho : s'.os = s.os) (u : Un (frs X.stack) ch H H' s.heap s'.heap) (hok : HOk X.prog X.w H' s'.heap) (hg : AllBare s'.gens)
    (hch : ∀ b ∈ ch, (b ∈ X.ex ∨ X.s₀.heap.objs.size ≤ b) ∧ b ≠ X.env.locals ∧ (∀ x c, X.env.cells.lookup x = some c → c ≠ b) ∧ ∀ p ∈ X.pn ++ pins, p.1 ≠ b) : Inv X pins σ H' s' := by
  obtain ⟨h', g', d', t', o'⟩ := s'
  have e : o' = s.os := ho
  subst e
  exact I.call (g' := g') (t' := t') (d' := d') u hok hg hch
end
/-- an exception: its class, its own dict's address (where it has one), the abstract heap behind it -/
abbrev XK := Value → Option Addr → Hp → Prop
abbrev St := List (Option V)
abbrev VK := V → Hp → Prop
/-- an expression's reading; a test's; an argument list's -/
abbrev TE := St → Hp → VK → Prop
abbrev TT := St → Hp → (Bool → Hp → Prop) → Prop
abbrev TA := St → Hp → (List V → Hp → Prop) → Prop
/-- what is wanted behind a statement -/
structure Ends where
  nx : St → Hp → Prop
  rt : VK
  bk : St → Hp → Prop := fun _ _ => False
  ct : St → Hp → Prop := fun _ _ => False
abbrev TS := Ends → St → Hp → Prop
def EP (X : Cx) (pins : List (Addr × Obj)) (σ : St) (Q : VK) (u : Value) (s' : Shared) : Prop := ∃ v H', Inv X pins σ H' s' ∧ RelV v u ∧ Q v H'
def TP (X : Cx) (pins : List (Addr × Obj)) (σ : St) (Q : Bool → Hp → Prop) (b : Bool) (s' : Shared) : Prop := ∃ H', Inv X pins σ H' s' ∧ Q b H'
def AP (X : Cx) (pins : List (Addr × Obj)) (σ : St) (Q : List V → Hp → Prop) (us : List Value) (s' : Shared) : Prop := ∃ vs H', Inv X pins σ H' s' ∧ Vals vs us ∧ Q vs H'
def SP (X : Cx) (pins : List (Addr × Obj)) (D : Ends) (f : Flow) (s' : Shared) : Prop :=
  match f with
  | .next => ∃ σ' H', Inv X pins σ' H' s' ∧ D.nx σ' H'
  | .brk => ∃ σ' H', Inv X pins σ' H' s' ∧ D.bk σ' H'
  | .cont => ∃ σ' H', Inv X pins σ' H' s' ∧ D.ct σ' H'
  | .ret u => ∃ v σ' H', Inv X pins σ' H' s' ∧ RelV v u ∧ D.rt v H'
def PE (X : Cx) (e : Expr) (t : TE) : Prop :=
  ∀ (pins : List (Addr × Obj)) (s : Shared) (σ : St) (H : Hp) (Q : VK), Inv X pins σ H s → t σ H Q → wpAny (model X.prog X.w) X.A (eval e X.env) (EP X pins σ Q) X.xe s
def PT (X : Cx) (e : Expr) (t : TT) : Prop :=
  ∀ (pins : List (Addr × Obj)) (s : Shared) (σ : St) (H : Hp) (Q : Bool → Hp → Prop), Inv X pins σ H s → t σ H Q → wpAny (model X.prog X.w) X.A (isTrue e X.env (eval e X.env)) (TP X pins σ Q) X.xe s
/-- a test whatever its 'whole' is (and, or) -/
def PW (X : Cx) (e : Expr) (t : TT) : Prop :=
  ∀ (whole : Sem Value) (pins : List (Addr × Obj)) (s : Shared) (σ : St) (H : Hp) (Q : Bool → Hp → Prop), Inv X pins σ H s → t σ H Q → wpAny (model X.prog X.w) X.A (isTrue e X.env whole) (TP X pins σ Q) X.xe s
theorem PW.pt {X : Cx} {e : Expr} {t : TT} (h : PW X e t) : PT X e t := h _
/-- an argument list (no star), from the left -/
def PA (X : Cx) (es : List Expr) (t : TA) : Prop :=
  ∀ (pos : Pos) (pins : List (Addr × Obj)) (s : Shared) (σ : St) (H : Hp) (Q : List V → Hp → Prop), Inv X pins σ H s → t σ H Q → wpAny (model X.prog X.w) X.A (spliced (backTo pos (starEach es X.env))) (AP X pins σ Q) X.xe s
def PS (X : Cx) (st : Stmt) (t : TS) : Prop :=
  ∀ (pins : List (Addr × Obj)) (s : Shared) (σ : St) (H : Hp) (D : Ends), Inv X pins σ H s → t D σ H → wpAny (model X.prog X.w) X.A (exec st X.env) (SP X pins D) X.xe s
def PSs (X : Cx) (st : List Stmt) (t : TS) : Prop :=
  ∀ (pins : List (Addr × Obj)) (s : Shared) (σ : St) (H : Hp) (D : Ends), Inv X pins σ H s → t D σ H → wpAny (model X.prog X.w) X.A (execs st X.env) (SP X pins D) X.xe s
/-- weaken the end -/
theorem thn {α : Type} {t : Sem α} {Q Q' : α → Shared → Prop} {M : Model} {A : Around} {E : Value → Shared → Prop} {s : Shared} (h : wpAny M A t Q E s) (hQ : ∀ a s, Q a s → Q' a s) : wpAny M A t Q' E s := wpAny_mono h hQ fun _ _ x => x
end L2
namespace L2
open PySem PySem.Spec PyProof.Rows
section
variable {X : Cx}
/-- two expressions in a row -/
theorem bin {a b : Expr} {ta tb : TE} (ha : PE X a ta) (hb : PE X b tb) {pins : List (Addr × Obj)} {s : Shared} {σ : St} {H : Hp} {R : V → V → Hp → Prop} (I : Inv X pins σ H s) (h : ta σ H fun x H1 => tb σ H1 fun y H2 => R x y H2)
    {α : Type} {Q : α → Shared → Prop} {f : Value → Value → Sem α}
    (hf : ∀ v u s2 x y H2, Inv X pins σ H2 s2 → RelV x v → RelV y u → R x y H2 → wpAny (model X.prog X.w) X.A (f v u) Q X.xe s2) :
    wpAny (model X.prog X.w) X.A (eval a X.env) (fun v s₁ => wpAny (model X.prog X.w) X.A (eval b X.env) (fun u s₂ => wpAny (model X.prog X.w) X.A (f v u) Q X.xe s₂) X.xe s₁) X.xe s := by
  refine thn (ha pins s σ H _ I h) fun v s1 ⟨x, H1, I1, r1, q1⟩ => ?_
  refine thn (hb pins s1 σ H1 _ I1 q1) fun u s2 ⟨y, H2, I2, r2, q2⟩ => ?_
  exact hf v u s2 x y H2 I2 r1 r2 q2
inductive tVar (i : Nat) : St → Hp → VK → Prop
  | mk {σ : St} {H : Hp} {Q : VK} (v) (z_0 : σ[i]? = some (some v)) (z_1 : Q v H) : tVar i σ H Q
def tC (v : V) : TE := fun _ H Q => Q v H
theorem pe_var {i : Nat} {x : Str} {pos : Pos} (hN : X.N[i]? = some x) (hv : Vis X.env.scope x) (hd : (x == ("__debug__" : Str)) = false := by decide) (hcd : (x == ("__classdict__" : Str)) = false := by decide) : PE X (.Name x pos) (tVar i) := by
  intro pins s σ H Q I h
  obtain ⟨v, e, h⟩ := h
  obtain ⟨m, hn, hl⟩ := I.loc
  obtain ⟨u, r, l⟩ := hl i x v hN e hv
  have fin : EP X pins σ Q u s := ⟨v, H, I, r, h⟩
  rcases l with ⟨hk, hm⟩ | ⟨hk, c, hc, hcell⟩
  · exact wpAny_Name (wpAny_loadName_local I.ok.kind hk hn hm fin) hd
  · rcases hk with hk | hk
    · exact wpAny_Name (wpAny_loadName_cell I.ok.kind hk hc hcell fin) hd
    · exact wpAny_Name (wpAny_loadName_free I.ok.kind hk hc hcell fin hcd) hd
theorem pe_int {i j pos} : PE X (.Constant (.int i) j pos) (tC (.int i)) := fun _ _ _ H _ I h => wpAny_Constant_int ⟨.int i, H, I.tok _, ⟨_, rfl⟩, h⟩
theorem pe_bl {b j pos} : PE X (.Constant (.bool b) j pos) (tC (.bl b)) := fun _ _ _ H _ I h => Constant_bool ⟨.bl b, H, I, rfl, h⟩
theorem pe_non {j pos} : PE X (.Constant .none j pos) (tC .non) := fun _ _ _ H _ I h => Constant_none ⟨.non, H, I, rfl, h⟩
theorem pe_str {x j pos} : PE X (.Constant (.str x) j pos) (tC (.str x)) := fun _ _ _ H _ I h => Calls.Constant_str ⟨.str x, H, I.tok _, ⟨_, rfl⟩, h⟩
/-- a global name of the def -/
def Gl (X : Cx) (x : Str) : Prop := X.env.kindOf x = some .globalImplicit
theorem ld_glob {E : Value → Shared → Prop} {pins : List (Addr × Obj)} {s : Shared} {σ : St} {H : Hp} {x : Str} {u : Value} {pos : Pos} {Q : Value → Shared → Prop} (I : Inv X pins σ H s) (hg : Gl X x) (hm : X.mg x = some u) (h : Q u s)
    (hd : (x == ("__debug__" : Str)) = false := by decide) : wpAny (model X.prog X.w) X.A (eval (.Name x pos) X.env) Q E s :=
  Calls.Name_function_global I.ok.kind hg (Calls.loadGlobal_global (by rw [I.ok.glob]; exact I.mod.glob.keeps I.bk) hm h) hd
theorem ld_blt {E : Value → Shared → Prop} {pins : List (Addr × Obj)} {s : Shared} {σ : St} {H : Hp} {x : Str} {u : Value} {pos : Pos} {Q : Value → Shared → Prop} (I : Inv X pins σ H s) (hg : Gl X x) (hm : X.mg x = none) (hv : bootBuiltins x = some u) (h : Q u s)
    (hn : x ≠ "__name__" := by decide) (hd : (x == ("__debug__" : Str)) = false := by decide) : wpAny (model X.prog X.w) X.A (eval (.Name x pos) X.env) Q E s := by
  obtain ⟨mb, h1, h2⟩ := I.mod.blt
  exact Calls.Name_function_global I.ok.kind hg (Calls.loadGlobal_builtin (by rw [I.ok.glob]; exact I.mod.glob.keeps I.bk) hm (by rw [I.ok.blt]; exact h1.keeps I.bk) ((h2 x hn).trans hv) h) hd
/-- a module's constant, a class, a function, as a value -/
theorem pe_glob {x : Str} {v : V} {u : Value} {pos : Pos} (hg : Gl X x) (hm : X.mg x = some u) (r : RelV v u) (hd : (x == ("__debug__" : Str)) = false := by decide) : PE X (.Name x pos) (tC v) :=
  fun _ _ _ H _ I h => ld_glob I hg hm ⟨v, H, I, r, h⟩ hd
theorem pe_bltn {x : Str} {v : V} {u : Value} {pos : Pos} (hg : Gl X x) (hm : X.mg x = none) (hv : bootBuiltins x = some u) (r : RelV v u) (hn : x ≠ "__name__" := by decide) (hd : (x == ("__debug__" : Str)) = false := by decide) : PE X (.Name x pos) (tC v) :=
  fun _ _ _ H _ I h => ld_blt I hg hm hv ⟨v, H, I, r, h⟩ hn hd
/-- two ints -/
def t2I (ta tb : TE) (k : Int → Int → Hp → Prop) : St → Hp → Prop := fun σ H => ta σ H fun x H1 => tb σ H1 fun y H2 => ∃ i j, x = .int i ∧ y = .int j ∧ k i j H2
variable {a b : Expr} {ta tb : TE} {pos : Pos}
def PC (X : Cx) (op : CmpOp) (a b : Expr) (t : TE) : Prop :=
  ∀ (pins : List (Addr × Obj)) (s : Shared) (σ : St) (H : Hp) (Q : VK), Inv X pins σ H s → t σ H Q →
    wpAny (model X.prog X.w) X.A (eval a X.env) (fun v s₁ => wpAny (model X.prog X.w) X.A (eval b X.env) (fun u s₂ => wpAny (model X.prog X.w) X.A (compareOp op v u) (EP X pins σ Q) X.xe s₂) X.xe s₁) X.xe s
theorem nobehind (b : Expr) {op : CmpOp} (h : op ≠ .In) (h2 : op ≠ .NotIn) : behindInMarks op b = false := by
  have e1 : (op == CmpOp.In) = false := by cases op <;> first | rfl | exact absurd rfl h
  have e2 : (op == CmpOp.NotIn) = false := by cases op <;> first | rfl | exact absurd rfl h2
  cases b <;> simp [behindInMarks, e1, e2]
def tCmp (p : Int → Int → Bool) (ta tb : TE) : TE := fun σ H Q => t2I ta tb (fun i j H2 => Q (.bl (p i j)) H2) σ H
abbrev tLt : TE → TE → TE := tCmp fun i j => decide (i < j)
abbrev tLe : TE → TE → TE := tCmp fun i j => decide (i ≤ j)
abbrev tGt : TE → TE → TE := tCmp fun i j => decide (j < i)
abbrev tGe : TE → TE → TE := tCmp fun i j => decide (j ≤ i)
abbrev tEqI : TE → TE → TE := tCmp fun i j => decide (i = j)
abbrev tNeI : TE → TE → TE := tCmp fun i j => !decide (i = j)
/-- is None -/
def tIsN (ta : TE) : TE := fun σ H Q => ta σ H fun x H1 => Q (.bl (decide (x = .non))) H1
def tNotN (ta : TE) : TE := fun σ H Q => ta σ H fun x H1 => Q (.bl (!decide (x = .non))) H1
theorem RelV.none_iff {x : V} {v : Value} (r : RelV x v) : (v == Value.none) = decide (x = .non) := by
  cases x with
  | non => cases r; rfl
  | bl _ => cases r; rfl
  | int _ => obtain ⟨t, rfl⟩ := r; rfl
  | str _ => obtain ⟨t, rfl⟩ := r; rfl
  | byt _ => obtain ⟨t, rfl⟩ := r; rfl
  | flt _ => obtain ⟨t, rfl⟩ := r; rfl
  | ref _ => cases r; rfl
  | ty _ => cases r; rfl
theorem pc_isN {j pos'} (ha : PE X a ta) : PC X .Is a (.Constant .none j pos') (tIsN ta) := by
  intro pins s σ H Q I h
  refine thn (ha pins s σ H _ I h) fun v s1 ⟨x, H1, I1, r1, q1⟩ => ?_
  exact Constant_none (is_none_gen ⟨.bl _, H1, I1, by rw [r1.none_iff]; rfl, q1⟩)
theorem pc_notN {j pos'} (ha : PE X a ta) : PC X .IsNot a (.Constant .none j pos') (tNotN ta) := by
  intro pins s σ H Q I h
  refine thn (ha pins s σ H _ I h) fun v s1 ⟨x, H1, I1, r1, q1⟩ => ?_
  exact Constant_none (isnot_none_gen ⟨.bl _, H1, I1, by rw [r1.none_iff]; rfl, q1⟩)
/-- a comparison as a value, as a test -/
inductive IsBl (x : V) (H : Hp) (Q : Bool → Hp → Prop) : Prop
  | mk (k : Bool) (z_0 : x = .bl k) (z_1 : Q k H) : IsBl x H Q
def tB (t : TE) : TT := fun σ H Q => t σ H fun x H1 => IsBl x H1 Q
theorem pt_cmp {op : CmpOp} {t : TE} (h : PC X op a b t) (h1 : behindInMarks op b = false := by first | exact nobehind _ (by decide) (by decide) | rfl) : PT X (.Compare a [op] [b] pos) (tB t) := by
  intro pins s σ H Q I hw
  refine wpAny_isTrue_Compare1 (thn (h pins s σ H _ I hw) fun v s1 h1 => thn h1 fun u s2 h2 => thn h2 fun c s3 ⟨x, H1, I1, r1, q1⟩ => ?_) h1
  obtain ⟨d, rfl, q⟩ := q1
  cases r1
  exact wpAny_truthy_bool ⟨H1, I1, q⟩
/-- an expression whose value is a bool, as a test -/
theorem pt_val {e : Expr} {t : TE} (h : PE X e t) (he : ∀ whole, isTrue e X.env whole = (do let v ← whole; standAt e.pos; holding [v] (truthy v)) := by intro _; rfl) : PT X e (tB t) := by
  intro pins s σ H Q I hw
  refine isTrue_plain (thn (h pins s σ H _ I hw) fun v s1 ⟨x, H1, I1, r1, q1⟩ => ?_) (he _)
  obtain ⟨d, rfl, q⟩ := q1
  cases r1
  exact wpAny_truthy_bool ⟨H1, I1, q⟩
variable {tA tB' : TT} {rest : List Expr}
def tAnd (t u : TT) : TT := fun σ H Q => t σ H fun c H1 => if c = true then u σ H1 Q else Q false H1
def tOr (t u : TT) : TT := fun σ H Q => t σ H fun c H1 => if c = true then Q true H1 else u σ H1 Q
def tNot (t : TT) : TT := fun σ H Q => t σ H fun c H1 => Q (!c) H1
theorem pw_and1 (ha : PT X a tA) : PW X (.BoolOp .And [a] pos) tA := by
  intro wh pins s σ H Q I h
  refine isTrue_and (thn (ha pins s σ H Q I h) fun c s1 e => ?_)
  cases c with
  | true => exact isTrue_and_nil e
  | false => exact e
theorem pw_or1 (ha : PT X a tA) : PW X (.BoolOp .Or [a] pos) tA := by
  intro wh pins s σ H Q I h
  refine isTrue_or (thn (ha pins s σ H Q I h) fun c s1 e => ?_)
  cases c with
  | false => exact isTrue_or_nil e
  | true => exact e
theorem pw_and (ha : PT X a tA) (hb : PW X (.BoolOp .And (b :: rest) pos) tB') : PW X (.BoolOp .And (a :: b :: rest) pos) (tAnd tA tB') := by
  intro wh pins s σ H Q I h
  refine isTrue_and (thn (ha pins s σ H _ I h) fun c s1 ⟨H1, I1, q1⟩ => ?_)
  cases c with
  | true => exact hb wh pins s1 σ H1 Q I1 q1
  | false => exact ⟨H1, I1, q1⟩
theorem pw_or (ha : PT X a tA) (hb : PW X (.BoolOp .Or (b :: rest) pos) tB') : PW X (.BoolOp .Or (a :: b :: rest) pos) (tOr tA tB') := by
  intro wh pins s σ H Q I h
  refine isTrue_or (thn (ha pins s σ H _ I h) fun c s1 ⟨H1, I1, q1⟩ => ?_)
  cases c with
  | true => exact ⟨H1, I1, q1⟩
  | false => exact hb wh pins s1 σ H1 Q I1 q1
theorem pt_not (ha : PT X a tA) : PT X (.UnaryOp .Not a pos) (tNot tA) := by
  intro pins s σ H Q I h
  exact isTrue_not (ha pins s σ H (fun c H1 => Q (!c) H1) I h)
/-- a if t else b -/
def tIf (t : TT) (ta tb : TE) : TE := fun σ H Q => t σ H fun c H1 => if c = true then ta σ H1 Q else tb σ H1 Q
theorem pe_ifExp {c : Expr} (hc : PT X c tA) (ha : PE X a ta) (hb : PE X b tb) : PE X (.IfExp c a b pos) (tIf tA ta tb) := by
  intro pins s σ H Q I h
  refine wpAny_IfExp (thn (hc pins s σ H _ I h) fun d s1 ⟨H1, I1, q1⟩ => ?_)
  cases d with
  | true => exact ha pins s1 σ H1 Q I1 q1
  | false => exact hb pins s1 σ H1 Q I1 q1
end
end L2
namespace L2
open PySem PySem.Spec PyProof.Rows
def SqL (K : PySem.W.Frag) (H : Hp) (a : Addr) (xs : List V) : Prop :=
  Rd H a (.lst xs) ∨
    ∃ (o : Obj) (its : Array Value) (n : Nat), K.lookup a = some o ∧ o.cls = .type "list" ∧ o.dict = none ∧ o.data = .seq its n ∧ its.size ≤ sizeLine ∧ Vals xs its.toList
def SqT (K : PySem.W.Frag) (H : Hp) (a : Addr) (xs : List V) : Prop :=
  Rd H a (.tup xs) ∨
    ∃ (o : Obj) (its : Array Value) (n : Nat), K.lookup a = some o ∧ o.cls = .type "tuple" ∧ o.data = .seq its n ∧ its.size ≤ sizeLine ∧ Vals xs its.toList
def absV : Value → Option V
  | .none => some .non
  | .bool b => some (.bl b)
  | .int i _ => some (.int i)
  | .str x _ => some (.str x)
  | .bytes b _ => some (.byt b)
  | .float b _ => some (.flt b)
  | .ref a => some (.ref a)
  | .type n => some (.ty n)
  | _ => none
theorem RelV.abs {x : V} {u : Value} (r : RelV x u) : absV u = some x := by
  cases x with
  | non => cases r; rfl
  | bl _ => cases r; rfl
  | int _ => obtain ⟨t, rfl⟩ := r; rfl
  | str _ => obtain ⟨t, rfl⟩ := r; rfl
  | byt _ => obtain ⟨t, rfl⟩ := r; rfl
  | flt _ => obtain ⟨t, rfl⟩ := r; rfl
  | ref _ => cases r; rfl
  | ty _ => cases r; rfl
theorem RelV.inj {x y : V} {u : Value} (r : RelV x u) (q : RelV y u) : x = y := Option.some.inj (r.abs.symm.trans q.abs)
theorem Vals.inj : ∀ {xs ys : List V} {us : List Value}, Vals xs us → Vals ys us → xs = ys
  | _, _, _, .nil, .nil => rfl
  | _, _, _, .cons r t, .cons r' t' => by rw [r.inj r', Vals.inj t t']
section
variable {X : Cx} {pins : List (Addr × Obj)} {σ : St} {H : Hp} {s : Shared} {a : Addr} {xs ys : List V}
theorem SqL.of {K : PySem.W.Frag} (h : H a = some (.lst xs)) : SqL K H a xs := .inl (.inl h)
theorem Inv.list (I : Inv X pins σ H s) (h : SqL X.K H a xs) : ∃ its : List Value, Vals xs its ∧ PlainL s.heap a its.toArray ∧ xs.length ≤ sizeLine := by
  rcases h with h | ⟨o, its, n, hk, hc, hd, hs, hz, r⟩
  · obtain ⟨z, its, n, r, e⟩ := h.ok I.hok
    exact ⟨its, r, ⟨_, n, e, rfl, rfl, rfl⟩, z⟩
  · refine ⟨its.toList, r, ⟨o, n, I.kIn a o hk, hc, hd, by simpa using hs⟩, ?_⟩
    have e := r.length
    simp only [Array.length_toList] at e
    (first | lia | omega)
theorem Inv.tuple (I : Inv X pins σ H s) (h : SqT X.K H a xs) : ∃ its : List Value, Vals xs its ∧ IsTup s.heap a its.toArray ∧ xs.length ≤ sizeLine := by
  rcases h with h | ⟨o, its, n, hk, hc, hs, hz, r⟩
  · obtain ⟨z, its, r, p⟩ := h.ok I.hok
    exact ⟨its, r, p, z⟩
  · refine ⟨its.toList, r, ⟨o, I.kIn a o hk, hc, n, by simpa using hs⟩, ?_⟩
    have e := r.length
    simp only [Array.length_toList] at e
    (first | lia | omega)
theorem Inv.list_inj (I : Inv X pins σ H s) (h : SqL X.K H a xs) (h' : SqL X.K H a ys) : xs = ys := by
  obtain ⟨its, r, ⟨o, n, e, _, _, d⟩, _⟩ := I.list h
  obtain ⟨its', r', ⟨o', n', e', _, _, d'⟩, _⟩ := I.list h'
  rw [e] at e'; cases e'
  rw [d] at d'
  injection d' with d1 _
  have : its = its' := by simpa using congrArg Array.toList d1
  subst this
  exact r.inj r'
end
abbrev Cx.wish (X : Cx) (E : Value → Shared → Prop) : Cx := { X with xe := E }
/-- no exception leaves -/
abbrev Cx.nox (X : Cx) : Cx := X.wish fun _ _ => False
theorem Cx.Ok.wish {X : Cx} (ok : X.Ok) (E : Value → Shared → Prop) : (X.wish E).Ok :=
  ⟨ok.mod, ok.kind, ok.glob, ok.blt, ok.above, ok.inj, ok.has, ok.cab, ok.hd, ok.frames, ok.stk, ok.exf, ok.bs, ok.bsz, ok.noex, ok.exfs, ok.funs, ok.frf⟩
theorem Cx.Ok.unwish {X : Cx} {E : Value → Shared → Prop} (ok : (X.wish E).Ok) : X.Ok :=
  ⟨ok.mod, ok.kind, ok.glob, ok.blt, ok.above, ok.inj, ok.has, ok.cab, ok.hd, ok.frames, ok.stk, ok.exf, ok.bs, ok.bsz, ok.noex, ok.exfs, ok.funs, ok.frf⟩
section
variable {X : Cx} {pins : List (Addr × Obj)} {σ : St} {H : Hp} {s : Shared} {E : Value → Shared → Prop}
theorem Inv.wish (I : Inv X pins σ H s) (E : Value → Shared → Prop) : Inv (X.wish E) pins σ H s := ⟨I.ok.wish E, I.os, I.bare, I.base, I.loc, I.cell, I.free, I.freeC, I.pin, I.hok, I.len⟩
theorem Inv.unwish (I : Inv (X.wish E) pins σ H s) : Inv X pins σ H s := ⟨I.ok.unwish, I.os, I.bare, I.base, I.loc, I.cell, I.free, I.freeC, I.pin, I.hok, I.len⟩
theorem SP.unwish {D : Ends} {f : Flow} {s' : Shared} (h : SP (X.wish E) pins D f s') : SP X pins D f s' := by
  cases f with
  | next => obtain ⟨σ', H', I, q⟩ := h; exact ⟨σ', H', I.unwish, q⟩
  | brk => obtain ⟨σ', H', I, q⟩ := h; exact ⟨σ', H', I.unwish, q⟩
  | cont => obtain ⟨σ', H', I, q⟩ := h; exact ⟨σ', H', I.unwish, q⟩
  | ret u => obtain ⟨v, σ', H', I, r, q⟩ := h; exact ⟨v, σ', H', I.unwish, r, q⟩
theorem PSs.nox {st : List Stmt} {t : TS} (h : PSs X.nox st t) : PSs X st t := fun pins s σ H D I hw =>
  wpAny_mono (h pins s σ H D (I.wish _) hw) (fun _ _ q => q.unwish) fun _ _ z => False.elim z
end
section
variable {X : Cx} {st : Stmt} {rest : List Stmt} {t u : TS} {e : Expr} {te : TE} {pos : Pos}
def tNext : TS := fun D σ H => D.nx σ H
def tSeq (t u : TS) : TS := fun D σ H => t { D with nx := u D } σ H
theorem pss_nil : PSs X [] tNext := fun _ _ σ H _ I h => wpAny_execs_nil ⟨σ, H, I, h⟩
theorem pss_cons (h1 : PS X st t) (h2 : PSs X rest u) : PSs X (st :: rest) (tSeq t u) := by
  intro pins s σ H D I h
  refine wpAny_execs_cons (thn (h1 pins s σ H { D with nx := u D } I h) fun f s1 q => ?_)
  cases f with
  | next =>
    obtain ⟨σ', H', I', q⟩ := q
    exact h2 pins s1 σ' H' D I' q
  | ret v => exact q
  | brk => exact q
  | cont => exact q
theorem pss_one (h1 : PS X st t) : PSs X [st] t := by
  intro pins s σ H D I h
  refine wpAny_execs_cons (thn (h1 pins s σ H D I h) fun f s1 q => ?_)
  cases f with
  | next => exact wpAny_execs_nil q
  | ret v => exact q
  | brk => exact q
  | cont => exact q
/-- in a def's body nothing is shown -/
theorem Inv.quiet {pins : List (Addr × Obj)} {σ : St} {H : Hp} {s : Shared} (I : Inv X pins σ H s) : interactive X.env = false := by simp [interactive, I.ok.kind]
/-- an expression whose value is dropped -/
def tDrop (te : TE) : TS := fun D σ H => te σ H fun _ H1 => D.nx σ H1
theorem ps_expr (he : PE X e te) (hs : swapsWith e none pos.line X.env = pure false := by rfl) : PS X (.Expr e pos) (tDrop te) := by
  intro pins s σ H D I h
  exact wpAny_Expr_any (thn (he pins s σ H _ I h) fun v s1 ⟨x, H1, I1, r1, q1⟩ => ⟨σ, H1, I1, q1⟩) I.quiet hs
def tRet (te : TE) : TS := fun D σ H => te σ H D.rt
theorem ps_ret (he : PE X e te) : PS X (.Return (some e) pos) (tRet te) := by
  intro pins s σ H D I h
  exact wpAny_Return_some (thn (he pins s σ H _ I h) fun v s1 ⟨x, H1, I1, r1, q1⟩ => ⟨x, σ, H1, I1, r1, q1⟩)
def tIfS (c : TT) (t u : TS) : TS := fun D σ H => c σ H fun b H1 => if b = true then t D σ H1 else u D σ H1
theorem ps_if {c : Expr} {a b : List Stmt} {tc : TT} (hc : PT X c tc) (ha : PSs X a t) (hb : PSs X b u) : PS X (.If c a b pos) (tIfS tc t u) := by
  intro pins s σ H D I h
  refine wpAny_If (thn (hc pins s σ H _ I h) fun d s1 ⟨H1, I1, q1⟩ => ?_)
  cases d with
  | true => exact ha pins s1 σ H1 D I1 q1
  | false => exact hb pins s1 σ H1 D I1 q1
/-- code that the proof never comes to -/
def tNever : TS := fun _ _ _ => False
theorem pss_never {sts : List Stmt} : PSs X sts tNever := fun _ _ _ _ _ _ h => h.elim
end
abbrev TG := V → St → Hp → (St → Hp → Prop) → Prop
abbrev TGs := List V → St → Hp → (St → Hp → Prop) → Prop
def PG (X : Cx) (target : Expr) (t : TG) : Prop :=
  ∀ (pins : List (Addr × Obj)) (s : Shared) (σ : St) (H : Hp) (v : V) (u : Value) (Q : St → Hp → Prop), Inv X pins σ H s → RelV v u → t v σ H Q →
    wpAny (model X.prog X.w) X.A (assign target X.env u) (fun _ s' => ∃ σ' H', Inv X pins σ' H' s' ∧ Q σ' H') X.xe s
/-- several targets, one after another -/
def PGs (X : Cx) (ts : List Expr) (t : TGs) : Prop :=
  ∀ (pins : List (Addr × Obj)) (s : Shared) (σ : St) (H : Hp) (vs : List V) (us : List Value) (Q : St → Hp → Prop), Inv X pins σ H s → Vals vs us → t vs σ H Q →
    wpAny (model X.prog X.w) X.A (assignInOrder ((assignEach ts X.env).map (·.2)) us) (fun _ s' => ∃ σ' H', Inv X pins σ' H' s' ∧ Q σ' H') X.xe s
/-- o[i] = v, by values -/
abbrev TSet := V → V → V → Hp → (Hp → Prop) → Prop
/-- a op= b, by values -/
abbrev TIp := V → V → Hp → VK → Prop
section
variable {X : Cx} {pos : Pos}
def gName (i : Nat) : TG := fun v σ H Q => Q (σ.set i (some v)) H
theorem pg_name {i : Nat} {x : Str} (hN : X.N.Nodup) (hi : X.N[i]? = some x) (hx : Loc X.env.scope x) (hf : X.fn x = true ∨ X.env.scope.names.lookup x = some .local := by first | exact .inl rfl | exact .inr rfl | assumption) : PG X (.Name x pos) (gName i) := by
  intro pins s σ H v u Q I r h
  exact wpAny_assign_Name (store_ok I hN hi hx r (fun s' I' => ⟨_, H, I', h⟩) hf)
/-- target = value -/
def tAsg (te : TE) (g : TG) : TS := fun D σ H => te σ H fun x H1 => g x σ H1 D.nx
/-- name = value -/
theorem ps_set {i : Nat} {x : Str} {e : Expr} {te : TE} {pos' : Pos} (hN : X.N.Nodup) (hi : X.N[i]? = some x) (hx : Loc X.env.scope x) (he : PE X e te) (hs : swapsWith e (some (.Name x pos')) pos.line X.env = pure false := by rfl) (hf : X.fn x = true ∨ X.env.scope.names.lookup x = some .local := by first | exact .inl rfl | exact .inr rfl | assumption) :
    PS X (.Assign [.Name x pos'] e pos) (tAsg te (gName i)) := by
  intro pins s σ H D I h
  refine wpAny_Assign_Name (thn (he pins s σ H _ I h) fun v s1 ⟨y, H1, I1, r1, q1⟩ => ?_) hs
  exact store_ok I1 hN hi hx r1 (fun s2 I2 => ⟨_, H1, I2, q1⟩) hf
end
section
variable {X : Cx} {pos : Pos}
/-- the invariant W with its measure -/
def tWhile (c : TT) (tb : TS) : TS := fun D σ H => ∃ W : Nat → St → Hp → Prop, (∃ m, W m σ H) ∧ ∀ m σ H, W m σ H →
  c σ H fun b H1 => if b = true then ∃ N : St → Hp → Prop, (∀ σ' H', N σ' H' → ∃ m', m' < m ∧ W m' σ' H') ∧ tb { D with nx := N, ct := N, bk := D.nx } σ H1 else D.nx σ H1
theorem ps_while {c : Expr} {body : List Stmt} {tc : TT} {tb : TS} (hp : PassesOwn (model X.prog X.w) X.A X.env X.xe) (hc : PT X c tc) (hb : PSs X body tb) : PS X (.While c body [] pos) (tWhile tc tb) := by
  intro pins s σ H D I h
  obtain ⟨W, ⟨m0, w0⟩, turn⟩ := h
  refine wpAny_While (codeAny_whileLoop (fun n s' => ∃ σ' H', Inv X pins σ' H' s' ∧ W n σ' H') ?_ m0 ⟨σ, H, I, w0⟩)
  rintro n s1 ⟨σ1, H1, I1, w1⟩
  refine wpAny_passesOwn hp (thn (hc pins s1 σ1 H1 _ I1 (turn n σ1 H1 w1)) fun b s2 ⟨H2, I2, q2⟩ => ?_)
  cases b with
  | true =>
    obtain ⟨N, hN, q2⟩ := q2
    rw [if_pos rfl]
    refine wpAny_passesOwn hp (thn (hb pins s2 σ1 H2 _ I2 q2) fun f s3 q3 => ?_)
    cases f with
    | next =>
      obtain ⟨σ3, H3, I3, n3⟩ := q3
      obtain ⟨m', hm, w3⟩ := hN σ3 H3 n3
      exact ⟨m', hm, σ3, H3, I3, w3⟩
    | cont =>
      obtain ⟨σ3, H3, I3, n3⟩ := q3
      obtain ⟨m', hm, w3⟩ := hN σ3 H3 n3
      exact ⟨m', hm, σ3, H3, I3, w3⟩
    | brk => exact q3
    | ret v => exact q3
  | false =>
    rw [if_neg Bool.false_ne_true]
    exact wpAny_execs_nil ⟨σ1, H2, I2, q2⟩
end
/-- at turn i: it yields x (the heap may grow), or it stops -/
structure It where
  go : Nat → Hp → Prop
  yld : Nat → Hp → V → Hp → Prop
  stop : Nat → Hp → Prop
/-- the iterator's own objects may turn: they are not the frame's, not pinned, younger than the entry (or a comprehension's own) -/
def FpOk (X : Cx) (pins : List (Addr × Obj)) (H : Hp) (b : Addr) : Prop :=
  H b = none ∧ b ≠ X.env.locals ∧ b ∉ X.fs ∧ (b ∈ X.ex ∨ X.s₀.heap.objs.size ≤ b) ∧ (∀ x c, X.env.cells.lookup x = some c → c ≠ b) ∧ ∀ p ∈ X.pn ++ pins, p.1 ≠ b
theorem Inv.fpOk {X : Cx} {pins : List (Addr × Obj)} {σ : St} {H H' : Hp} {s : Shared} {b : Addr} (I : Inv X pins σ H s) (hb : s.heap.objs.size ≤ b) (hn : H' b = none) : FpOk X pins H' b := by
  refine ⟨hn, Nat.ne_of_gt (Nat.lt_of_lt_of_le I.lt hb), I.nofs hb, .inr (Nat.le_trans I.sz hb), fun x c e z => ?_, fun p hp z => ?_⟩
  · obtain ⟨v, q⟩ := I.cell x c e
    exact absurd (Nat.lt_of_lt_of_le q.lt (by rw [z]; exact hb)) (Nat.lt_irrefl _)
  · exact absurd (Nat.lt_of_lt_of_le (Heap.lt_size (I.pin p hp).1) (by rw [z]; exact hb)) (Nat.lt_irrefl _)
structure Turn (P : Program) (w : World) (K : PySem.W.Frag) (tg : Expr) (J : It) (fp : List Addr) (it : Addr) (tn : Nat → Heap → Prop) : Prop where
  mem : it ∈ fp
  obj : ∀ i h, tn i h → ∀ b ∈ fp, ∃ o, h.get? b = some o ∧ ∀ v, o.data ≠ .cell v
  keep : ∀ i h h', tn i h → (∀ b ∈ fp, ∀ o, h.get? b = some o → h'.get? b = some o) → tn i h'
  item : ∀ (X : Cx), X.prog = P → X.w = w → X.K = K → X.calm = true → ∀ (i : Nat) (pins : List (Addr × Obj)) (s : Shared) (σ : St) (H : Hp) (E : Value → Shared → Prop), Inv X pins σ H s → (∀ b ∈ fp, FpOk X pins H b) → tn i s.heap → J.go i H →
    wpAny (model P w) X.A (pyNext (.ref it)) (fun r s1 => ∃ u, r = some u ∧
      wpAny (model P w) X.A (letOwnedTupleGo tg (.ref it) u) (fun _ s2 => ∃ x H', Inv X pins σ H' s2 ∧ RelV x u ∧ J.yld i H x H' ∧ tn (i + 1) s2.heap ∧ ∀ b ∈ fp, H' b = none) E s1) E s
  done : ∀ (X : Cx), X.prog = P → X.w = w → X.K = K → X.calm = true → ∀ (i : Nat) (pins : List (Addr × Obj)) (s : Shared) (σ : St) (H : Hp) (E : Value → Shared → Prop), Inv X pins σ H s → (∀ b ∈ fp, FpOk X pins H b) → tn i s.heap → J.stop i H →
    wpAny (model P w) X.A (pyNext (.ref it)) (fun r s1 => r = none ∧ Inv X pins σ H s1) E s
  self : ∀ (A : Around) (i : Nat) (s : Shared) (Q : Value → Shared → Prop) (E : Value → Shared → Prop), tn i s.heap → Q (.ref it) s → wpAny (model P w) A (pyIter (.ref it)) Q E s
abbrev TI := St → Hp → (It → Hp → Prop) → Prop
/-- an iterator has come -/
def PIE (X : Cx) (pins : List (Addr × Obj)) (σ : St) (tg : Expr) (R : It → Hp → Prop) (itv : Value) (s2 : Shared) : Prop :=
  ∃ (it : Addr) (fp : List Addr) (tn : Nat → Heap → Prop) (J : It) (H' : Hp), itv = .ref it ∧ Inv X pins σ H' s2 ∧ Turn X.prog X.w X.K tg J fp it tn ∧ tn 0 s2.heap ∧ (∀ b ∈ fp, FpOk X pins H' b) ∧ R J H'
def PI (X : Cx) (tg iter : Expr) (wi : TI) : Prop :=
  ∀ (pins : List (Addr × Obj)) (s : Shared) (σ : St) (H : Hp) (R : It → Hp → Prop), Inv X pins σ H s → wi σ H R →
    wpAny (model X.prog X.w) X.A (eval iter X.env) (fun v s1 => wpAny (model X.prog X.w) X.A (pyIter v) (PIE X pins σ tg R) X.xe s1) X.xe s
/-- the step ahead of the store is nothing for an iterator that keeps no tuple -/
theorem go_of {M : Model} {A : Around} {E : Value → Shared → Prop} {s : Shared} {tg : Expr} {it : Addr} {u : Value} {o : Obj} {n : String} {vs : Array Value} {Q : Unit → Shared → Prop} (ho : s.heap.get? it = some o) (hc : o.cls = .type n) (hd : o.data = .fields vs)
    (hn : ["enumerate", "zip", "dict_itemiterator", "dict_reverseitemiterator", "odict_iterator", "itertools.zip_longest", "itertools.pairwise"].contains n = false) (hQ : Q () s) : wpAny M A (letOwnedTupleGo tg (.ref it) u) Q E s := by
  unfold letOwnedTupleGo
  cases tg <;> first
    | exact wpAny_pure hQ
    | (cases u <;> first
        | exact wpAny_pure hQ
        | (refine wpAny_bind (wpAny_load ho ?_)
           rw [hc, hd]
           show wpAny M A (if (["enumerate", "zip", "dict_itemiterator", "dict_reverseitemiterator", "odict_iterator", "itertools.zip_longest", "itertools.pairwise"].contains n && vs[0]? == some (rawInt _)) = true then _ else _) Q E s
           rw [if_neg (by intro h; rw [hn, Bool.false_and] at h; cases h)]
           exact wpAny_pure hQ))
/-- the list at a, as it stands at each turn (a loop may append to it) -/
def Itl (K : PySem.W.Frag) (a : Addr) : It :=
  ⟨fun i H => ∃ xs x, SqL K H a xs ∧ xs[i]? = some x, fun i H x H' => H' = H ∧ ∀ xs, SqL K H a xs → xs[i]? = some x, fun i H => ∃ xs, SqL K H a xs ∧ xs.length ≤ i⟩
theorem turn_list {P : Program} {w : World} {K : PySem.W.Frag} {tg : Expr} (a it : Addr) : Turn P w K tg (Itl K a) [it] it (fun i h => h.IsListIter it a i) where
  mem := by simp
  obj := fun i h st b hb => by
    have e : b = it := by simpa using hb
    subst e
    obtain ⟨o, e, c, d⟩ := st
    exact ⟨o, e, fun v z => by rw [d] at z; cases z⟩
  keep := fun i h h' st k => st.at fun o e => k it (by simp) o e
  item := by
    intro X hP hw hK hc i pins s σ H E I hf st hg
    subst hP hw hK
    obtain ⟨xs, x, hq, hx⟩ := hg
    obtain ⟨its, rv, p, hz⟩ := I.list hq
    obtain ⟨u, hu, ru⟩ := rv.get hx
    obtain ⟨f0, f1, f2, f3, f4, f5⟩ := hf it (by simp)
    refine wpAny_pyNext_list_item st p.isList (x := u) (by simpa using hu) fun h' st' sb => ?_
    have I1 : Inv X pins σ H { s with heap := h' } := I.turned (t' := s.toks) (fun b o hb e => (sb.2 b hb).trans e) f0 f1 f3 f4 f5
    obtain ⟨o, e, c, d⟩ := id st'
    exact ⟨u, rfl, go_of (s := { s with heap := h' }) e c d (by decide) ⟨x, H, I1, ru, ⟨rfl, fun ys hy => by rw [I.list_inj hy hq]; exact hx⟩, st', fun b hb => (hf b hb).1⟩⟩
  done := by
    intro X hP hw hK hc i pins s σ H E I hf st hg
    subst hP hw hK
    obtain ⟨xs, hq, hx⟩ := hg
    obtain ⟨its, rv, p, hz⟩ := I.list hq
    obtain ⟨f0, f1, f2, f3, f4, f5⟩ := hf it (by simp)
    have hl := rv.length
    exact wpAny_pyNext_list_end (I.ok.hd hc) st p.isList (by simp; (first | lia | omega)) fun h' eb => ⟨rfl, I.turned (t' := s.toks) (fun b o hb e => eb b o hb e) f0 f1 f3 f4 f5⟩
  self := fun _ _ _ _ _ st h => wpAny_pyIter_listiter st h
end L2
namespace L2
open PySem PySem.Spec PyProof.Rows
section
variable {X : Cx} {tg : Expr}
inductive ILst (K : PySem.W.Frag) (x : V) (H : Hp) (R : It → Hp → Prop) : Prop
  | mk (a : Addr) (z_0 : x = .ref a) (z_1 : ∃ xs, SqL K H a xs) (z_2 : R (Itl K a) H) : ILst K x H R
def iList (K : PySem.W.Frag) (tl : TE) : TI := fun σ H R => tl σ H fun x H1 => ILst K x H1 R
theorem pi_list {l : Expr} {tl : TE} (hl : PE X l tl) : PI X tg l (iList X.K tl) := by
  intro pins s σ H R I h
  refine thn (hl pins s σ H _ I h) fun v s1 ⟨x, H1, I1, r1, q1⟩ => ?_
  obtain ⟨a, e, ⟨xs, hq⟩, q⟩ := q1
  subst e
  cases r1
  obtain ⟨its, rv, p, hz⟩ := I1.list hq
  refine wpAny_pyIter_list p.isList ?_
  refine ⟨s1.heap.objs.size, [s1.heap.objs.size], _, _, H1, rfl, I1.kept (t' := s1.toks) fun b o e => Heap.get?_push_of_some _ e, turn_list a _, ⟨_, Heap.get?_push_size _ rfl, rfl, rfl⟩, fun b hb => ?_, q⟩
  have e : b = s1.heap.objs.size := by simpa using hb
  subst e
  exact I1.fpOk (Nat.le_refl _) (I1.hok.fresh (Nat.le_refl _))
/-- W: the invariant by the turn and a measure; N: what the body is to reach -/
def tFor (wi : TI) (g : TG) (tb : TS) : TS := fun D σ H => wi σ H fun J H1 => ∃ W : Nat → Nat → St → Hp → Prop, (∃ m, W 0 m σ H1) ∧ ∀ i m σ H, W i m σ H →
  (J.stop i H ∧ D.nx σ H) ∨ (J.go i H ∧ ∃ N : St → Hp → Prop, (∀ σ' H', N σ' H' → ∃ m', m' < m ∧ W (i + 1) m' σ' H') ∧ ∀ x H', J.yld i H x H' → g x σ H' fun σ2 H2 => tb { D with nx := N, ct := N, bk := D.nx } σ2 H2)
/-- the records at fp as they stand -/
def pinsAt (fp : List Addr) (h : Heap) : List (Addr × Obj) := fp.filterMap fun b => (h.get? b).map fun o => (b, o)
theorem mem_pinsAt {fp : List Addr} {h : Heap} {b : Addr} {o : Obj} (hb : b ∈ fp) (e : h.get? b = some o) : (b, o) ∈ pinsAt fp h := List.mem_filterMap.mpr ⟨b, hb, by rw [e]; rfl⟩
theorem of_pinsAt {fp : List Addr} {h : Heap} {p : Addr × Obj} (hp : p ∈ pinsAt fp h) : p.1 ∈ fp ∧ h.get? p.1 = some p.2 := by
  obtain ⟨b, hb, e⟩ := List.mem_filterMap.mp hp
  cases q : h.get? b with
  | none => rw [q] at e; cases e
  | some o =>
    rw [q] at e
    have e' : (b, o) = p := Option.some.inj e
    subst e'
    exact ⟨hb, q⟩
theorem Inv.pinned {pins : List (Addr × Obj)} {σ : St} {H : Hp} {s : Shared} {fp : List Addr} (I : Inv X pins σ H s) (hf : ∀ b ∈ fp, FpOk X pins H b) (ho : ∀ b ∈ fp, ∃ o, s.heap.get? b = some o ∧ ∀ v, o.data ≠ .cell v) : Inv X (pins ++ pinsAt fp s.heap) σ H s :=
  I.pins_of fun p hp => (List.mem_append.mp hp).elim (fun z => I.pin p (List.mem_append_right _ z)) fun z => by
    obtain ⟨hb, e⟩ := of_pinsAt z
    obtain ⟨f0, f1, f2, _⟩ := hf p.1 hb
    obtain ⟨o, e', d⟩ := ho p.1 hb
    rw [e] at e'; cases e'
    exact ⟨e, f0, f1, f2, d⟩
theorem Inv.unpinned {pins pl : List (Addr × Obj)} {σ : St} {H : Hp} {s : Shared} (I : Inv X (pins ++ pl) σ H s) : Inv X pins σ H s := I.pins_of fun p hp => I.pin p (List.mem_append_right _ (List.mem_append_left _ hp))
theorem ps_for {iter : Expr} {body : List Stmt} {wi : TI} {g : TG} {tb : TS} {pos : Pos} (hp : PassesOwn (model X.prog X.w) X.A X.env X.xe) (hc : X.calm = true) (hi : PI X tg iter wi) (hg : PG X tg g) (hb : PSs X body tb)
    (hs : ∀ x, foldedSetIterable iter X.env x = pure x := by intro _; rfl) : PS X (.For tg iter body [] pos) (tFor wi g tb) := by
  intro pins s σ H D I h
  refine wpAny_For (thn (hi pins s σ H _ I h) fun v s1 h1 => thn h1 fun itv s2 h2 => ?_) hs
  obtain ⟨it, fp, tn, J, H2, e, I2, T, st2, f2, W, ⟨m0, w0⟩, turn⟩ := h2
  subst e
  -- what stays true of the iterator's objects through the loop
  have stat : ∀ {H' : Hp}, (∀ b ∈ fp, H' b = none) → ∀ b ∈ fp, FpOk X pins H' b := fun hn b hb => ⟨hn b hb, (f2 b hb).2⟩
  refine codeAny_forLoop_any (fun n s' => ∃ i σ' H', Inv X pins σ' H' s' ∧ tn i s'.heap ∧ (∀ b ∈ fp, H' b = none) ∧ W i n σ' H') ?_ m0 ⟨0, σ, H2, I2, st2, fun b hb => (f2 b hb).1, w0⟩
  rintro n s3 ⟨i, σ3, H3, I3, st3, fr3, w3⟩
  rcases turn i n σ3 H3 w3 with ⟨stop, qn⟩ | ⟨go, N, hN, step⟩
  · refine wpAny_passesOwn hp (thn (T.done X rfl rfl rfl hc i pins s3 σ3 H3 X.xe I3 (stat fr3) st3 stop) fun r s4 ⟨hr, I4⟩ => ?_)
    subst hr
    exact wpAny_execs_nil ⟨σ3, H3, I4, qn⟩
  · refine wpAny_passesOwn hp (thn (T.item X rfl rfl rfl hc i pins s3 σ3 H3 X.xe I3 (stat fr3) st3 go) fun r s4 ⟨u, hr, h4⟩ => ?_)
    subst hr
    refine wpAny_passesOwn hp (thn h4 fun _ s5 ⟨x, H5, I5, r5, y5, st5, fr5⟩ => ?_)
    have I5' := I5.pinned (stat fr5) (T.obj _ _ st5)
    refine wpAny_passesOwn hp (thn (hg _ s5 σ3 H5 x u _ I5' r5 (step x H5 y5)) fun _ s6 ⟨σ6, H6, I6, q6⟩ => ?_)
    refine wpAny_passesOwn hp (thn (hb _ s6 σ6 H6 _ I6 q6) fun f s7 q7 => ?_)
    have again : ∀ {σ7 : St} {H7 : Hp}, Inv X (pins ++ pinsAt fp s5.heap) σ7 H7 s7 → N σ7 H7 → ∃ m, m < n ∧ ∃ i σ' H', Inv X pins σ' H' s7 ∧ tn i s7.heap ∧ (∀ b ∈ fp, H' b = none) ∧ W i m σ' H' := fun {σ7 H7} I7 n7 => by
      obtain ⟨m', hm, w7⟩ := hN σ7 H7 n7
      refine ⟨m', hm, i + 1, σ7, H7, I7.unpinned, T.keep _ _ _ st5 fun b hb o e => (I7.pin (b, o) (List.mem_append_right _ (List.mem_append_right _ (mem_pinsAt hb e)))).1, fun b hb => ?_, w7⟩
      obtain ⟨o, e, d⟩ := T.obj _ _ st5 b hb
      exact (I7.pin (b, o) (List.mem_append_right _ (List.mem_append_right _ (mem_pinsAt hb e)))).2.1
    cases f with
    | next => obtain ⟨σ7, H7, I7, n7⟩ := q7; exact again I7 n7
    | cont => obtain ⟨σ7, H7, I7, n7⟩ := q7; exact again I7 n7
    | brk => obtain ⟨σ7, H7, I7, q7⟩ := q7; exact ⟨σ7, H7, I7.unpinned, q7⟩
    | ret v => obtain ⟨x7, σ7, H7, I7, r7, q7⟩ := q7; exact ⟨x7, σ7, H7, I7.unpinned, r7, q7⟩
end
/-- over a list that the body leaves as it is -/
theorem for_list {K : PySem.W.Frag} {a : Addr} {xs : List V} {g : TG} {tb : TS} {D : Ends} {σ : St} {H : Hp} (Pv : Nat → St → Hp → Prop) (h0 : Pv 0 σ H) (hl : ∀ i σ H, i ≤ xs.length → Pv i σ H → SqL K H a xs)
    (hs : ∀ i x σ H, xs[i]? = some x → Pv i σ H → g x σ H fun σ2 H2 => tb { D with nx := Pv (i + 1), ct := Pv (i + 1), bk := D.nx } σ2 H2) (hd : ∀ σ H, Pv xs.length σ H → D.nx σ H) :
    ∃ W : Nat → Nat → St → Hp → Prop, (∃ m, W 0 m σ H) ∧ ∀ i m σ H, W i m σ H →
      ((Itl K a).stop i H ∧ D.nx σ H) ∨ ((Itl K a).go i H ∧ ∃ N : St → Hp → Prop, (∀ σ' H', N σ' H' → ∃ m', m' < m ∧ W (i + 1) m' σ' H') ∧ ∀ x H', (Itl K a).yld i H x H' → g x σ H' fun σ2 H2 => tb { D with nx := N, ct := N, bk := D.nx } σ2 H2) := by
  refine ⟨fun i m σ H => m = xs.length - i ∧ i ≤ xs.length ∧ Pv i σ H, ⟨xs.length, by simp, Nat.zero_le _, h0⟩, ?_⟩
  rintro i m σ H ⟨rfl, hi, p⟩
  have q := hl i σ H hi p
  by_cases hlt : i < xs.length
  · refine .inr ⟨⟨xs, xs[i], q, by simp [hlt]⟩, Pv (i + 1), fun σ' H' p' => ⟨xs.length - (i + 1), by (first | lia | omega), rfl, hlt, p'⟩, fun x H' y => ?_⟩
    obtain ⟨e, y⟩ := y
    subst e
    exact hs i x σ _ (y xs q) p
  · have e : i = xs.length := by (first | lia | omega)
    subst e
    exact .inl ⟨⟨xs, q, Nat.le_refl _⟩, hd σ H p⟩
end L2
namespace L2
open PySem PySem.Spec PyProof.Rows
abbrev R2 := V → V → Hp → VK → Prop
/-- a two-place operation on values: f is binaryOp op, inplaceOp op or compareOp op -/
def OpR (X : Cx) (f : Value → Value → Sem Value) (r : R2) : Prop :=
  ∀ (pins : List (Addr × Obj)) (s : Shared) (σ : St) (H : Hp) (x y : V) (v u : Value) (Q : VK), Inv X pins σ H s → RelV x v → RelV y u → r x y H Q →
    wpAny (model X.prog X.w) X.A (f v u) (EP X pins σ Q) X.xe s
/-- a call of a value that is known (a builtin, a type) with values -/
def CallR (X : Cx) (f : Value) (r : List V → Hp → VK → Prop) : Prop :=
  ∀ (pins : List (Addr × Obj)) (s : Shared) (σ : St) (H : Hp) (xs : List V) (us : List Value) (Q : VK), Inv X pins σ H s → Vals xs us → r xs H Q →
    wpAny (model X.prog X.w) X.A (call f us) (EP X pins σ Q) X.xe s
def tOp (r : R2) (ta tb : TE) : TE := fun σ H Q => ta σ H fun x H1 => tb σ H1 fun y H2 => r x y H2 Q
/-- ints in, under C, and a value out -/
inductive rI (C : Int → Int → Prop) (g : Int → Int → V) : V → V → Hp → VK → Prop
  | mk {x : V} {y : V} {H : Hp} {Q : VK} (i j) (z_0 : x = .int i) (z_1 : y = .int j) (z_2 : C i j) (z_3 : Q (g i j) H) : rI C g x y H Q
inductive rI0 (g : Int → Int → V) : V → V → Hp → VK → Prop
  | mk {x : V} {y : V} {H : Hp} {Q : VK} (i j) (z_0 : x = .int i) (z_1 : y = .int j) (z_2 : Q (g i j) H) : rI0 g x y H Q
section
variable {X : Cx} {a b c : Expr} {ta tb tc : TE} {pos : Pos}
theorem binT (ha : PE X a ta) (hb : PE X b tb) {pins : List (Addr × Obj)} {s : Shared} {σ : St} {H : Hp} {R : V → V → Hp → Prop} (I : Inv X pins σ H s)
    (h : ta σ H fun x H1 => tb σ H1 fun y H2 => R x y H2) {Q : Value → Shared → Prop} {f : Value → Value → Sem Value}
    (hf : ∀ v u s2 x y H2, Inv X pins σ H2 s2 → RelV x v → RelV y u → R x y H2 → wpAny (model X.prog X.w) X.A (f v u) Q X.xe s2) :
    wpAny (model X.prog X.w) X.A (eval a X.env) (fun v s₁ => wpAny (model X.prog X.w) X.A (eval b X.env) (fun u s₂ => wpAny (model X.prog X.w) X.A (f v u) Q X.xe s₂) X.xe s₁) X.xe s := by
  refine thn (ha pins s σ H _ I h) fun v s1 ⟨x, H1, I1, r1, q1⟩ => ?_
  refine thn (hb pins s1 σ H1 _ I1 q1) fun u s2 ⟨y, H2, I2, r2, q2⟩ => ?_
  exact hf v u s2 x y H2 I2 r1 r2 q2
theorem pe_op {op : Operator} {r : R2} (ho : OpR X (binaryOp op) r) (ha : PE X a ta) (hb : PE X b tb) : PE X (.BinOp a op b pos) (tOp r ta tb) := by
  intro pins s σ H Q I h
  exact wpAny_BinOp (binT ha hb I h fun v u s2 x y H2 I2 rx ry q => ho pins s2 σ H2 x y v u Q I2 rx ry q)
theorem opI {f : Value → Value → Sem Value} {C : Int → Int → Prop} {g : Int → Int → Int}
    (rule : ∀ (i j : Int) (t u : Tok) (s : Shared) (Q : Value → Shared → Prop) (E : Value → Shared → Prop), C i j → Q (.int (g i j) s.toks) { s with toks := s.toks + 1 } → wpAny (model X.prog X.w) X.A (f (.int i t) (.int j u)) Q E s) :
    OpR X f (rI C fun i j => .int (g i j)) := by
  intro pins s σ H x y v u Q I rx ry h
  obtain ⟨i, j, rfl, rfl, hc, q⟩ := h
  obtain ⟨t, rfl⟩ := rx
  obtain ⟨t', rfl⟩ := ry
  exact rule i j t t' s _ _ hc ⟨.int (g i j), H, I.tok _, ⟨_, rfl⟩, q⟩
theorem opI0 {f : Value → Value → Sem Value} {g : Int → Int → Int}
    (rule : ∀ (i j : Int) (t u : Tok) (s : Shared) (Q : Value → Shared → Prop) (E : Value → Shared → Prop), Q (.int (g i j) s.toks) { s with toks := s.toks + 1 } → wpAny (model X.prog X.w) X.A (f (.int i t) (.int j u)) Q E s) :
    OpR X f (rI0 fun i j => .int (g i j)) := by
  intro pins s σ H x y v u Q I rx ry h
  obtain ⟨i, j, rfl, rfl, q⟩ := h
  obtain ⟨t, rfl⟩ := rx
  obtain ⟨t', rfl⟩ := ry
  exact rule i j t t' s _ _ ⟨.int (g i j), H, I.tok _, ⟨_, rfl⟩, q⟩
theorem opB0 {f : Value → Value → Sem Value} {g : Int → Int → Bool}
    (rule : ∀ (i j : Int) (t u : Tok) (s : Shared) (Q : Value → Shared → Prop) (E : Value → Shared → Prop), Q (.bool (g i j)) s → wpAny (model X.prog X.w) X.A (f (.int i t) (.int j u)) Q E s) :
    OpR X f (rI0 fun i j => .bl (g i j)) := by
  intro pins s σ H x y v u Q I rx ry h
  obtain ⟨i, j, rfl, rfl, q⟩ := h
  obtain ⟨t, rfl⟩ := rx
  obtain ⟨t', rfl⟩ := ry
  exact rule i j t t' s _ _ ⟨.bl (g i j), H, I, rfl, q⟩
def CDiv (i j : Int) : Prop := 0 < j ∧ j < 1073741824
def CPow (i j : Int) : Prop := 0 ≤ j ∧ j ≤ 1000000 ∧ i.natAbs < 2 ^ 64
theorem op_add : OpR X (binaryOp .Add) (rI0 fun i j => .int (i + j)) := opI0 fun _ _ _ _ _ _ _ q => add_int q
/-- // by a positive divisor -/
theorem op_fdiv : OpR X (binaryOp .FloorDiv) (rI CDiv fun i j => .int (i / j)) := opI fun i j _ _ _ _ _ hc q => by
  have h1 : (0 : Int) < j := hc.1
  have h2 : j < 1073741824 := hc.2
  exact floordiv_int (by (first | lia | omega)) (by rw [Int.fdiv_eq_ediv_of_nonneg i (by (first | lia | omega))]; exact q) (.inl (PyProof.noPylong_small (by (first | lia | omega))))
/-- % by a positive divisor of any size -/
theorem op_mod : OpR X (binaryOp .Mod) (rI (fun _ j => 0 < j) fun i j => .int (i % j)) := opI fun i j _ _ _ _ _ hc q => by
  have h1 : (0 : Int) < j := hc
  exact mod_int' (by (first | lia | omega)) (by rw [Int.fmod_eq_emod_of_nonneg i (by (first | lia | omega))]; exact q)
theorem op_pow : OpR X (binaryOp .Pow) (rI CPow fun i j => .int (i ^ j.toNat)) := opI fun _ _ _ _ _ _ _ hc q => pow_int_small hc.1 hc.2.1 hc.2.2 q
end
/-- the scalars that == tells apart as data does -/
def scal : V → V → Bool
  | .non, .non => true | .non, .int _ => true | .int _, .non => true | .non, .bl _ => true | .bl _, .non => true | .non, .str _ => true | .str _, .non => true
  | .int _, .int _ => true | .bl _, .bl _ => true | .str _, .str _ => true | .byt _, .byt _ => true
  | .int _, .str _ => true | .str _, .int _ => true | .bl _, .str _ => true | .str _, .bl _ => true
  | _, _ => false
def rEq : R2 := fun x y H Q => scal x y = true ∧ Q (.bl (decide (x = y))) H
def rNe : R2 := fun x y H Q => scal x y = true ∧ Q (.bl (!decide (x = y))) H
theorem dec_int {i j : Int} : decide (V.int i = V.int j) = (i == j) := by
  rw [Bool.eq_iff_iff]
  simp
theorem dec_bl {i j : Bool} : decide (V.bl i = V.bl j) = (i == j) := by
  rw [Bool.eq_iff_iff]
  simp
theorem dec_str {i j : Str} : decide (V.str i = V.str j) = (i == j) := by
  rw [Bool.eq_iff_iff]
  simp
theorem dec_byt {i j : Array UInt8} : decide (V.byt i = V.byt j) = (i.toList == j.toList) := by
  rw [Bool.eq_iff_iff]
  cases i
  cases j
  simp
section
variable {X : Cx} {a b c : Expr} {ta tb tc : TE} {pos : Pos}
theorem fin_bl {pins : List (Addr × Obj)} {σ : St} {H : Hp} {s : Shared} {Q : VK} {k k' : Bool} (I : Inv X pins σ H s) (q : Q (.bl k) H) (e : k = k') : EP X pins σ Q (.bool k') s := by
  subst e
  exact ⟨.bl k, H, I, rfl, q⟩
theorem op_eq : OpR X (compareOp .Eq) rEq := by
  intro pins s σ H x y v u Q I rx ry h
  obtain ⟨hs, q⟩ := h
  cases x with
  | non =>
    cases rx
    cases y with
    | non => cases ry; exact PySem.EqNone.eq_none_none (fin_bl I q (by simp))
    | bl j => cases ry; exact PySem.EqNone.eq_none_bool (fin_bl I q (by simp))
    | int j => obtain ⟨t', rfl⟩ := ry; exact PySem.EqNone.eq_none_int (fin_bl I q (by simp))
    | str j => obtain ⟨t', rfl⟩ := ry; exact PySem.EqNone.eq_none_str (fin_bl I q (by simp))
    | _ => exact absurd (show false = true from hs) Bool.false_ne_true
  | bl i =>
    cases rx
    cases y with
    | non => cases ry; exact PySem.EqNone.eq_bool_none (fin_bl I q (by simp))
    | bl j => cases ry; exact eq_bool (fin_bl I q dec_bl)
    | str j => obtain ⟨t', rfl⟩ := ry; exact PySem.EqMixed.eq_bool_str (fin_bl I q (by simp))
    | _ => exact absurd (show false = true from hs) Bool.false_ne_true
  | int i =>
    obtain ⟨t, rfl⟩ := rx
    cases y with
    | non => cases ry; exact PySem.EqNone.eq_int_none (fin_bl I q (by simp))
    | int j => obtain ⟨t', rfl⟩ := ry; exact eq_int (fin_bl I q dec_int)
    | str j => obtain ⟨t', rfl⟩ := ry; exact PySem.EqMixed.eq_int_str (fin_bl I q (by simp))
    | _ => exact absurd (show false = true from hs) Bool.false_ne_true
  | str i =>
    obtain ⟨t, rfl⟩ := rx
    cases y with
    | non => cases ry; exact PySem.EqNone.eq_str_none (fin_bl I q (by simp))
    | bl j => cases ry; exact PySem.EqMixed.eq_str_bool (fin_bl I q (by simp))
    | int j => obtain ⟨t', rfl⟩ := ry; exact PySem.EqMixed.eq_str_int (fin_bl I q (by simp))
    | str j => obtain ⟨t', rfl⟩ := ry; exact eq_str (fin_bl I q dec_str)
    | _ => exact absurd (show false = true from hs) Bool.false_ne_true
  | byt i =>
    obtain ⟨t, rfl⟩ := rx
    cases y with
    | byt j => obtain ⟨t', rfl⟩ := ry; exact PySem.W.eq_bytes (fin_bl I q dec_byt)
    | _ => exact absurd (show false = true from hs) Bool.false_ne_true
  | _ => cases y <;> exact absurd (show false = true from hs) Bool.false_ne_true
theorem op_ne : OpR X (compareOp .NotEq) rNe := by
  intro pins s σ H x y v u Q I rx ry h
  obtain ⟨hs, q⟩ := h
  cases x with
  | non =>
    cases rx
    cases y with
    | non => cases ry; exact PySem.EqNone.ne_none_none (fin_bl I q (by simp))
    | bl j => cases ry; exact PySem.EqNone.ne_none_bool (fin_bl I q (by simp))
    | int j => obtain ⟨t', rfl⟩ := ry; exact PySem.EqNone.ne_none_int (fin_bl I q (by simp))
    | str j => obtain ⟨t', rfl⟩ := ry; exact PySem.EqNone.ne_none_str (fin_bl I q (by simp))
    | _ => exact absurd (show false = true from hs) Bool.false_ne_true
  | bl i =>
    cases rx
    cases y with
    | non => cases ry; exact PySem.EqNone.ne_bool_none (fin_bl I q (by simp))
    | bl j => cases ry; exact ne_bool (fin_bl I q (congrArg not dec_bl))
    | str j => obtain ⟨t', rfl⟩ := ry; exact PySem.EqMixed.ne_bool_str (fin_bl I q (by simp))
    | _ => exact absurd (show false = true from hs) Bool.false_ne_true
  | int i =>
    obtain ⟨t, rfl⟩ := rx
    cases y with
    | non => cases ry; exact PySem.EqNone.ne_int_none (fin_bl I q (by simp))
    | int j => obtain ⟨t', rfl⟩ := ry; exact ne_int (fin_bl I q (congrArg not dec_int))
    | str j => obtain ⟨t', rfl⟩ := ry; exact PySem.EqMixed.ne_int_str (fin_bl I q (by simp))
    | _ => exact absurd (show false = true from hs) Bool.false_ne_true
  | str i =>
    obtain ⟨t, rfl⟩ := rx
    cases y with
    | non => cases ry; exact PySem.EqNone.ne_str_none (fin_bl I q (by simp))
    | bl j => cases ry; exact PySem.EqMixed.ne_str_bool (fin_bl I q (by simp))
    | int j => obtain ⟨t', rfl⟩ := ry; exact PySem.EqMixed.ne_str_int (fin_bl I q (by simp))
    | str j => obtain ⟨t', rfl⟩ := ry; exact ne_str (fin_bl I q (congrArg not dec_str))
    | _ => exact absurd (show false = true from hs) Bool.false_ne_true
  | byt i =>
    obtain ⟨t, rfl⟩ := rx
    cases y with
    | byt j => obtain ⟨t', rfl⟩ := ry; exact PySem.W.ne_bytes (fin_bl I q (congrArg not dec_byt))
    | _ => exact absurd (show false = true from hs) Bool.false_ne_true
  | _ => cases y <;> exact absurd (show false = true from hs) Bool.false_ne_true
theorem op_lt : OpR X (compareOp .Lt) (rI0 fun i j => .bl (decide (i < j))) := opB0 fun _ _ _ _ _ _ _ q => lt_int q
/-- the one string within the other -/
theorem op_in_str : OpR X (compareOp .In) (fun x y H Q => ∃ i j, x = .str i ∧ y = .str j ∧ Q (.bl (!(Builtin.Str.occurrences j i 0 j.length 1).isEmpty)) H) := by
  intro pins s σ H x y v u Q I rx ry h
  obtain ⟨i, j, rfl, rfl, q⟩ := h
  obtain ⟨t, rfl⟩ := rx
  obtain ⟨t', rfl⟩ := ry
  exact in_str (fin_bl I q rfl)
/-- is, is not of two objects that are tracked lists or instances -/
def isObj : HO → Bool
  | .lst _ => true
  | .ins _ _ _ => true
  | _ => false
theorem obj_there {pins : List (Addr × Obj)} {s : Shared} {σ : St} {H : Hp} {a : Addr} {o : HO} (I : Inv X pins σ H s) (h : H a = some o) (p : isObj o = true) : ∃ ob, s.heap.get? a = some ob ∧ ob.cls ≠ .type "tuple" := by
  cases o with
  | lst xs =>
    obtain ⟨_, its, n, _, e⟩ : xs.length ≤ sizeLine ∧ ∃ (its : List Value) (n : Nat), Vals xs its ∧ s.heap.get? a = some { cls := .type "list", data := .seq its.toArray n } := I.hok a _ h
    exact ⟨_, e, (by show Value.type "list" ≠ .type "tuple"; decide +kernel)⟩
  | ins C dx fs =>
    have x := I.hok a _ h
    obtain ⟨_, _, _, e, _⟩ := x
    exact ⟨_, e, (by show Value.ref C ≠ .type "tuple"; exact fun z => by cases z)⟩
  | _ => exact absurd (show false = true from p) Bool.false_ne_true
theorem nomark (b : Expr) {op : CmpOp} (h : op ≠ .In := by decide) (h2 : op ≠ .NotIn := by decide) : behindInMarks op b = false := by
  have e1 : (op == CmpOp.In) = false := by cases op <;> first | rfl | exact absurd rfl h
  have e2 : (op == CmpOp.NotIn) = false := by cases op <;> first | rfl | exact absurd rfl h2
  cases b <;> simp [behindInMarks, e1, e2]
/-- a comparison as a value; hm: nomark b, or (for in, not in) by with_unfolding_all rfl -/
theorem pe_cmpR {op : CmpOp} {r : R2} (ho : OpR X (compareOp op) r) (ha : PE X a ta) (hb : PE X b tb) (hm : behindInMarks op b = false) : PE X (.Compare a [op] [b] pos) (tOp r ta tb) := by
  intro pins s σ H Q I h
  exact wpAny_Compare1 (binT ha hb I h fun v u s2 x y H2 I2 rx ry q => ho pins s2 σ H2 x y v u Q I2 rx ry q) hm
/-- a reading of a value as a test -/
def tTest (t : TE) : TT := fun σ H Q => t σ H fun x H' => IsBl x H' Q
theorem pt_cmpR {op : CmpOp} {r : R2} (ho : OpR X (compareOp op) r) (ha : PE X a ta) (hb : PE X b tb) (hm : behindInMarks op b = false) : PT X (.Compare a [op] [b] pos) (tTest (tOp r ta tb)) := by
  intro pins s σ H Q I h
  refine wpAny_isTrue_Compare1 (thn (ha pins s σ H _ I h) fun v s1 ⟨x, H1, I1, r1, q1⟩ => thn (hb pins s1 σ H1 _ I1 q1) fun u s2 ⟨y, H2, I2, r2, q2⟩ =>
    thn (ho pins s2 σ H2 x y v u _ I2 r1 r2 q2) fun c s3 ⟨z, H3, I3, r3, k, e, q3⟩ => ?_) hm
  subst e
  cases r3
  exact wpAny_truthy_bool ⟨H3, I3, q3⟩
theorem line63 : (sizeLine : Nat) < 2 ^ 63 := by rw [sizeLine_eq]; decide
theorem vals1 {x : V} {us : List Value} (r : Vals [x] us) : ∃ u, us = [u] ∧ RelV x u := by
  cases r with
  | cons r1 r2 => cases r2; exact ⟨_, rfl, r1⟩
theorem vals2 {x y : V} {us : List Value} (r : Vals [x, y] us) : ∃ u w', us = [u, w'] ∧ RelV x u ∧ RelV y w' := by
  cases r with
  | cons r1 r2 =>
    cases r2 with
    | cons r3 r4 => cases r4; exact ⟨_, _, rfl, r1, r3⟩
theorem call_str_int : CallR X (.type "str") (fun xs H Q => ∃ i, xs = [.int i] ∧ i.natAbs.log2 < 1920 ∧ Q (.str (toString i)) H) := by
  intro pins s σ H xs us Q I r h
  obtain ⟨i, rfl, hz, q⟩ := h
  obtain ⟨u, rfl, t, rfl⟩ := vals1 r
  exact PySem.P.str_of_int hz ⟨.str _, H, I.tok _, ⟨_, rfl⟩, q⟩
end
end L2
namespace L2
open PySem PySem.Spec PyProof.Rows
structure ObjM (h : Heap) (x dx C : Addr) (mA : Str → Option Value) : Prop where
  obj : h.get? x = some (PySem.W.instObj C dx)
  ns : h.Ns1 dx mA
  ne : dx ≠ x
theorem lookIn_ns {h : Heap} {dx : Addr} {mA : Str → Option Value} (n : h.Ns1 dx mA) : ∃ od, h.get? dx = some od ∧ ∀ name, PySem.W.lookIn name od = some (mA name) := by
  obtain ⟨o, es, ep, ho, hd, hk, _, hm⟩ := n
  refine ⟨o, ho, fun name => ?_⟩
  have e := hm name
  unfold nsFind findBy at e
  rw [← Array.find?_toList] at e
  unfold PySem.W.lookIn
  rw [hd]
  dsimp only
  split
  · rename_i y q
    rw [q] at e
    exact congrArg some e
  · rename_i q
    rw [q] at e
    have a : es.toList.any (·.refKey) = false := by
      rw [List.any_eq_false]
      intro y hy
      obtain ⟨z, t, hkey⟩ := hk y (Array.mem_toList_iff.mp hy)
      simp [DictEntry.refKey, hkey]
    have a' : ¬ es.toList.any (·.refKey) = true := by rw [a]; exact Bool.false_ne_true
    rw [if_neg a']
    exact congrArg some e
theorem ObjM.look {h : Heap} {x dx C : Addr} {mA : Str → Option Value} (I : ObjM h x dx C mA) : ∃ od, PySem.W.InstAt h x (PySem.W.instObj C dx) C (some od) ∧ ∀ name, PySem.W.lookIn name od = some (mA name) :=
  let ⟨od, ho, hl⟩ := lookIn_ns I.ns
  ⟨od, ⟨I.obj, rfl, rfl, ho⟩, hl⟩
section
variable {prog : Program} {w : World} {A : Around} {E : Value → Shared → Prop} {s : Shared} {K : PySem.W.Frag} {x dx C f : Addr} {mA : Str → Option Value} {name : Str} {v : Value}
end
section
variable {P : Program} {w : World} {H H' : Hp} {h h' : Heap} {a C dx : Addr} {fs fs' : List (Str × V)}
theorem ins_get (hok : HOk P w H h) (e : H a = some (.ins C dx fs)) : ∃ mA, ObjM h a dx C mA ∧ (∀ f, RelO (fs.lookup f) (mA f)) ∧ PySem.Within mA (fs.map (·.1)) ∧ fs.length ≤ 1000 ∧ H dx = some (.own a) := by
  obtain ⟨d, z, ne, ob, mA, n, r, q⟩ := (show ObjOk P w H h a (.ins C dx fs) from hok a _ e)
  exact ⟨mA, ⟨ob, n, ne⟩, r, q, z, d⟩
end
structure Cls (K : PySem.W.Frag) (C : Addr) : Prop where
  pg : PySem.W.plainGet K C Str.empty = true
  hd : PySem.W.hasDictIn K C = true
  po : PySem.W.plainOver K C = true
  sa : PySem.W.findIn K (.ref C) "__setattr__" = some (some (.builtin "object.__setattr__"))
theorem Cls.get {K : PySem.W.Frag} {C : Addr} (c : Cls K C) (f : Str) : PySem.W.plainGet K C f = true := c.pg
section
variable {X : Cx} {pins : List (Addr × Obj)} {σ : St} {H : Hp} {s : Shared} {a C dx : Addr} {fs : List (Str × V)} {f : Str} {v : V} {A : Around} {E : Value → Shared → Prop}
end
section
variable {X : Cx} {o e value : Expr} {f : Str} {pos pos' tpos : Pos} {ta tv : TE}
end
section
variable {X : Cx} {pins : List (Addr × Obj)} {σ : St} {H : Hp} {s : Shared} {A : Around} {E : Value → Shared → Prop} {Q : Value → Shared → Prop} {c : Value} {b : Bool}
/-- the type of a value, as the fragment's deciders take it; for an instance its class -/
inductive TyOf (K : PySem.W.Frag) (H : Hp) : V → Value → Prop where
  | non : TyOf K H .non (.type "NoneType")
  | bl (x : Bool) : TyOf K H (.bl x) (.type "bool")
  | int (i : Int) : TyOf K H (.int i) (.type "int")
  | str (x : Str) : TyOf K H (.str x) (.type "str")
  | flt (x : UInt64) : TyOf K H (.flt x) (.type "float")
  | lst {a : Addr} {xs : List V} (e : H a = some (.lst xs)) : TyOf K H (.ref a) (.type "list")
  | frz {a : Addr} {o : Obj} {xs : List V} (e : H a = some (.frz o (.lst xs))) : TyOf K H (.ref a) (.type "list")
  | tup {a : Addr} {xs : List V} (e : H a = some (.tup xs)) : TyOf K H (.ref a) (.type "tuple")
  | dK {a : Addr} {kvs : List (Key × V)} (e : H a = some (.dK kvs)) : TyOf K H (.ref a) (.type "dict")
  | dT {a : Addr} {kvs : List (List Key × V)} (e : H a = some (.dT kvs)) : TyOf K H (.ref a) (.type "dict")
  | ins {a C dx : Addr} {fs : List (Str × V)} (e : H a = some (.ins C dx fs)) (cl : Cls K C) (ha : PySem.W.findIn K (.ref C) "__class__" = some (some (.builtin "object.__class__")))
      (hn : PySem.W.specialIn K (.builtin "object.__class__") "__get__" = some (some (.builtin "getset_descriptor.__get__"))) (htk : PySem.W.takesIn K (.builtin "object.__class__") = some true)
      (hm : PySem.W.mroIn K C (.type "object") = some true) : TyOf K H (.ref a) (.ref C)
/-- isinstance(x, c) for one class c, a built-in or an own one: kitOne's answer -/
theorem isinst_ok {x : V} {u t : Value} (I : Inv X pins σ H s) (rx : RelV x u) (ty : TyOf X.K H x t) (e : PySem.W.kitOne X.K t c = some b) (h : ∀ tk, Q (.bool b) { s with toks := tk }) :
    wpAny (model X.prog X.w) A (call (.builtin "isinstance") [u, c]) Q E s := by
  cases ty with
  | non => cases (show u = Value.none from rx); exact PySem.W.kia_one PySem.W.kitx_none I.kIn True.intro e (fun z => nomatch z) h
  | bl y => cases (show u = Value.bool y from rx); exact PySem.W.kia_one PySem.W.kitx_bool I.kIn True.intro e (fun z => nomatch z) h
  | int i => obtain ⟨t, q⟩ := (show ∃ t, u = Value.int i t from rx); cases q; exact PySem.W.kia_one PySem.W.kitx_int I.kIn True.intro e (fun z => nomatch z) h
  | str y => obtain ⟨t, q⟩ := (show ∃ t, u = Value.str y t from rx); cases q; exact PySem.W.kia_one PySem.W.kitx_str I.kIn True.intro e (fun z => nomatch z) h
  | flt y => obtain ⟨t, q⟩ := (show ∃ t, u = Value.float y t from rx); cases q; exact PySem.W.kia_one PySem.W.kitx_float I.kIn True.intro e (fun z => nomatch z) h
  | @lst a xs ea =>
    cases (show u = Value.ref a from rx)
    obtain ⟨_, _, n, _, h1⟩ := (show ObjOk X.prog X.w H s.heap a (.lst xs) from I.hok a _ ea)
    exact PySem.W.kia_one PySem.W.kitx_list I.kIn ⟨_, h1, rfl⟩ e (fun z => nomatch z) h
  | @frz a ob xs ea =>
    cases (show u = Value.ref a from rx)
    obtain ⟨_, _, _, n, _, h1⟩ := (show ObjOk X.prog X.w H s.heap a (.frz ob (.lst xs)) from I.hok a _ ea)
    exact PySem.W.kia_one PySem.W.kitx_list I.kIn ⟨_, h1, rfl⟩ e (fun z => nomatch z) h
  | @tup a xs ea =>
    cases (show u = Value.ref a from rx)
    obtain ⟨_, _, _, p⟩ := (show ObjOk X.prog X.w H s.heap a (.tup xs) from I.hok a _ ea)
    obtain ⟨o, h1, h2, _⟩ := p
    exact PySem.W.kia_one PySem.W.kitx_tuple I.kIn ⟨o, h1, h2⟩ e (fun z => nomatch z) h
  | @dK a kvs ea =>
    cases (show u = Value.ref a from rx)
    obtain ⟨_, _, vs, _, p⟩ := (show ObjOk X.prog X.w H s.heap a (.dK kvs) from I.hok a _ ea)
    obtain ⟨o, es, ep, h1, h2, _⟩ := p
    exact PySem.W.kia_one PySem.W.kitx_dict I.kIn ⟨o, h1, h2.1⟩ e (fun z => nomatch z) h
  | @dT a kvs ea =>
    cases (show u = Value.ref a from rx)
    obtain ⟨_, _, xs, _, o, es, ep, h1, h2, _⟩ := (show ObjOk X.prog X.w H s.heap a (.dT kvs) from I.hok a _ ea)
    exact PySem.W.kia_one PySem.W.kitx_dict I.kIn ⟨o, h1, h2.1⟩ e (fun z => nomatch z) h
  | @ins a C dx fs ea cl ha hn htk hm =>
    cases (show u = Value.ref a from rx)
    obtain ⟨mA, O, _⟩ := ins_get I.hok ea
    obtain ⟨od, J, _⟩ := O.look
    exact PySem.W.kia_one (PySem.W.kitx_own (cl.get _) cl.hd ha hn htk hm) I.kIn J e (fun z => nomatch z) h
end
end L2
namespace L2
open PySem PySem.Spec PyProof.Rows
structure Room (k : Nat) (A : Around) : Prop where
  hd : A.handled = none
  dp : A.depth + 3 * k + 5 < recursionLimit
  un : A.units + 16 * k + 200 < cLine
theorem Room.mono {j k : Nat} {A : Around} (r : Room k A) (h : j ≤ k) : Room j A := ⟨r.hd, by have := r.dp; (first | lia | omega), by have := r.un; (first | lia | omega)⟩
theorem Room.deeper {k : Nat} {A : Around} (r : Room (k + 1) A) (env : Env) : Room k (A.deeper env) :=
  ⟨r.hd, by have := r.dp; show A.depth + 1 + 3 * k + 5 < _; (first | lia | omega), by have := r.un; show A.units + 3 + 16 * k + 200 < _; (first | lia | omega)⟩
theorem Room.depth {k : Nat} {A : Around} (r : Room k A) : A.depth < recursionLimit := by have := r.dp; (first | lia | omega)
theorem Room.units {k : Nat} {A : Around} (r : Room k A) : A.units + 64 < cLine := by have := r.un; (first | lia | omega)
def tNil : TA := fun _ H Q => Q [] H
def tCons (ta : TE) (tr : TA) : TA := fun σ H Q => ta σ H fun x H1 => tr σ H1 fun xs H2 => Q (x :: xs) H2
section
variable {X : Cx} {e : Expr} {es : List Expr} {te : TE} {t : TA} {pos : Pos}
theorem pa_nil : PA X [] tNil := fun _ _ _ _ H Q I h => Calls.spliced_nil ⟨[], H, I, .nil, h⟩
theorem pa_cons (ha : PE X e te) (hr : PA X es t) (hs : starEach (e :: es) X.env = (false, eval e X.env) :: starEach es X.env := by rfl) : PA X (e :: es) (tCons te t) := by
  intro pos pins s σ H Q I h
  rw [hs]
  show wpAny _ _ (spliced ((false, eval e X.env) :: backTo pos (starEach es X.env))) _ _ s
  refine Calls.spliced_cons (thn (ha pins s σ H _ I h) fun u s1 ⟨x, H1, I1, r1, q1⟩ => ?_)
  exact thn (hr pos pins s1 σ H1 _ I1 q1) fun us s2 ⟨xs, H2, I2, r2, q2⟩ => ⟨x :: xs, H2, I2, .cons r1 r2, q2⟩
/-- a tuple, a list of written items -/
def tTup (t : TA) : TE := fun σ H Q => t σ H fun xs H1 => xs.length ≤ sizeLine ∧ ∀ p, H1 p = none → Q (.ref p) (upd H1 p (.tup xs))
def tLst (t : TA) : TE := fun σ H Q => t σ H fun xs H1 => xs.length ≤ sizeLine ∧ ∀ p, H1 p = none → Q (.ref p) (upd H1 p (.lst xs))
theorem pe_tup {x1} (h : PA X es t) : PE X (.Tuple es x1 pos) (tTup t) := by
  intro pins s σ H Q I hq
  refine wpAny_Tuple_spliced (thn (h pos pins s σ H _ I hq) fun us s1 ⟨xs, H1, I1, r, z, q⟩ => ⟨by rw [← r.length]; exact z, ?_⟩)
  have hf : H1 s1.heap.objs.size = none := I1.hok.fresh (Nat.le_refl _)
  refine ⟨.ref s1.heap.objs.size, upd H1 s1.heap.objs.size (.tup xs), I1.laid (t' := s1.toks) (fun b u e => Heap.get?_push_of_some _ e) (Nat.le_refl _) ?_, rfl, q _ hf⟩
  exact ⟨z, us, r, ⟨_, Heap.get?_push_size _ rfl, rfl, _, rfl⟩⟩
theorem pe_lst (h : PA X es t) : PE X (.List es pos) (tLst t) := by
  intro pins s σ H Q I hq
  refine wpAny_List_spliced (thn (h pos pins s σ H _ I hq) fun us s1 ⟨xs, H1, I1, r, z, q⟩ => ⟨by rw [← r.length]; exact z, ?_⟩)
  have hf : H1 s1.heap.objs.size = none := I1.hok.fresh (Nat.le_refl _)
  refine ⟨.ref s1.heap.objs.size, upd H1 s1.heap.objs.size (.lst xs), I1.laid (t' := s1.toks) (fun b u e => Heap.get?_push_of_some _ e) (Nat.le_refl _) ?_, rfl, q _ hf⟩
  exact ⟨z, us, 0, r, Heap.get?_push_size _ rfl⟩
end
/-- a def's promise: the bound arguments in the parameters' order, the heap, the wanted end, the wanted exception -/
abbrev Sp := List V → Hp → VK → XK → Prop
/-- how an exception lies behind a call (file 08 gives it): the callers' frames, abstract heap and state ahead of the call, the wish, the exception, the state -/
abbrev CXT := List Env → Hp → Shared → XK → Value → Shared → Prop
/-- the state at a call -/
structure Env0 (P : Program) (w : World) (K : PySem.W.Frag) (mg : Str → Option Value) (base : Heap) (A : Around) (outer : List Env) (s : Shared) (H : Hp) : Prop where
  frames : A.frames = some outer
  mod : Mod K mg base
  bs : ∀ b o, base.get? b = some o → s.heap.get? b = some o ∧ H b = none
  bsz : base.objs.size ≤ s.heap.objs.size
  funs : s.heap.FunFrames base outer
  frf : ∀ b ∈ frs outer, H b = none
  hok : HOk P w H s.heap
  bare : AllBare s.gens
/-- a call's end -/
def CE (outer : List Env) (P : Program) (w : World) (H : Hp) (s : Shared) (Q : VK) (u : Value) (s' : Shared) : Prop :=
  ∃ v H', s'.os = s.os ∧ AllBare s'.gens ∧ Un (frs outer) [] H H' s.heap s'.heap ∧ HOk P w H' s'.heap ∧ RelV v u ∧ Q v H'
def CR (CX : CXT) (outer : List Env) (P : Program) (w : World) (H : Hp) (s : Shared) (Q : VK) (E : XK) (r : Result) (s' : Shared) : Prop :=
  match r with
  | .ok (.ret u) => CE outer P w H s Q u s'
  | .ok _ => False
  | .error e => CX outer H s E e s'
structure FnOk (P : Program) (w : World) (K : PySem.W.Frag) (mg : Str → Option Value) (base : Heap) (CX : CXT) (k : Nat) (f : Addr) (fd : FuncData) (ps : List Str) (sp : Sp) : Prop where
  len : ∀ vs H Q E, sp vs H Q E → vs.length = ps.length
  run : ∀ (A : Around) (outer : List Env) (s : Shared) (H : Hp) (args : Args) (us : List Value) (vs : List V) (Q : VK) (E : XK), Room k A → Env0 P w K mg base A outer s H → BindsTo s fd args (ps.zip us) → Vals vs us → sp vs H Q E →
    codeAny (model P w) A (.call (.ref f) args) (CR CX outer P w H s Q E) s
theorem FnOk.mono {P : Program} {w : World} {K : PySem.W.Frag} {mg : Str → Option Value} {base : Heap} {CX : CXT} {j k : Nat} {f : Addr} {fd : FuncData} {ps : List Str} {sp : Sp} (F : FnOk P w K mg base CX j f fd ps sp) (h : j ≤ k) :
    FnOk P w K mg base CX k f fd ps sp := ⟨F.len, fun A outer s H args us vs Q E hr => F.run A outer s H args us vs Q E (hr.mono h)⟩
section
variable {X : Cx} {pins : List (Addr × Obj)} {σ : St} {H : Hp} {s s' : Shared}
/-- from a body: what a callee wants -/
theorem Inv.env0 (I : Inv X pins σ H s) : Env0 X.prog X.w X.K X.mg X.base X.A X.stack s H :=
  ⟨I.ok.frames, I.ok.mod, I.bs, Nat.le_trans I.ok.bsz I.sz, I.stack, I.stkFree, I.hok, I.bare⟩
/-- behind a call -/
theorem Inv.after {Q : VK} {u : Value} (I : Inv X pins σ H s) (h : CE X.stack X.prog X.w H s Q u s') : EP X pins σ Q u s' := by
  obtain ⟨v, H', os, bare, un, hok, r, q⟩ := h
  obtain ⟨hh, g, d, t, os'⟩ := s'
  obtain rfl : os' = s.os := os
  exact ⟨v, H', I.call (h' := hh) (g' := g) (d' := d) (t' := t) (ch := []) un hok bare (fun b z => absurd z (by simp)), r, q⟩
end
/-- f(..): the written arguments, then the defaults dvs; E: what is wanted of an exception -/
def tCall (sp : Sp) (dvs : List V) (E : XK) (t : TA) : TE := fun σ H Q => t σ H fun vs H1 => sp (vs ++ dvs) H1 Q E
/-- how the parameters are bound: us the positional arguments, kw the keywords' values by name, ds the defaults that fill up -/
def Binds (K : PySem.W.Frag) (fd : FuncData) (ps : List Str) (ds : List Value) : Prop :=
  ∀ (s : Shared) (us : List Value), K.In s.heap → (us ++ ds).length = ps.length → BindsTo s fd ⟨us, []⟩ (ps.zip (us ++ ds))
/-- every parameter is given -/
theorem Binds.all {K : PySem.W.Frag} {fd : FuncData} {ps : List Str} (h : ∀ us : List Value, us.length = ps.length → bindArgs fd ⟨us, []⟩ = pure (ps.zip us)) : Binds K fd ps [] := fun s us _ hl => by
  rw [List.append_nil] at hl ⊢
  exact .of_eq (h us hl)
/-- an exception of a callee reaches what this body wants of exceptions -/
def Passes (CX : CXT) (X : Cx) (E : XK) : Prop := ∀ (pins : List (Addr × Obj)) (σ : St) (H : Hp) (s : Shared) (e : Value) (s' : Shared), Inv X pins σ H s → CX X.stack H s E e s' → X.xe e s'
section
variable {X : Cx} {CX : CXT} {k : Nat} {f C : Addr} {fd : FuncData} {ps : List Str} {sp : Sp} {dvs : List V} {ds : List Value} {E : XK} {x m : Str} {p pos apos : Pos} {e o : Expr} {es : List Expr} {ta : TE} {t : TA}
/-- the callee runs -/
theorem run_fn {pins : List (Addr × Obj)} {σ : St} {H : Hp} {s : Shared} {Q : VK} {us : List Value} {vs : List V} (F : FnOk X.prog X.w X.K X.mg X.base CX k f fd ps sp) (hr : Room k X.A) (hb : Binds X.K fd ps ds) (hd : Vals dvs ds) (hx : Passes CX X E)
    (I : Inv X pins σ H s) (r : Vals vs us) (h : sp (vs ++ dvs) H Q E) : wpAny (model X.prog X.w) X.A (call (.ref f) us) (EP X pins σ Q) X.xe s := by
  have r2 : Vals (vs ++ dvs) (us ++ ds) := r.append hd
  have hl : (us ++ ds).length = ps.length := by rw [← r2.length]; exact F.len _ _ _ _ h
  refine wpAny_call (codeAny_mono (F.run X.A X.stack s H ⟨us, []⟩ (us ++ ds) (vs ++ dvs) Q E hr I.env0 (hb s us I.kIn hl) r2 h) fun r s' hq => ?_)
  cases r with
  | error e => exact hx pins σ H s e s' I hq
  | ok fl =>
    cases fl with
    | ret u => exact I.after hq
    | next => exact False.elim hq
    | brk => exact False.elim hq
    | cont => exact False.elim hq
theorem pe_call (F : FnOk X.prog X.w X.K X.mg X.base CX k f fd ps sp) (hr : Room k X.A) (hg : Gl X x) (hm : X.mg x = some (.ref f)) (hk : PySem.W.keepIn X.K (.ref f) = true) (hb : Binds X.K fd ps ds) (hd : Vals dvs ds) (hx : Passes CX X E)
    (ha : PA X (e :: es) t) (hdb : (x == ("__debug__" : Str)) = false := by decide) (he : starEach (e :: es) X.env = (false, eval e X.env) :: starEach es X.env := by rfl) (hpl : (backTo pos (starEach es X.env)).any (·.1) = false := by rfl) :
    PE X (.Call (.Name x p) (e :: es) [] pos) (tCall sp dvs E t) := by
  intro pins s σ H Q I h
  refine wpAny_Call_Name_kw (ld_glob I hg hm ?_ hdb)
  refine PySem.W.callWith_K (h₀ := X.base) I.ok.mod.kin hk (thn (ha pos pins s σ H _ I h) fun us s1 ⟨vs, H1, I1, r, q⟩ => ⟨I1.kIn, ?_⟩) he hpl
  exact run_fn F hr hb hd hx I1 r q
end
section
variable {X : Cx} {CX : CXT} {k : Nat} {f C : Addr} {fd : FuncData} {ps ks : List Str} {sp : Sp} {E : XK} {x m : Str} {p pos apos kpos : Pos} {e o : Expr} {es : List Expr} {kws : List Keyword} {te ta : TE} {t tk : TA} {nm : Option Str}
variable {g : List Value → List Value → List Value} {gV : List V → List V → List V}
end
/-- names: the parameters first -/
structure FnScope (N P : List Str) (sc : Scope) : Prop where
  kind : sc.kind = .function
  co : sc.isCoroutine = false
  gen : sc.isGenerator = false
  nd : N.Nodup
  pre : N.take P.length = P
  par : ∀ x ∈ P, sc.names.lookup x = some .local ∨ sc.names.lookup x = some .cell
  nofree : ∀ y ∈ sc.names, y.2 ≠ .free
theorem bindL_out {kindOf : Str → Option NameKind} {x : Str} : ∀ {binds : List (Str × Value)} {m : Str → Option Value}, (∀ v, (x, v) ∉ binds) → bindL kindOf binds m x = m x
  | [], _, _ => rfl
  | (n, v) :: r, m, h => by
    unfold bindL
    rw [bindL_out fun w hw => h w (List.mem_cons_of_mem _ hw)]
    split
    · have : x ≠ n := by rintro rfl; exact h v List.mem_cons_self
      simp [this]
    · rfl
theorem bindC_out {kindOf : Str → Option NameKind} {x : Str} : ∀ {binds : List (Str × Value)} {m : Str → Option Value}, (∀ v, (x, v) ∉ binds) → bindC kindOf binds m x = m x
  | [], _, _ => rfl
  | (n, v) :: r, m, h => by
    unfold bindC
    rw [bindC_out fun w hw => h w (List.mem_cons_of_mem _ hw)]
    split
    · rfl
    · have : x ≠ n := by rintro rfl; exact h v List.mem_cons_self
      simp [this]
theorem bindL_get {kindOf : Str → Option NameKind} {x : Str} {v : Value} : ∀ {P : List Str} {vs : List Value} {i : Nat} {m : Str → Option Value}, P.Nodup → P[i]? = some x → vs[i]? = some v → kindOf x = some .local →
    bindL kindOf (P.zip vs) m x = some v
  | [], _, _, _, _, h, _, _ => by simp at h
  | _ :: _, [], _, _, _, _, h, _ => by simp at h
  | p :: P, w :: vs, 0, m, nd, h1, h2, hk => by
    simp at h1 h2; subst h1; subst h2
    show bindL kindOf ((p, w) :: P.zip vs) m p = _
    unfold bindL
    rw [bindL_out fun v hv => (List.nodup_cons.mp nd).1 (List.of_mem_zip hv).1, if_pos hk]
    simp
  | p :: P, w :: vs, i + 1, m, nd, h1, h2, hk => by
    show bindL kindOf ((p, w) :: P.zip vs) m x = _
    unfold bindL
    exact bindL_get (i := i) (List.nodup_cons.mp nd).2 (by simpa using h1) (by simpa using h2) hk
theorem bindC_get {kindOf : Str → Option NameKind} {x : Str} {v : Value} : ∀ {P : List Str} {vs : List Value} {i : Nat} {m : Str → Option Value}, P.Nodup → P[i]? = some x → vs[i]? = some v → kindOf x ≠ some .local →
    bindC kindOf (P.zip vs) m x = some v
  | [], _, _, _, _, h, _, _ => by simp at h
  | _ :: _, [], _, _, _, _, h, _ => by simp at h
  | p :: P, w :: vs, 0, m, nd, h1, h2, hk => by
    simp at h1 h2; subst h1; subst h2
    show bindC kindOf ((p, w) :: P.zip vs) m p = _
    unfold bindC
    rw [bindC_out fun v hv => (List.nodup_cons.mp nd).1 (List.of_mem_zip hv).1, if_neg hk]
    simp
  | p :: P, w :: vs, i + 1, m, nd, h1, h2, hk => by
    show bindC kindOf ((p, w) :: P.zip vs) m x = _
    unfold bindC
    exact bindC_get (i := i) (List.nodup_cons.mp nd).2 (by simpa using h1) (by simpa using h2) hk
/-- the names' values at the entry -/
def start (N : List Str) (vs : List V) : St := vs.map some ++ List.replicate (N.length - vs.length) none
/-- the context of a def's body, at its entry; an exception leaves the frame, then lies as CX says -/
def cxOf (CX : CXT) (P : Program) (w : World) (K : PySem.W.Frag) (mg : Str → Option Value) (base : Heap) (N : List Str) (qual : Str) (scope : Scope) (f : Addr) (cd : Value) (A : Around) (outer : List Env) (s : Shared) (H : Hp) (E : XK) : Cx where
  prog := P
  w := w
  K := K
  mg := mg
  base := base
  A := A.deeper (envOfC qual scope s.heap.objs.size f cd)
  N := N
  s₀ := s
  H₀ := H
  env := envOfC qual scope s.heap.objs.size f cd
  outer := outer
  stack := envOfC qual scope s.heap.objs.size f cd :: outer
  ex := []
  calm := true
  fn := fun _ => true
  pn := []
  xe := fun e s' => wpAny (model P w) (A.deeper (envOfC qual scope s.heap.objs.size f cd)) (leaving (envOfC qual scope s.heap.objs.size f cd) e) (fun _ s'' => CX outer H s E e s'') (fun e' s'' => CX outer H s E e' s'') s'
theorem cell_has {sc : Scope} {n : Nat} {x : Str} (h : sc.names.lookup x = some .cell) : ∃ c, (cellsFrom n sc.names []).lookup x = some c := by
  have q := PySem.W.cellsFrom_some sc.names n [] (.inl h)
  exact Option.isSome_iff_exists.mp q
theorem inv_start {CX : CXT} {P : Program} {w : World} {K : PySem.W.Frag} {mg : Str → Option Value} {base : Heap} {N ps : List Str} {qual : Str} {scope : Scope} {f : Addr} {cd : Value} {A : Around} {outer : List Env} {s s1 : Shared} {H : Hp} {E : XK} {us : List Value} {vs : List V}
    (S : FnScope N ps scope) (hd : A.handled = none) (e0 : Env0 P w K mg base A outer s H) (hl : vs.length = ps.length) (r : Vals vs us)
    (x : InCallC s s.heap.objs.size (bindL (envOfC qual scope s.heap.objs.size f cd).kindOf (ps.zip us) fun _ => none) (cellsFrom (s.heap.objs.size + 1) scope.names []) (bindC (envOfC qual scope s.heap.objs.size f cd).kindOf (ps.zip us) fun _ => none) s1) :
    Inv (cxOf CX P w K mg base N qual scope f cd A outer s H E) [] (start N vs) H s1 := by
  have hpl : ps.length ≤ N.length := by have := congrArg List.length S.pre; rw [List.length_take] at this; (first | lia | omega)
  obtain ⟨h1, tk, rfl, hk⟩ := x.done
  have noA : ∀ b : Addr, b ∉ (cxOf CX P w K mg base N qual scope f cd A outer s H E).ex := fun b z => absurd (show b ∈ ([] : List Addr) from z) (by simp)
  refine ⟨⟨e0.mod, S.kind, rfl, rfl, Nat.le_refl _, fun y z c h1 h2 => ?_, fun y hy => ?_, fun y c _ h => ?_, fun _ => hd, Around.frames_deeper e0.frames, .inr ⟨rfl, rfl⟩, fun b z => absurd z (noA b), e0.bs, e0.bsz, fun b _ _ => noA b, fun b z => absurd z (noA b), e0.funs, e0.frf⟩,
    rfl, e0.bare, Un.kept hk, ⟨_, x.toInCall.ns, fun i y v h1 h2 h3 => ?_⟩, fun y c h => ⟨_, x.cell y c h⟩, e0.hok.fresh (Nat.le_refl _), fun y c h => ?_, fun p hp => absurd (show p ∈ ([] : List (Addr × Obj)) from hp) (by simp), e0.hok.kept hk, ?_⟩
  · exact name_of_addr x.apart (PySem.mem_of_lookup h1) (PySem.mem_of_lookup h2)
  · have hy : scope.names.lookup y = some .cell ∨ scope.names.lookup y = some .free := hy
    rcases hy with hy | hy
    · exact cell_has hy
    · exact absurd rfl (S.nofree _ (PySem.mem_of_lookup hy))
  · exact Nat.le_of_lt (x.above y c (PySem.mem_of_lookup h))
  · have hi : i < vs.length := by
      unfold start at h2
      by_cases hi : i < vs.length
      · exact hi
      · rw [List.getElem?_append_right (by simpa using hi)] at h2
        rw [List.getElem?_replicate] at h2
        split at h2 <;> cases h2
    have ha : vs[i]? = some v := by
      unfold start at h2
      rw [List.getElem?_append_left (by simpa using hi), List.getElem?_map] at h2
      cases e : vs[i]? with
      | none => rw [e] at h2; cases h2
      | some a => rw [e] at h2; cases h2; rfl
    obtain ⟨u, hu, rv⟩ := r.get ha
    have hp : ps[i]? = some y := by
      rw [← S.pre, List.getElem?_take_of_lt (by (first | lia | omega))]; exact h1
    have ndP : ps.Nodup := by rw [← S.pre]; exact S.nd.sublist (List.take_sublist _ _)
    refine ⟨u, rv, ?_⟩
    rcases S.par y (List.mem_of_getElem? hp) with k | k
    · exact .inl ⟨k, bindL_get ndP hp hu k⟩
    · obtain ⟨c, e⟩ := cell_has (n := s.heap.objs.size + 1) k
      refine .inr ⟨.inl k, c, e, ?_⟩
      have q := x.cell y c e
      rw [bindC_get ndP hp hu (by show scope.names.lookup y ≠ _; rw [k]; decide)] at q
      exact q
  · exact e0.hok.fresh (Nat.le_of_lt (x.above y c (PySem.mem_of_lookup h)))
  · unfold start
    show _ = N.length
    rw [List.length_append, List.length_map, List.length_replicate]
    (first | lia | omega)
/-- THE RULE: a def (or a method) of the text, by its body. The body's reading t is chosen for each entry; it is run at the parameters' values -/
theorem fn_of {CX : CXT} {P : Program} {w : World} {K : PySem.W.Frag} {mg : Str → Option Value} {base : Heap} {k : Nat} {f : Addr} {name qual : Str} {params : Arguments} {body : List Stmt} {scope : Scope} {dV kV doc pm cdv ct oc : Value} {an od : Option Addr}
    {osl : Array (Option Value)} {N ps : List Str} {sp : Sp} (lk : K.lookup f = some ⟨oc, od, .func (PySem.W.fnOf name qual params body scope dV kV doc pm an cdv ct), osl⟩) (hcd : PySem.W.codeIn K cdv qual = true) (S : FnScope N ps scope)
    (len : ∀ vs H Q E, sp vs H Q E → vs.length = ps.length)
    (hbody : ∀ (A : Around) (outer : List Env) (s : Shared) (H : Hp) (vs : List V) (Q : VK) (E : XK), Room k (A.deeper (envOfC qual scope s.heap.objs.size f cdv)) → sp vs H Q E →
      ∃ t, PSs (cxOf CX P w K mg base N qual scope f cdv A outer s H E) body t ∧ t { nx := fun _ H' => Q .non H', rt := Q } (start N vs) H) :
    FnOk P w K mg base CX (k + 1) f (PySem.W.fnOf name qual params body scope dV kV doc pm an cdv ct) ps sp := by
  refine ⟨len, fun A outer s H args us vs Q E hr e0 hb r hsp => ?_⟩
  have hl := len _ _ _ _ hsp
  have KX : K.In s.heap := e0.mod.kin.keeps fun b o e => (e0.bs b o e).1
  have lim : s.heap.NoLimit := e0.mod.nolimit.keeps fun b o e => (e0.bs b o e).1
  have hkind : ∀ y ∈ ps.zip us, scope.names.lookup y.1 = some .local ∨ (scope.names.lookup y.1 = some .cell ∧ ((cellsFrom (s.heap.objs.size + 1) scope.names []).lookup y.1).isSome = true) := fun ⟨n, v⟩ hy => by
    rcases S.par n (List.of_mem_zip hy).1 with q | q
    · exact .inl q
    · exact .inr ⟨q, PySem.W.cellsFrom_some _ _ _ (.inl q)⟩
  refine codeAny_call_function hr.depth (KX _ _ lk) rfl S.co S.gen rfl (PySem.W.codeRec_of KX hcd) (hb _ _ _ _ ?_)
  refine wpAny_newFunctionEnv_cells S.kind hkind fun env he s1 x => ?_
  subst he
  refine ⟨lim.keeps x.toInCall.keep, codeAny_func ?_⟩
  obtain ⟨t, ht, hq⟩ := hbody A outer s H vs Q E (hr.deeper _) hsp
  have I : Inv (cxOf CX P w K mg base N qual scope f cdv A outer s H E) [] (start N vs) H s1 := inv_start S hr.hd e0 hl r x
  refine wpAny_mono (ht [] s1 (start N vs) H _ I hq) (fun fl s' hs => ?_) fun e s' hs => hs
  have fin : ∀ {σ' : St} {H' : Hp} {v : V} {u : Value}, Inv (cxOf CX P w K mg base N qual scope f cdv A outer s H E) [] σ' H' s' → RelV v u → Q v H' → CE outer P w H s Q u s' :=
    fun {σ' H' v u} J rv q => ⟨v, H', J.os, J.bare, J.base, J.hok, rv, q⟩
  cases fl with
  | ret u =>
    obtain ⟨v, σ', H', J, rv, q⟩ := hs
    exact fin J rv q
  | next =>
    obtain ⟨σ', H', J, q⟩ := hs
    exact fin (v := V.non) (u := Value.none) J rfl q
  | brk =>
    obtain ⟨_, _, _, q⟩ := hs
    exact False.elim q
  | cont =>
    obtain ⟨_, _, _, q⟩ := hs
    exact False.elim q
end L2
namespace L2
open PySem PySem.Spec PyProof.Rows
section
variable {X : Cx} {x : Str} {p pos : Pos} {e : Expr} {es : List Expr} {t : TA} {id T : String} {r : List V → Hp → VK → Prop}
def tCB (r : List V → Hp → VK → Prop) (t : TA) : TE := fun σ H Q => t σ H fun vs H1 => r vs H1 Q
/-- f(e, ..), f a built-in function -/
theorem pe_callB (hc : CallR X (.builtin id) r) (hg : Gl X x) (hm : X.mg x = none) (hv : bootBuiltins x = some (.builtin id)) (ha : PA X (e :: es) t) (hn : x ≠ "__name__" := by decide) (hdb : (x == ("__debug__" : Str)) = false := by decide)
    (he : starEach (e :: es) X.env = (false, eval e X.env) :: starEach es X.env := by rfl) (hpl : (backTo pos (starEach es X.env)).any (·.1) = false := by rfl) : PE X (.Call (.Name x p) (e :: es) [] pos) (tCB r t) := by
  intro pins s σ H Q I h
  refine wpAny_Call_Name_kw (ld_blt I hg hm hv ?_ hn hdb)
  exact PyProof.Rows.callWith_builtin1 (thn (ha pos pins s σ H _ I h) fun us s1 ⟨vs, H1, I1, r1, q1⟩ => hc pins s1 σ H1 vs us Q I1 r1 q1) he hpl
/-- T(e, ..), T a built-in type -/
theorem pe_callTy (hc : CallR X (.type T) r) (hg : Gl X x) (hm : X.mg x = none) (hv : bootBuiltins x = some (.type T)) (ha : PA X (e :: es) t) (hn : x ≠ "__name__" := by decide) (hdb : (x == ("__debug__" : Str)) = false := by decide)
    (he : starEach (e :: es) X.env = (false, eval e X.env) :: starEach es X.env := by rfl) (hpl : (backTo pos (starEach es X.env)).any (·.1) = false := by rfl) : PE X (.Call (.Name x p) (e :: es) [] pos) (tCB r t) := by
  intro pins s σ H Q I h
  refine wpAny_Call_Name_kw (ld_blt I hg hm hv ?_ hn hdb)
  exact PyProof.Rows.callWith_type1 (thn (ha pos pins s σ H _ I h) fun us s1 ⟨vs, H1, I1, r1, q1⟩ => hc pins s1 σ H1 vs us Q I1 r1 q1) he hpl
end
end L2
namespace HT
open PySem PyProof.Rows
section
open PySem.SeqAt
open PySem.AutoSeq1 (wpAny_loadPart')
open PySem.MeetsSeq PySem.MeetsSeq2 PySem.MeetsSeq3
end
section
variable {prog : Program} {w : World} {A : Around} {E : Value → Shared → Prop} {s : Shared}
/-- a slice's bound as a place among n (d where it is left out) -/
def sIx (n d : Nat) : Option Int → Nat
  | none => d
  | some v => if v < 0 then (v + (n : Int)).toNat else min v.toNat n
theorem sIx_none (n d : Nat) : sIx n d none = d := rfl
theorem sIx_nat (n d k : Nat) : sIx n d (some (k : Int)) = min k n := by
  show (if (k : Int) < 0 then ((k : Int) + (n : Int)).toNat else min (k : Int).toNat n) = min k n
  rw [if_neg (by (first | lia | omega)), Int.toNat_natCast]
end
end HT
namespace L2
open PySem PySem.Spec PyProof.Rows
abbrev TO := St → Hp → (Option Int → Hp → Prop) → Prop
/-- a slice's part (left out, or an int) -/
def PO (X : Cx) (e : Option Expr) (t : TO) : Prop :=
  ∀ (pins : List (Addr × Obj)) (s : Shared) (σ : St) (H : Hp) (Q : Option Int → Hp → Prop), Inv X pins σ H s → t σ H Q →
    wpAny (model X.prog X.w) X.A (evalPart e X.env) (fun u s' => ∃ o H', Inv X pins σ H' s' ∧ IsPart u o ∧ Q o H') X.xe s
def tNoPart : TO := fun _ H Q => Q none H
inductive IsPart' (x : V) (H : Hp) (Q : Option Int → Hp → Prop) : Prop
  | mk (i : Int) (z_0 : x = .int i) (z_1 : Q (some i) H) : IsPart' x H Q
def tPart (t : TE) : TO := fun σ H Q => t σ H fun x H1 => IsPart' x H1 Q
section
variable {X : Cx} {e : Expr} {te : TE} {lo hi : Option Expr} {tl th : TO} {pos p2 : Pos}
theorem po_none : PO X none tNoPart := by
  intro pins s σ H Q I h
  rw [evalPart_none]
  exact wpAny_pure ⟨none, H, I, .none, h⟩
theorem po_some (h : PE X e te) : PO X (some e) (tPart te) := by
  intro pins s σ H Q I hw
  rw [evalPart_some]
  refine thn (h pins s σ H _ I hw) fun u s1 ⟨x, H1, I1, r1, q1⟩ => ?_
  obtain ⟨i, rfl, q⟩ := q1
  obtain ⟨t, rfl⟩ := r1
  exact ⟨some i, H1, I1, .int i t, q⟩
/-- what a slice of a value is, by values: the slice object stands at sl -/
def SlR (X : Cx) (r : V → Option Int → Option Int → Hp → VK → Prop) : Prop :=
  ∀ (pins : List (Addr × Obj)) (s : Shared) (σ : St) (H : Hp) (x : V) (v vl vu : Value) (lo hi : Option Int) (sl : Addr) (Q : VK), Inv X pins σ H s → RelV x v → s.heap.IsSliceOf sl vl vu .none → IsPart vl lo → IsPart vu hi → r x lo hi H Q →
    ∃ T id, typeLookup (.type T) "__getitem__" = pure (some (.builtin id)) ∧ s.TypeIs v T ∧ wpAny (model X.prog X.w) X.A (getItem v (.ref sl)) (EP X pins σ Q) X.xe s
def tSl (r : V → Option Int → Option Int → Hp → VK → Prop) (te : TE) (tl th : TO) : TE := fun σ H Q => te σ H fun x H1 => tl σ H1 fun l H2 => th σ H2 fun u H3 => r x l u H3 Q
/-- a[lo:hi], any a -/
theorem pe_slice {r : V → Option Int → Option Int → Hp → VK → Prop} (hr : SlR X r) (he : PE X e te) (hl : PO X lo tl) (hu : PO X hi th) : PE X (.Subscript e (.Slice lo hi none p2) pos) (tSl r te tl th) := by
  intro pins s σ H Q I h
  refine Subscript_ (thn (he pins s σ H _ I h) fun v s1 ⟨x, H1, I1, r1, q1⟩ => ?_)
  refine wpAny_Slice (thn (hl pins s1 σ H1 _ I1 q1) fun vl s2 ⟨l, H2, I2, pl, q2⟩ => thn (hu pins s2 σ H2 _ I2 q2) fun vu s3 ⟨u, H3, I3, pu, q3⟩ => ?_)
  rw [evalPart_none]
  refine wpAny_pure ?_
  have I4 : Inv X pins σ H3 { s3 with heap := s3.heap.push { cls := .type "slice", data := .fields #[vl, vu, .none] } } := I3.kept (t' := s3.toks) fun b ob q => Heap.get?_push_of_some _ q
  obtain ⟨T, id, hT, ht, hg⟩ := hr pins { s3 with heap := s3.heap.push { cls := .type "slice", data := .fields #[vl, vu, .none] } } σ H3 x v vl vu l u s3.heap.objs.size Q I4 r1 (Heap.IsSliceOf.new ..) pl pu q3
  show wpAny (model X.prog X.w) X.A (subscriptTail e (.Slice lo hi none p2) v (.ref s3.heap.objs.size)) (EP X pins σ Q) X.xe { s3 with heap := s3.heap.push { cls := .type "slice", data := .fields #[vl, vu, .none] } }
  exact tail_any (ops := [.ref s3.heap.objs.size, v]) ht hT hg (by with_unfolding_all rfl)
/-- the items of xs[lo:hi] -/
def cutV (xs : List V) (lo hi : Option Int) : List V := (xs.drop (HT.sIx xs.length 0 lo)).take (HT.sIx xs.length xs.length hi - HT.sIx xs.length 0 lo)
theorem cutV_length (xs : List V) (lo hi : Option Int) : (cutV xs lo hi).length ≤ xs.length := by
  unfold cutV
  rw [List.length_take, List.length_drop]
  (first | lia | omega)
end
end L2
namespace L2
open PySem PySem.Spec PyProof.Rows
/-- the place that an index of any sign means -/
def ixN (n : Nat) (i : Int) : Option Nat := if 0 ≤ i then (if i < n then some i.toNat else none) else if -(n : Int) ≤ i then some (i + n).toNat else none
def atI {α : Type} (xs : List α) (i : Int) : Option α := (ixN xs.length i).bind fun j => xs[j]?
theorem ixN_seq {n : Nat} {i : Int} {j : Nat} (h : ixN n i = some j) : seqIndex? i n = some j ∧ j < n ∧ -(n : Int) ≤ i ∧ i < n := by
  unfold ixN at h
  by_cases h0 : 0 ≤ i
  · rw [if_pos h0] at h
    by_cases h1 : i < n
    · rw [if_pos h1] at h
      have e : i.toNat = j := Option.some.inj h
      exact ⟨by rw [seqIndex_of h0 h1, e], by (first | lia | omega), by (first | lia | omega), h1⟩
    · rw [if_neg h1] at h; cases h
  · rw [if_neg h0] at h
    by_cases h1 : -(n : Int) ≤ i
    · rw [if_pos h1] at h
      have e : (i + n).toNat = j := Option.some.inj h
      exact ⟨by rw [seqIndex_neg (by (first | lia | omega)) h1, e], by (first | lia | omega), h1, by (first | lia | omega)⟩
    · rw [if_neg h1] at h; cases h
theorem atI_get {α : Type} {xs : List α} {i : Int} {v : α} (h : atI xs i = some v) : ∃ j, seqIndex? i xs.length = some j ∧ xs[j]? = some v ∧ j < xs.length ∧ -(xs.length : Int) ≤ i ∧ i < xs.length := by
  unfold atI at h
  cases e : ixN xs.length i with
  | none => rw [e] at h; cases h
  | some j =>
    rw [e] at h
    obtain ⟨h1, h2, h3, h4⟩ := ixN_seq e
    exact ⟨j, h1, h, h2, h3, h4⟩
theorem atI_nat {α : Type} {xs : List α} {j : Nat} {v : α} (h : xs[j]? = some v) : atI xs (j : Int) = some v := by
  have hj : j < xs.length := (List.getElem?_eq_some_iff.mp h).1
  have e : ixN xs.length (j : Int) = some j := by
    unfold ixN
    rw [if_pos (by (first | lia | omega)), if_pos (by (first | lia | omega))]; simp
  unfold atI; rw [e]; exact h
/-- what stands as an index of a plain subscript -/
def PlainIx (b : Expr) : Prop := ∀ o i, subscripted b false o i = operate [o, i] (getItem o i)
/-- a subscript by values -/
def IxR (X : Cx) (r : R2) : Prop :=
  ∀ (value slice : Expr) (pins : List (Addr × Obj)) (s : Shared) (σ : St) (H : Hp) (x y : V) (v u : Value) (Q : VK), Inv X pins σ H s → RelV x v → RelV y u → r x y H Q →
    subscripted slice false v u = operate [v, u] (getItem v u) → wpAny (model X.prog X.w) X.A (subscriptTail value slice v u) (EP X pins σ Q) X.xe s
/-- a call of a builtin's method by values: the receiver, the arguments -/
def MtR (X : Cx) (id : String) (r : V → List V → Hp → VK → Prop) : Prop :=
  ∀ (pins : List (Addr × Obj)) (s : Shared) (σ : St) (H : Hp) (x : V) (xs : List V) (v : Value) (us : List Value) (Q : VK), Inv X pins σ H s → RelV x v → Vals xs us → r x xs H Q →
    wpAny (model X.prog X.w) X.A (call (.builtin id) (v :: us)) (EP X pins σ Q) X.xe s
section
variable {X : Cx} {a b : Expr} {ta tb : TE} {pos : Pos}
/-- a[b] -/
theorem pe_ix {r : R2} (hr : IxR X r) (ha : PE X a ta) (hb : PE X b tb) (hs : PlainIx b) : PE X (.Subscript a b pos) (tOp r ta tb) := by
  intro pins s σ H Q I h
  exact Subscript_ (binT ha hb I h fun v u s2 x y H2 I2 rx ry q => hr a b pins s2 σ H2 x y v u Q I2 rx ry q (hs _ _))
inductive rIxL (K : PySem.W.Frag) : V → V → Hp → VK → Prop
  | mk {x : V} {y : V} {H : Hp} {Q : VK} (p xs i v) (z_0 : x = .ref p) (z_1 : y = .int i) (z_2 : SqL K H p xs) (z_3 : atI xs i = some v) (z_4 : Q v H) : rIxL K x y H Q
inductive rIxS : V → V → Hp → VK → Prop
  | mk {x : V} {y : V} {H : Hp} {Q : VK} (z i c) (z_0 : x = .str z) (z_1 : y = .int i) (z_2 : z.length ≤ sizeLine) (z_3 : atI z.cps.toList i = some c) (z_4 : Q (.str ⟨#[c]⟩) H) : rIxS  x y H Q
theorem ix_list : IxR X (rIxL X.K) := by
  intro value slice pins s σ H x y v u Q I rx ry h hs
  obtain ⟨p, xs, i, z, rfl, rfl, hq, he, q⟩ := h
  cases rx
  obtain ⟨t, rfl⟩ := ry
  obtain ⟨its, r, pl, hz⟩ := I.list hq
  obtain ⟨j, h1, h2, h3, h4, h5⟩ := atI_get he
  obtain ⟨w, ew, rw'⟩ := r.get h2
  have hl := r.length
  have hn := line63
  have fin : EP X pins σ Q w s := ⟨z, H, I, rw', q⟩
  by_cases h0 : 0 ≤ i
  · have hj : i.toNat = j := by
      rw [seqIndex_of h0 h5] at h1
      exact Option.some.inj h1
    exact item_listR pl.isList h0 (by (first | lia | omega)) (by rw [hj]; simpa using ew) fin hs
  · have hj : (i + (its.toArray.size : Int)).toNat = j := by
      rw [seqIndex_neg (by (first | lia | omega)) h4] at h1
      rw [List.size_toArray, ← hl]
      exact Option.some.inj h1
    exact subscriptTail_builtinR (x := w) pl.isList.typeIs slot_list_getitem.lookup
      (wpAny_getItem_list_neg (Q := fun r s' => r = w ∧ EP X pins σ Q r s') pl.isList (by (first | lia | omega)) (by rw [List.size_toArray] <;> (first | lia | omega)) (by (first | lia | omega)) (by rw [hj]; simpa using ew) ⟨rfl, fin⟩) hs
theorem ix_str : IxR X rIxS := by
  intro value slice pins s σ H x y v u Q I rx ry h hs
  obtain ⟨z, i, c, rfl, rfl, hz, he, q⟩ := h
  obtain ⟨t, rfl⟩ := rx
  obtain ⟨t', rfl⟩ := ry
  obtain ⟨j, h1, h2, h3, h4, h5⟩ := atI_get he
  have hl : z.cps.toList.length = z.length := by simp [Str.length]
  rw [hl] at h1 h4 h5
  have hn := line63
  exact tail_any (typeIs_str s z t) slot_str_getitem.lookup (getItem_str (c := c) (by
    have e1 : decide (i < -(2 ^ 63 : Int)) = false := decide_eq_false (by (first | lia | omega))
    have e2 : decide (i ≥ 2 ^ 63) = false := decide_eq_false (by (first | lia | omega))
    rw [e1, e2, Bool.or_false]) (by rw [h1]; simpa using h2) ⟨.str ⟨#[c]⟩, H, I.tok _, ⟨_, rfl⟩, q⟩) hs
theorem slice_bounds (lo hi : Option Int) (n : Nat) : (sliceBounds lo hi none n).1 = ((HT.sIx n 0 lo : Nat) : Int) ∧ (sliceBounds lo hi none n).2.1 = ((HT.sIx n n hi : Nat) : Int) ∧ (sliceBounds lo hi none n).2.2 = 1 := by
  refine ⟨?_, ?_, rfl⟩
  · cases lo with
    | none => simp [sliceBounds, HT.sIx]
    | some i =>
      simp only [sliceBounds, HT.sIx, Option.getD_none, show (1 : Int) > 0 by decide, if_true]
      by_cases h : i < 0
      · simp only [h, if_true] <;> (first | lia | omega)
      · simp only [h, if_false] <;> (first | lia | omega)
  · cases hi with
    | none => simp [sliceBounds, HT.sIx]
    | some i =>
      simp only [sliceBounds, HT.sIx, Option.getD_none, show (1 : Int) > 0 by decide, if_true]
      by_cases h : i < 0
      · simp only [h, if_true] <;> (first | lia | omega)
      · simp only [h, if_false] <;> (first | lia | omega)
theorem slicePick_cut (its : List Value) (lo hi : Option Int) : slicePick its.toArray lo hi none = ((its.drop (HT.sIx its.length 0 lo)).take (HT.sIx its.length its.length hi - HT.sIx its.length 0 lo)).toArray := by
  obtain ⟨h1, h2, h3⟩ := slice_bounds lo hi its.toArray.size
  unfold slicePick
  rw [h1, h2, h3]
  simp only [sliceRange_one, pick_run, List.size_toArray] <;> rfl
/-- xs[lo:hi] of a list: a new list -/
inductive rSlL (K : PySem.W.Frag) : V → Option Int → Option Int → Hp → VK → Prop
  | mk {x : V} {lo : Option Int} {hi : Option Int} {H : Hp} {Q : VK} (a xs) (z_0 : x = .ref a) (z_1 : SqL K H a xs) (z_2 : ∀ p, H p = none → Q (.ref p) (upd H p (.lst (cutV xs lo hi)))) : rSlL K x lo hi H Q
theorem sl_list : SlR X (rSlL X.K) := by
  intro pins s σ H x v vl vu lo hi sl Q I rx hs pl pu h
  obtain ⟨a, xs, rfl, hx, q⟩ := h
  cases rx
  obtain ⟨its, r, ht, hz⟩ := I.list hx
  have hlen := r.length
  refine ⟨"list", _, slot_list_getitem.lookup, ht.isList.typeIs, ?_⟩
  refine wpAny_getItem_list_slice ht.isList hs pl pu .none (by simp) ?_ (by rw [List.size_toArray] <;> (first | lia | omega))
  rw [slicePick_cut, ← hlen]
  refine ⟨.ref s.heap.objs.size, _, I.laid (t' := s.toks) (o := .lst (cutV xs lo hi)) (fun b ob q => Heap.get?_push_of_some _ q) (Nat.le_refl _) ?_, rfl, q _ (I.hok.fresh (Nat.le_refl _))⟩
  exact ⟨Nat.le_trans (cutV_length xs lo hi) hz, _, 0, (r.drop (HT.sIx xs.length 0 lo)).take (HT.sIx xs.length xs.length hi - HT.sIx xs.length 0 lo), Heap.get?_push_size _ rfl⟩
theorem call_len_seq : CallR X (.builtin "len") (fun xs H Q => ∃ p ys, xs = [.ref p] ∧ (SqL X.K H p ys ∨ SqT X.K H p ys) ∧ Q (.int ys.length) H) := by
  intro pins s σ H xs us Q I r h
  obtain ⟨p, ys, rfl, hq, q⟩ := h
  obtain ⟨u, rfl, rx⟩ := vals1 r
  cases rx
  have hn := line63
  rcases hq with hq | hq
  · obtain ⟨its, r', pl, hz⟩ := I.list hq
    have hlen := r'.length
    exact Calls.call_len_list pl.isList (by simp only [List.size_toArray] <;> (first | lia | omega)) ⟨.int ys.length, H, I.tok _, ⟨s.toks + 1, by rw [List.size_toArray, hlen]⟩, q⟩
  · obtain ⟨its, r', pl, hz⟩ := I.tuple hq
    have hlen := r'.length
    exact len_tuple pl (by simp only [List.size_toArray] <;> (first | lia | omega)) ⟨.int ys.length, H, I.tok _, ⟨s.toks + 1, by rw [List.size_toArray, hlen]⟩, q⟩
theorem call_list_of : CallR X (.type "list") (fun xs H Q => ∃ p ys, xs = [.ref p] ∧ (SqL X.K H p ys ∨ SqT X.K H p ys) ∧ ∀ l, H l = none → Q (.ref l) (upd H l (.lst ys))) := by
  intro pins s σ H xs us Q I r h
  obtain ⟨p, ys, rfl, hq, q⟩ := h
  obtain ⟨u, rfl, rx⟩ := vals1 r
  cases rx
  have fin : ∀ (its : List Value), Vals ys its → ys.length ≤ sizeLine → ∀ (h' : Heap) (c' : Nat), (∀ b o', s.heap.get? b = some o' → h'.get? b = some o') →
      h'.get? s.heap.objs.size = some { cls := .type "list", dict := none, data := .seq its.toArray c', slots := #[] } → EP X pins σ Q (.ref s.heap.objs.size) { s with heap := h' } := fun its r' hz h' c' kp e =>
    ⟨.ref s.heap.objs.size, _, I.laid (t' := s.toks) kp (Nat.le_refl _) (show ObjOk X.prog X.w _ h' _ (.lst ys) from ⟨hz, its, c', r', e⟩), rfl, q _ (I.hok.fresh (Nat.le_refl _))⟩
  rcases hq with hq | hq
  · obtain ⟨its, r', pl, hz⟩ := I.list hq
    have hlen := r'.length
    obtain ⟨o, ho, hc, n, hd⟩ := pl.isList
    exact call_list_seq p (.inl rfl) ho hc hd (fun h' c' kp e => fin its r' hz h' c' kp e) (by simp only [List.size_toArray] <;> (first | lia | omega))
  · obtain ⟨its, r', pl, hz⟩ := I.tuple hq
    have hlen := r'.length
    obtain ⟨o, ho, hc, n, hd⟩ := pl
    exact call_list_seq p (.inr rfl) ho hc hd (fun h' c' kp e => fin its r' hz h' c' kp e) (by simp only [List.size_toArray] <;> (first | lia | omega))
/-- the value is of that builtin type -/
def tyV (K : PySem.W.Frag) (T : String) (x : V) (H : Hp) : Prop := match x with
  | .str _ => T = "str"
  | .int _ => T = "int"
  | .ref p => (T = "list" ∧ ∃ xs, SqL K H p xs) ∨ (T = "tuple" ∧ ∃ o, K.lookup p = some o ∧ o.cls = .type "tuple" ∧ o.dict = none) ∨
      (T = "dict" ∧ ((∃ kvs, H p = some (.dK kvs)) ∨ ∃ kvs, H p = some (.dT kvs))) ∨ (T = "set" ∧ ∃ S n, H p = some (.set S n))
  | _ => False
theorem tyV_is {pins : List (Addr × Obj)} {σ : St} {H : Hp} {s : Shared} {T : String} {x : V} {v : Value} (I : Inv X pins σ H s) (r : RelV x v) (ty : tyV X.K T x H) :
    s.TypeIs v T ∧ ∀ a, v = .ref a → ∃ ob, s.heap.get? a = some ob ∧ ob.dict = none := by
  cases x with
  | str z =>
    obtain ⟨t, rfl⟩ := r
    cases (show T = "str" from ty)
    exact ⟨typeIs_str s z t, fun _ e => nomatch e⟩
  | int i =>
    obtain ⟨t, rfl⟩ := r
    cases (show T = "int" from ty)
    exact ⟨typeIs_int s i t, fun _ e => nomatch e⟩
  | ref p =>
    cases r
    rcases ty with ⟨rfl, xs, hq⟩ | ⟨rfl, o, hk, hc, hd⟩ | ⟨rfl, hk⟩ | ⟨rfl, S, n, hk⟩
    · obtain ⟨its, _, pl, _⟩ := I.list hq
      refine ⟨pl.isList.typeIs, fun a e => ?_⟩
      cases e
      obtain ⟨o, n, e, c, hd, _⟩ := pl
      exact ⟨o, e, hd⟩
    · refine ⟨⟨o, I.kIn p o hk, hc⟩, fun a e => ?_⟩
      cases e
      exact ⟨o, I.kIn _ o hk, hd⟩
    · have z : ∃ o, s.heap.get? p = some o ∧ o.ExactDict := by
        rcases hk with ⟨kvs, hk⟩ | ⟨kvs, hk⟩
        · obtain ⟨_, _, _, _, o, _, _, e, ex, _⟩ := I.hok p _ hk
          exact ⟨o, e, ex⟩
        · obtain ⟨_, _, _, _, o, _, _, e, ex, _⟩ := I.hok p _ hk
          exact ⟨o, e, ex⟩
      obtain ⟨o, e, ex⟩ := z
      refine ⟨⟨o, e, ex.1⟩, fun a e2 => ?_⟩
      cases e2
      exact ⟨o, e, ex.2.1⟩
    · obtain ⟨o, _, _, _, e, ex, _⟩ := I.hok p _ hk
      refine ⟨⟨o, e, ex.1⟩, fun a e2 => ?_⟩
      cases e2
      exact ⟨o, e, ex.2.1⟩
  | _ => exact False.elim ty
def tBM0 (K : PySem.W.Frag) (T : String) (r : V → List V → Hp → VK → Prop) (to : TE) : TE := fun σ H Q => to σ H fun x H1 => tyV K T x H1 ∧ r x [] H1 Q
def tBM (K : PySem.W.Frag) (T : String) (r : V → List V → Hp → VK → Prop) (to : TE) (t : TA) : TE := fun σ H Q => to σ H fun x H1 => tyV K T x H1 ∧ t σ H1 fun xs H2 => r x xs H2 Q
variable {o e : Expr} {es : List Expr} {to : TE} {t : TA} {name : Str} {apos cpos : Pos} {T id : String} {r : V → List V → Hp → VK → Prop}
theorem pe_bm0 (pa : PlainAttrs T) (slot : Slot T name id) (hty : typeOf (.builtin id) = pure (.type "method_descriptor")) (hm : MtR X id r) (ho : PE X o to)
    (hbase : attributeBase o name X.env (eval o X.env) = eval o X.env := by rfl) (hline : (apos.endLine == cpos.line) = true := by rfl) : PE X (.Call (.Attribute o name apos) [] [] cpos) (tBM0 X.K T r to) := by
  intro pins s σ H Q I h
  refine wpAny_Call_method0_late hbase hline (thn (ho pins s σ H _ I h) fun v s1 ⟨x, H1, I1, r1, ty, q1⟩ => ?_)
  obtain ⟨h1, h2⟩ := tyV_is I1 r1 ty
  exact ⟨T, id, pa, slot, hty, h1, h2, Calls.callWith_builtin rfl (PySem.evalArgs_none (hm pins s1 σ H1 x [] v [] Q I1 r1 .nil q1))⟩
theorem pe_bm (pa : PlainAttrs T) (slot : Slot T name id) (hty : typeOf (.builtin id) = pure (.type "method_descriptor")) (hm : MtR X id r) (ho : PE X o to) (ha : PA X (e :: es) t)
    (hbase : attributeBase o name X.env (eval o X.env) = eval o X.env := by rfl)
    (hfew : ((backTo cpos (starEach (e :: es) X.env)).all (fun x => !x.1) && (backToKw cpos (keywordEach [] X.env)).all (fun x => x.1.isSome)
      && decide ((e :: es).length + ([] : List Keyword).length + (if ([] : List Keyword).isEmpty then 0 else 1) < 30)) = true := by rfl)
    (hline : (apos.endLine == cpos.line) = true := by rfl) (hs : starEach (e :: es) X.env = (false, eval e X.env) :: starEach es X.env := by rfl) (hplain : (backTo cpos (starEach es X.env)).any (·.1) = false := by rfl) :
    PE X (.Call (.Attribute o name apos) (e :: es) [] cpos) (tBM X.K T r to t) := by
  intro pins s σ H Q I h
  refine wpAny_Call_method_late hbase hfew hline rfl (thn (ho pins s σ H _ I h) fun v s1 ⟨x, H1, I1, r1, ty, q1⟩ => ?_)
  obtain ⟨h1, h2⟩ := tyV_is I1 r1 ty
  refine ⟨T, id, pa, slot, hty, h1, h2, ?_⟩
  have hA := ha cpos pins s1 σ H1 _ I1 q1
  rw [hs] at hA ⊢
  refine Calls.callWith_builtin (by show (false || (backTo cpos (starEach es X.env)).any (·.1)) = false; rw [hplain] <;> rfl) (Calls.evalArgs_plain ?_)
  exact thn hA fun us s2 ⟨vs, H2, I2, r2, q2⟩ => hm pins s2 σ H2 x vs v us Q I2 r1 r2 q2
/- xs.append(e), list.index on a module's tuple .. are MtR facts of 06m -/
end
end L2
namespace L2
open PySem PySem.Spec PyProof.Rows
def MtM (X : Cx) (id : String) (r : V → List V → Hp → VK → Prop) : Prop :=
  ∀ (pins : List (Addr × Obj)) (s : Shared) (σ : St) (H : Hp) (x : V) (xs : List V) (v : Value) (us : List Value) (Q : VK), Inv X pins σ H s → RelV x v → Vals xs us → r x xs H Q →
    wpAny (model X.prog X.w) X.A (call (.builtin id) (v :: us)) (EP X pins σ Q) X.xe s
theorem Vals.one : ∀ {x : V} {us : List Value}, Vals [x] us → ∃ u, us = [u] ∧ RelV x u
  | _, _, .cons r .nil => ⟨_, rfl, r⟩
theorem Vals.zero : ∀ {us : List Value}, Vals [] us → us = []
  | _, .nil => rfl
theorem Vals.dropLast {xs : List V} {us : List Value} (h : Vals xs us) : Vals xs.dropLast us.dropLast := by
  induction h with
  | nil => exact .nil
  | cons r t ih =>
    cases t with
    | nil => exact .nil
    | cons q t' => exact .cons r ih
theorem erase_last {α : Type} (l : List α) : l.eraseIdx (l.length - 1) = l.dropLast := by
  induction l with
  | nil => rfl
  | cons a r ih =>
    cases r with
    | nil => rfl
    | cons b r =>
      have e : (a :: b :: r).length - 1 = ((b :: r).length - 1) + 1 := by
        have h1 : (a :: b :: r).length = r.length + 2 := rfl
        have h2 : (b :: r).length = r.length + 1 := rfl
        (first | lia | omega)
      rw [e, List.eraseIdx_cons_succ, ih]
      all_goals rfl
section
variable {X : Cx} {pins : List (Addr × Obj)} {σ : St} {H : Hp} {s : Shared} {l b : Addr} {xs ys zs : List V}
theorem Inv.lset {its its' : List Value} {n : Nat} {f : Array Value → Array Value} {t' : Nat} (I : Inv X pins σ H s) (hH : H l = some (.lst xs))
    (e : s.heap.get? l = some { cls := .type "list", data := .seq its.toArray n }) (hf : f its.toArray = its'.toArray) (hv : Vals ys its') (hz : ys.length ≤ sizeLine) :
    Inv X pins σ (upd H l (.lst ys)) { s with heap := s.heap.update l (Obj.mapSeq f), toks := t' } := by
  have q := PySem.IsL.update e f
  rw [hf] at q
  refine I.write (x := l) (e := l) (by rw [hH]; exact trivial) (.inl rfl) (fun b' u hb hu => (Heap.get?_update_other s.heap (Obj.mapSeq f) (Ne.symm hb)).trans hu) ⟨_, q⟩ ?_
  exact ⟨hz, its', _, hv, q⟩
theorem Inv.lnew {its : List Value} {t' : Nat} (I : Inv X pins σ H s) (hv : Vals ys its) (hz : ys.length ≤ sizeLine) :
    Inv X pins σ (upd H s.heap.objs.size (.lst ys)) { s with heap := s.heap.push { cls := .type "list", data := .seq its.toArray }, toks := t' } :=
  I.laid (fun _ _ q => Heap.get?_push_of_some _ q) (Nat.le_refl _) ⟨hz, its, 0, hv, Heap.get?_push_size _ rfl⟩
theorem Inv.fresh (I : Inv X pins σ H s) : H s.heap.objs.size = none := I.hok.fresh (Nat.le_refl _)
theorem Inv.lstM (I : Inv X pins σ H s) (hH : H l = some (.lst xs)) : xs.length ≤ sizeLine ∧ ∃ (its : List Value) (n : Nat), Vals xs its ∧ xs.length = its.length ∧ s.heap.get? l = some { cls := .type "list", data := .seq its.toArray n } := by
  obtain ⟨z, its, n, r, e⟩ := I.hok l _ hH
  exact ⟨z, its, n, r, r.length, e⟩
theorem notLongL {n : Nat} (h : n ≤ sizeLine) : Builtin.List.listTooLong n = false := by
  unfold Builtin.List.listTooLong
  exact decide_eq_false (by (first | lia | omega))
end
section
variable {X : Cx}
inductive rAppend : V → List V → Hp → VK → Prop
  | mk {x : V} {vs : List V} {H : Hp} {Q : VK} (l xs y) (z_0 : x = .ref l) (z_1 : vs = [y]) (z_2 : H l = some (.lst xs)) (z_3 : xs.length < sizeLine) (z_4 : Q .non (upd H l (.lst (xs ++ [y])))) : rAppend  x vs H Q
theorem mt_append : MtM X "list.append" rAppend := by
  intro pins s σ H x vs v us Q I rx rv h
  obtain ⟨l, xs, y, rfl, rfl, hH, hz, q⟩ := h
  cases rx
  obtain ⟨u, rfl, ru⟩ := rv.one
  obtain ⟨z, its, n, r, hl, e⟩ := I.lstM hH
  refine call_meets F.slot_list_append ⟨_, e, rfl⟩ F.entry_list_append (F.args_list_append_2 _ _) (PySem.list_append l its.toArray n u (by rw [List.size_toArray]; (first | lia | omega))) ⟨e, ?_⟩
  refine ⟨.non, _, I.lset (its' := its ++ [u]) hH e (by simp) (r.append (.cons ru .nil)) ?_, rfl, q⟩
  rw [List.length_append, List.length_singleton]
  (first | lia | omega)
inductive rExtend : V → List V → Hp → VK → Prop
  | mk {x : V} {vs : List V} {H : Hp} {Q : VK} (l b xs zs) (z_0 : x = .ref l) (z_1 : vs = [.ref b]) (z_2 : H l = some (.lst xs)) (z_3 : H b = some (.lst zs)) (z_4 : xs.length + zs.length ≤ sizeLine) (z_5 : Q .non (upd H l (.lst (xs ++ zs)))) : rExtend  x vs H Q
theorem mt_extend : MtM X "list.extend" rExtend := by
  intro pins s σ H x vs v us Q I rx rv h
  obtain ⟨l, b, xs, zs, rfl, rfl, hH, hB, hz, q⟩ := h
  cases rx
  obtain ⟨u, rfl, ru⟩ := rv.one
  cases ru
  obtain ⟨z, its, n, r, hl, e⟩ := I.lstM hH
  obtain ⟨z2, its2, n2, r2, hl2, e2⟩ := I.lstM hB
  have hsz : its.toArray.size + its2.toArray.size ≤ sizeLine := by rw [List.size_toArray, List.size_toArray]; (first | lia | omega)
  have hlong : ¬ (!its.toArray.isEmpty && Builtin.List.listTooLong (its.toArray.size + its2.toArray.size)) = true := by
    rw [notLongL hsz, Bool.and_false]
    exact Bool.false_ne_true
  refine call_meets F.slot_list_extend ⟨_, e, rfl⟩ F.entry_list_extend (F.args_list_extend_2 _ _)
    (AutoSeq1.list_extend_list_list_0 l its.toArray n b its2.toArray n2 hlong (by rw [List.size_toArray]; (first | lia | omega)) (by (first | lia | omega))) ⟨e, e2, ?_⟩
  refine ⟨.non, _, I.lset (its' := its ++ its2) hH e (by simp) (r.append r2) ?_, rfl, q⟩
  rw [List.length_append]
  (first | lia | omega)
inductive rPop : V → List V → Hp → VK → Prop
  | mk {x : V} {vs : List V} {H : Hp} {Q : VK} (l xs y) (z_0 : x = .ref l) (z_1 : vs = []) (z_2 : H l = some (.lst xs)) (z_3 : xs[xs.length - 1]? = some y) (z_4 : Q y (upd H l (.lst xs.dropLast))) : rPop  x vs H Q
theorem mt_pop : MtM X "list.pop" rPop := by
  intro pins s σ H x vs v us Q I rx rv h
  obtain ⟨l, xs, y, rfl, rfl, hH, hy, q⟩ := h
  cases rx
  have hus := rv.zero
  subst hus
  obtain ⟨z, its, n, r, hl, e⟩ := I.lstM hH
  obtain ⟨u, hu, ru⟩ := r.get hy
  have hy' : its.toArray[its.toArray.size - 1]? = some u := by
    show its.toArray[its.length - 1]? = some u
    rw [← Array.getElem?_toList, ← hl]
    exact hu
  refine call_meets F.slot_list_pop ⟨_, e, rfl⟩ F.entry_list_pop (F.args_list_pop_1 _) (MeetsSeq.list_pop_last l its.toArray n u hy' (by rw [List.size_toArray]; (first | lia | omega))) ⟨e, ?_⟩
  refine ⟨y, _, I.lset (its' := its.dropLast) hH e ?_ r.dropLast ?_, ru, q⟩
  · show its.toArray.eraseIdxIfInBounds (its.toArray.size - 1) = its.dropLast.toArray
    rw [List.size_toArray, List.eraseIdxIfInBounds_toArray, erase_last]
  · rw [List.length_dropLast]
    (first | lia | omega)
inductive rCat : V → V → Hp → VK → Prop
  | mk {x : V} {y : V} {H : Hp} {Q : VK} (l b xs zs) (z_0 : x = .ref l) (z_1 : y = .ref b) (z_2 : H l = some (.lst xs)) (z_3 : H b = some (.lst zs)) (z_4 : xs.length + zs.length ≤ sizeLine) (z_5 : ∀ p, H p = none → Q (.ref p) (upd H p (.lst (xs ++ zs)))) : rCat  x y H Q
theorem op_cat : OpR X (binaryOp .Add) rCat := by
  intro pins s σ H x y v u Q I rx ry h
  obtain ⟨l, b, xs, zs, rfl, rfl, hH, hB, hz, q⟩ := h
  cases rx
  cases ry
  obtain ⟨z, its, n, r, hl, e⟩ := I.lstM hH
  obtain ⟨z2, its2, n2, r2, hl2, e2⟩ := I.lstM hB
  refine PySem.P.add_list e e2 ?_ (by rw [List.size_toArray, List.size_toArray]; (first | lia | omega))
  have ea : its.toArray ++ its2.toArray = (its ++ its2).toArray := by simp
  rw [ea]
  exact ⟨.ref _, _, I.lnew (t' := s.toks) (r.append r2) (by rw [List.length_append]; (first | lia | omega)), rfl, q _ I.fresh⟩
end
section
variable {prog : Program} {w : World} {A : Around} {E : Value → Shared → Prop} {s : Shared}
end
section
variable {X : Cx}
end
end L2
namespace Att
open PySem PySem.W PySem.Calls PyProof.Rows
theorem ints_of_wellAll {P : Params} {h : Heap} : ∀ (ns : List Int) (vs : List Value), WellAll P h vs (ns.map WData.int) → IntsAre vs ns := by
  intro ns
  induction ns with
  | nil =>
    intro vs w
    rw [List.map_nil] at w
    cases w
    exact .nil
  | cons n ns ih =>
    intro vs w
    rw [List.map_cons] at w
    cases w with
    | cons a b =>
      cases a
      exact .cons _ _ (ih _ b)
theorem script_of {l : OpenLaw} {n : Nat} (hn : l.most = some n) {P : Params} {h : Heap} {args : List WData} {vals : List Value}
    (hpre : l.row.toRowW.claim.pre args = true) (hwl : WellAll P h vals args) :
    ∃ a vs ns, vals = [Value.ref a] ∧ args = [WData.list (ns.map WData.int)] ∧ h.get? a = some { cls := .type "list", data := .seq vs.toArray } ∧ IntsAre vs ns ∧ ns.length ≤ n := by
  have hsh : WShape.hasAll [] args [.list .int] = true := (pre_splitW hpre).1
  have hc : l.pre.holds [] { args := args } = true := (pre_splitW hpre).2
  obtain ⟨d, r, rfl, h1, h2⟩ := hasAllW_cons hsh
  obtain rfl := hasAllW_nil h2
  obtain ⟨xs, rfl, h3⟩ := hasW_list h1
  obtain ⟨ns, rfl⟩ := items_int h3
  have hlen : ns.length ≤ n := by
    unfold OpenLaw.pre at hc
    have h4 : (WTm.not (.lt (.lit (.int (n : Int))) (.len (.arg 0)))).holds [] { args := [.list (ns.map .int)] } = true := by
      have h4 := (holds_andW hc).1
      rw [hn] at h4
      exact h4
    have h5 := condW_of h4 (w_not (w_lt w_lit (w_len_list (w_arg rfl))))
    rw [List.length_map] at h5
    refine Nat.le_of_not_lt fun q => ?_
    have q' : (n : Int) < ((ns.length : Nat) : Int) := by (first | lia | omega)
    first
      | (rw [decide_eq_true q'] at h5; exact absurd h5 (by decide))
      | (simp at h5; (first | lia | omega))
  cases hwl with
  | cons w1 w2 =>
    cases w2
    cases w1 with
    | list ho hall => exact ⟨_, _, ns, rfl, rfl, ho, ints_of_wellAll ns _ hall, hlen⟩
theorem post_true (l : OpenLaw) (args : List WData) : l.row.toRowW.claim.post args (.bool true) args = true :=
  postW_of (r := l.row.toRowW) (X := (true == true))
    (show WShape.has [] (.bool true) .bool = true by first | rfl | decide | simp [WShape.has, WShape.arms, WShape.armsAll])
    (show (WTm.eq .res (.lit (.bool true))).value [] { args := args, res := some (.bool true), after := args } = some (.bool (true == true)) from w_eq_bool (w_res rfl) w_lit) rfl
/-- the same from a codeAny of the CALL (for a layer whose function contracts speak of calls) -/
theorem attach_call {l : OpenLaw} {n : Nat} {q : Program} {loose : List Str} {XP : (Str → Option Value) → Heap → Prop} {YP : World → Heap → Prop} {d : DefRec}
    (hn : l.most = some n) (hdf : d.params.defaults = [])
    (call : ∀ (w : World) (s₀ s₁ : Shared) (mg mb : Str → Option Value) (fa : Addr) (o : Obj) (pm cd doc : Value) (a : Addr) (vs : List Value) (ns : List Int),
      Ground q loose [] XP w s₀ mg mb s₁.heap → YP w s₁.heap →
      s₁.heap.get? fa = some o → o.data = .func (docDef d.name d.params d.body d.scope pm cd doc) → s₁.heap.CodeRec cd d.name → mg d.name = some (.ref fa) →
      s₁.heap.get? a = some { cls := .type "list", data := .seq vs.toArray } → IntsAre vs ns → ns.length ≤ n → s₁.gens = #[] →
      codeAny (model l.prog w) callerA (.call (.ref fa) ⟨[.ref a], []⟩) (fun r s' => r = .ok (.ret (.bool true)) ∧ OldK s₁.heap s'.heap ∧ s'.os = s₁.os ∧ AllBare s'.gens) s₁) :
    WalkO q loose XP YP l.row.toRowW d [] (fun f vs => PySem.call f vs) := by
  intro w s₀ s₁ mg mb G Y fa o pm cd doc dV kV ho hd hcd hD hmg hg args vals as hpre hlay hrd hwl hlo
  obtain rfl : dV = .none := Dflts.none hD hdf
  obtain rfl : kV = .none := Dflts.noKw hD
  obtain ⟨a, vs, ns, rfl, rfl, hobj, hints, hlen⟩ := script_of hn hpre hwl
  refine enter_call (codeAny_mono (call w s₀ s₁ mg mb fa o pm cd doc a vs ns G Y ho (fd_plain hd) hcd hmg hobj hints hlen hg) fun r s' hq => ?_)
  obtain ⟨rfl, h2, h3, h4⟩ := hq
  exact ⟨.inl ⟨.bool true, .bool true, [], rfl, fun _ => rfl, .bool true, post_true l _, fun _ => ⟨List.Pairwise.nil, fun _ hm => (nomatch hm)⟩⟩, h2, h3, h4⟩
section
variable {prog : Program} {w : World} {A : Around} {E : Value → Shared → Prop} {s : Shared} {K : Frag}
end
end Att
namespace L2
open PySem PySem.Spec PyProof.Rows
theorem vals_ints : ∀ {vs : List Value} {ns : List Int}, IntsAre vs ns → Vals (ns.map V.int) vs
  | _, _, .nil => .nil
  | _, _, .cons n t h => .cons ⟨t, rfl⟩ (vals_ints h)
/-- nothing is tracked but the script, known to the object (or it is an object of the module) -/
def Only (H : Hp) : Prop := ∀ b, H b = none ∨ ∃ o xs, H b = some (.frz o (.lst xs))
/-- THE HEAD: the law's promise, at the heap behind the top. F, the promise of the law's def, may use that base is part of the heap (so K.In base, base.Ns mainGlobals mg stand in Mod) -/
theorem law_call {P : Program} {w : World} {K : PySem.W.Frag} {mg mb : Str → Option Value} {CX : CXT} {k : Nat} {fa a : Addr} {fd : FuncData} {x : Str} {sp : Sp} {s₁ : Shared} {vs : List Value} {ns : List Int}
    (KX : K.In s₁.heap) (hns : s₁.heap.Ns mainGlobals mg) (hb : s₁.heap.Ns builtinsNs mb) (hbb : ∀ x : Str, x ≠ "__name__" → mb x = bootBuiltins x) (hlim : s₁.heap.NoLimit) (hg : s₁.gens = #[])
    (ha : s₁.heap.get? a = some { cls := .type "list", data := .seq vs.toArray }) (hi : IntsAre vs ns) (hl : ns.length ≤ sizeLine) (hr : Room k callerA)
    (F : ∀ base : Heap, K.In base → base.Ns mainGlobals mg → FnOk P w K mg base CX k fa fd [x] sp) (hbind : ∀ (s : Shared) (u : Value), BindsTo s fd ⟨[u], []⟩ [(x, u)])
    (hsp : ∀ H : Hp, Only H → SqL K H a (ns.map V.int) → sp [.ref a] H (fun v _ => v = .bl true) fun _ _ _ => False)
    (hCX : ∀ H e s', CX [] H s₁ (fun _ _ _ => False) e s' → False) :
    codeAny (model P w) callerA (.call (.ref fa) ⟨[.ref a], []⟩) (fun r s' => r = .ok (.ret (.bool true)) ∧ OldK s₁.heap s'.heap ∧ s'.os = s₁.os ∧ AllBare s'.gens) s₁ := by
  have rv := vals_ints hi
  have lenV := hi.length
  -- from an abstract heap in which nothing but the script may be tracked
  have core : ∀ H : Hp, Only H → SqL K H a (ns.map V.int) → HOk P w H s₁.heap → (∀ b, H b ≠ none → b = a) → (H a ≠ none → K.lookup a = none) →
      codeAny (model P w) callerA (.call (.ref fa) ⟨[.ref a], []⟩) (fun r s' => r = .ok (.ret (.bool true)) ∧ OldK s₁.heap s'.heap ∧ s'.os = s₁.os ∧ AllBare s'.gens) s₁ := by
    intro H hO hS hok hA hK
    have base_of : ∀ {b : Addr} {o : Obj}, s₁.heap.get? b = some o → H b = none → (hidT s₁.heap H).get? b = some o := fun e n => hidT_get e n
    have noA : ∀ {b : Addr} {o : Obj} {es : Array DictEntry} {ep : Nat}, s₁.heap.get? b = some o → o.data = .dict es ep → H b = none := fun {b o es ep} e d => by
      cases q : H b with
      | none => rfl
      | some u =>
        have e' : b = a := hA b (by rw [q]; simp)
        subst e'
        rw [ha] at e; cases e
        have d' : Data.seq vs.toArray _ = Data.dict es ep := d
        cases d'
    have nsK : ∀ {b : Addr} {m : Str → Option Value}, s₁.heap.Ns b m → (hidT s₁.heap H).Ns b m := fun {b m} ⟨o, es, ep, e, d, r⟩ => ⟨o, es, ep, base_of e (noA e d), d, r⟩
    have hKb : K.In (hidT s₁.heap H) := fun b o e => base_of (KX b o e) (by
      cases q : H b with
      | none => rfl
      | some u =>
        have e' : b = a := hA b (by rw [q]; simp)
        subst e'
        rw [hK (by rw [q]; simp)] at e; cases e)
    have hM : Mod K mg (hidT s₁.heap H) := ⟨hKb, nsK hns, ⟨mb, nsK hb, hbb⟩, let ⟨mc, h1, h2⟩ := hlim; ⟨mc, nsK h1, h2⟩⟩
    have e0 : Env0 P w K mg (hidT s₁.heap H) callerA [] s₁ H := ⟨rfl, hM, fun b o e => of_hidT e, Nat.le_of_eq (hidT_size _ _), trivial, fun b hb => absurd (show b ∈ ([] : List Addr) from hb) (by simp), hok, .of_eq hg⟩
    refine codeAny_mono ((F _ hKb (nsK hns)).run callerA [] s₁ H ⟨[.ref a], []⟩ [.ref a] [.ref a] _ _ hr e0 (hbind s₁ (.ref a)) (.cons rfl .nil) (hsp H hO hS)) fun r s' h => ?_
    cases r with
    | error e => exact (hCX H e s' h).elim
    | ok fl =>
      cases fl with
      | next => exact False.elim h
      | brk => exact False.elim h
      | cont => exact False.elim h
      | ret u =>
        obtain ⟨v, H', os, bare, un, hok', r', q⟩ := h
        have q' : v = .bl true := q
        subst q'
        obtain rfl : u = Value.bool true := r'
        refine ⟨rfl, OldK.of_keep fun b o e => ?_, os, bare⟩
        cases q : H b with
        | none => exact un.keep b o e q (by intro z; exact absurd (show b ∈ ([] : List Addr) from z) (by simp)) (by simp)
        | some u =>
          rcases hO b with z | ⟨ob, xs, z⟩
          · rw [q] at z; cases z
          · have z2 := un.frzs b ob _ z
            obtain ⟨e1, _⟩ := hok b _ z
            obtain ⟨e2, _⟩ := hok' b _ z2
            rw [e] at e1; cases e1
            exact e2
  cases hk : K.lookup a with
  | some o =>
    -- the script is one of the module's own objects
    have e := KX a o hk
    rw [ha] at e
    cases e
    refine core (fun _ => none) (fun _ => .inl rfl) (.inr ⟨_, vs.toArray, _, hk, rfl, rfl, rfl, by rw [List.size_toArray, lenV]; exact hl, by simpa using rv⟩) (fun b u z => by have z' : (none : Option HO) = some u := z; cases z') (fun b z => absurd rfl z) fun z => absurd rfl z
  | none =>
    refine core (fun b => if b = a then some (.frz { cls := .type "list", data := .seq vs.toArray } (.lst (ns.map V.int))) else none) (fun b => ?_) (.inl (.inr ⟨{ cls := .type "list", data := .seq vs.toArray }, if_pos rfl⟩)) (fun b u z => ?_) (fun b z => ?_) fun _ => hk
    · by_cases hb : b = a
      · exact .inr ⟨_, _, if_pos hb⟩
      · exact .inl (if_neg hb)
    · by_cases hb : b = a
      · have z' := (if_pos hb).symm.trans z
        cases z'
        subst hb
        exact ⟨ha, by rw [List.length_map]; exact hl, vs, _, rv, ha⟩
      · have z' := (if_neg hb).symm.trans z
        cases z'
    · by_cases hb : b = a
      · exact hb
      · exact absurd (if_neg hb) z
end L2
namespace L2
open PySem PySem.Spec PyProof.Rows
abbrev KOf {K : PySem.W.Frag} {h : Heap} (_ : K.In h) : PySem.W.Frag := K
/-- the goal that k_head leaves (case hc), from the law's promise. F gives the function object fd (K's own) once, then the promise over every base -/
theorem walk_of {l : PySem.W.OpenLaw} {n k : Nat} {q : Program} {loose : List Str} {XP : (Str → Option Value) → Heap → Prop} {YP : World → Heap → Prop} {d : DefRec} {K : Params → PySem.W.Frag} {CX : World → CXT} {sp : World → Sp} {x : Str}
    (hn : l.most = some n) (hn2 : n ≤ sizeLine) (hdf : d.params.defaults = []) (hr : Room k callerA)
    (hY : ∀ (w : World) (h : Heap), YP w h → (K w.params).In h)
    (F : ∀ (w : World) (mg : Str → Option Value) (fa : Addr) (h : Heap), (K w.params).In h → h.Ns mainGlobals mg → mg d.name = some (.ref fa) →
      ∃ fd : FuncData, (∀ (s : Shared) (u : Value), BindsTo s fd ⟨[u], []⟩ [(x, u)]) ∧
        ∀ base : Heap, (K w.params).In base → base.Ns mainGlobals mg → FnOk l.prog w (K w.params) mg base (CX w) k fa fd [x] (sp w))
    (hsp : ∀ (w : World) (H : Hp) (a : Addr) (ns : List Int), ns.length ≤ n → Only H → SqL (K w.params) H a (ns.map V.int) → sp w [.ref a] H (fun v _ => v = .bl true) fun _ _ _ => False)
    (hCX : ∀ (w : World) (H : Hp) (s : Shared) (e : Value) (s' : Shared), CX w [] H s (fun _ _ _ => False) e s' → False) :
    PySem.W.WalkO q loose XP YP l.row.toRowW d [] (fun f vs => PySem.call f vs) := by
  refine Att.attach_call hn hdf fun w s₀ s₁ mg mb fa o pm cd doc a vs ns G Y ho hd hcd hmg hobj hints hlen hg => ?_
  have KX := hY w _ Y
  obtain ⟨fd, hb, hF⟩ := F w mg fa _ KX G.T.g hmg
  exact law_call KX G.T.g G.T.b G.T.builtins G.T.nolimit hg hobj hints (Nat.le_trans hlen hn2) hr hF hb (fun H hO hS => hsp w H a ns hlen hO hS) fun H e s' => hCX w H s₁ e s'
/-- the same where the promise hangs on the written part alone: (sp := My.sp_law), no hole under a binder -/
theorem walk_ofK {l : PySem.W.OpenLaw} {n k : Nat} {q : Program} {loose : List Str} {XP : (Str → Option Value) → Heap → Prop} {YP : World → Heap → Prop} {d : DefRec} {K : Params → PySem.W.Frag} {CX : CXT} {sp : PySem.W.Frag → Sp} {x : Str}
    (hn : l.most = some n) (hn2 : n ≤ sizeLine) (hdf : d.params.defaults = []) (hr : Room k callerA)
    (hY : ∀ (w : World) (h : Heap), YP w h → (K w.params).In h)
    (F : ∀ (w : World) (mg : Str → Option Value) (fa : Addr) (h : Heap), (K w.params).In h → h.Ns mainGlobals mg → mg d.name = some (.ref fa) →
      ∃ fd : FuncData, (∀ (s : Shared) (u : Value), BindsTo s fd ⟨[u], []⟩ [(x, u)]) ∧
        ∀ base : Heap, (K w.params).In base → base.Ns mainGlobals mg → FnOk l.prog w (K w.params) mg base CX k fa fd [x] (sp (K w.params)))
    (hsp : ∀ (K : PySem.W.Frag) (H : Hp) (a : Addr) (ns : List Int), ns.length ≤ n → Only H → SqL K H a (ns.map V.int) → sp K [.ref a] H (fun v _ => v = .bl true) fun _ _ _ => False)
    (hCX : ∀ (H : Hp) (s : Shared) (e : Value) (s' : Shared), CX [] H s (fun _ _ _ => False) e s' → False) :
    PySem.W.WalkO q loose XP YP l.row.toRowW d [] (fun f vs => PySem.call f vs) :=
  walk_of (K := K) (CX := fun _ => CX) (sp := fun w => sp (K w.params)) hn hn2 hdf hr hY F (fun w H a ns h1 h2 h3 => hsp (K w.params) H a ns h1 h2 h3) fun _ H s e s' => hCX H s e s'
end L2
namespace L2
open PySem PySem.Spec PyProof.Rows
def defArgs (s : Stmt) : Arguments := match s with
  | .FunctionDef _ a _ _ _ _ _ _ _ _ => a
  | _ => { posonlyargs := [], args := [], vararg := none, kwonlyargs := [], kw_defaults := [], kwarg := none, defaults := [] }
def defBody (s : Stmt) : List Stmt := match s with
  | .FunctionDef _ _ b _ _ _ _ _ _ _ => b
  | _ => []
def defScope (s : Stmt) : Scope := match s with
  | .FunctionDef _ _ _ _ _ _ sc _ _ _ => sc
  | _ => { kind := .function, names := [], isGenerator := false, isCoroutine := false }
abbrev CX0 : CXT := fun _ _ _ _ _ _ => False
abbrev E0 : XK := fun _ _ _ => False
theorem pass0 {X : Cx} : Passes CX0 X E0 := fun _ _ _ _ _ _ _ h => h.elim
structure Fun (K : PySem.W.Frag) (x qual : Str) (st : Stmt) (f : Addr) (fd : FuncData) : Prop where
  ex : ∃ (oc : Value) (od : Option Addr) (kV doc pm : Value) (an : Option Addr) (cdv ct : Value) (osl : Array (Option Value)),
    fd = PySem.W.fnOf x qual (defArgs st) (defBody st) (defScope st) .none kV doc pm an cdv ct ∧ K.lookup f = some ⟨oc, od, .func fd, osl⟩ ∧ PySem.W.codeIn K cdv qual = true
  kp : PySem.W.keepIn K (.ref f) = true
section
variable {P : Program} {w : World} {K : PySem.W.Frag} {mg : Str → Option Value} {base : Heap}
/-- THE RULE for a def: its body as a term of rules, and the reading of that term -/
theorem Fun.ok {x qual : Str} {st : Stmt} {f : Addr} {fd : FuncData} {N ps : List Str} {k : Nat} {sp : Sp} (F : Fun K x qual st f fd) (S : FnScope N ps (defScope st)) (len : ∀ vs H Q E, sp vs H Q E → vs.length = ps.length)
    (hbody : ∀ (cdv : Value) (A : Around) (outer : List Env) (s : Shared) (H : Hp) (vs : List V) (Q : VK) (E : XK), Room k (A.deeper (envOfC qual (defScope st) s.heap.objs.size f cdv)) → sp vs H Q E →
      ∃ t, PSs (cxOf CX0 P w K mg base N qual (defScope st) f cdv A outer s H E).nox (defBody st) t ∧ t { nx := fun _ H' => Q .non H', rt := Q } (start N vs) H) : FnOk P w K mg base CX0 (k + 1) f fd ps sp := by
  obtain ⟨oc, od, kV, doc, pm, an, cdv, ct, osl, rfl, lk, hcd⟩ := F.ex
  refine fn_of lk hcd S len fun A outer s H vs Q E hr hsp => ?_
  obtain ⟨t, h, q⟩ := hbody cdv A outer s H vs Q E hr hsp
  exact ⟨t, h.nox, q⟩
/-- how its arguments bind (no defaults): h is «fun _ _ _ _ _ _ us hl => match us, hl with | [_, _], _ => rfl», one _ a parameter -/
theorem Fun.binds {x qual : Str} {st : Stmt} {f : Addr} {fd : FuncData} {ps : List Str} (F : Fun K x qual st f fd)
    (h : ∀ (kV doc pm : Value) (an : Option Addr) (cdv ct : Value) (us : List Value), us.length = ps.length → bindArgs (PySem.W.fnOf x qual (defArgs st) (defBody st) (defScope st) .none kV doc pm an cdv ct) ⟨us, []⟩ = pure (ps.zip us)) : Binds K fd ps [] := by
  obtain ⟨oc, od, kV, doc, pm, an, cdv, ct, osl, rfl, lk, hcd⟩ := F.ex
  exact .all (h kV doc pm an cdv ct)
theorem fun_mk {x qual : Str} {st : Stmt} {f : Addr} {oc : Value} {od an : Option Addr} {osl : Array (Option Value)} {kV doc pm cdv ct : Value} (l : K.lookup f = some ⟨oc, od, .func (PySem.W.fnOf x qual (defArgs st) (defBody st) (defScope st) .none kV doc pm an cdv ct), osl⟩)
    (c : PySem.W.codeIn K cdv qual = true) (k : PySem.W.keepIn K (.ref f) = true) : Fun K x qual st f (PySem.W.fnOf x qual (defArgs st) (defBody st) (defScope st) .none kV doc pm an cdv ct) := ⟨⟨oc, od, kV, doc, pm, an, cdv, ct, osl, rfl, l, c⟩, k⟩
end
theorem small1000 {n : Nat} (h : n ≤ 1000) : n < sizeLine := Nat.lt_of_le_of_lt h (by decide)
section
variable {X : Cx}
theorem pv (i : Nat) {x : Str} {pos : Pos} (hN : X.N[i]? = some x := by rfl) (hv : Vis X.env.scope x := by first | exact Or.inl rfl | exact Or.inr (Or.inl rfl) | exact Or.inr (Or.inr rfl)) (hd : (x == ("__debug__" : Str)) = false := by decide)
    (hcd : (x == ("__classdict__" : Str)) = false := by decide) : PE X (.Name x pos) (tVar i) := pe_var hN hv hd hcd
end
theorem iteF {A B : Prop} (h : B) : if false = true then A else B := by
  rw [if_neg Bool.false_ne_true]
  exact h
theorem iteT {A B : Prop} (h : A) : if true = true then A else B := by
  rw [if_pos rfl]
  exact h
theorem ite2 {c A B : Prop} [Decidable c] (h1 : c → A) (h2 : ¬ c → B) : if c then A else B := by
  by_cases h : c
  · rw [if_pos h]
    exact h1 h
  · rw [if_neg h]
    exact h2 h
theorem iteNS {c A B : Prop} [Decidable c] (hc : c) (h : B) : if (!decide c) = true then A else B := by
  rw [decide_eq_true hc]
  exact iteF h
/-- all that was tracked is as it was -/
def Same (H H' : Hp) : Prop := ∀ b o, H b = some o → H' b = some o
theorem Same.refl (H : Hp) : Same H H := fun _ _ h => h
theorem Same.trans {H H1 H2 : Hp} (a : Same H H1) (b : Same H1 H2) : Same H H2 := fun c o h => b c o (a c o h)
theorem Same.free {H H' : Hp} (e : Same H H') {l : Addr} (h : H' l = Option.none) : H l = Option.none := by
  cases q : H l with
  | none => rfl
  | some o =>
    rw [e l o q] at h
    cases h
theorem Same.seq {K : PySem.W.Frag} {H H' : Hp} {a : Addr} {xs : List V} (e : Same H H') (h : SqL K H a xs) : SqL K H' a xs := by
  rcases h with (h | ⟨o, h⟩) | h
  · exact .inl (.inl (e _ _ h))
  · exact .inl (.inr ⟨o, e _ _ h⟩)
  · exact .inr h
end L2
namespace SM
def Cg (p a b : Int) : Prop := ∃ k, a = b + p * k
def signAt (p : Int) (c : List Int) (x : Int) : Int := c.foldr (fun a t => ((t * x) % p + a) % p) 0
def sumC (p : Int) (a b : List Int) : List Int := List.zipWith (fun l r => (l + r) % p) a b
def scal (p : Int) (c : List Int) (f : Int) : List Int := c.map fun a => (a * f) % p
def woN (p : Int) (c : List Int) (x : Int) : List Int := List.zipWith (fun u d => (u - d) % p) (0 :: c) (scal p (c ++ [0]) x)
/-- power's loop: result, square, left -/
def powGo (p : Int) : Nat → Int → Int → Nat → Int
  | 0, r, _, _ => r
  | f + 1, r, q, n => if n = 0 then r else powGo p f (if n % 2 = 1 then (r * q) % p else r) ((q * q) % p) (n / 2)
def pow (p s : Int) (n : Nat) : Int := powGo p (n + 1) 1 s n
def inv (p s : Int) : Int := pow p s (p - 2).toNat
/-- a turn of curve_through -/
def ctTurn (p : Int) (st : List Int × List Int) (xs : Int × Int) : List Int × List Int :=
  let missing := (xs.2 - signAt p st.1 xs.1) % p
  let height := signAt p st.2 xs.1
  let share := (missing * inv p height) % p
  (sumC p (st.1 ++ [0]) (scal p st.2 share), woN p st.2 xs.1)
def ct (p : Int) (places signs : List Int) : List Int := ((places.zip signs).foldl (ctTurn p) ([], [1])).1
/-- what is asked of the prime: the program's inverse is one -/
structure Fld (p : Int) : Prop where
  two : 2 ≤ p
  inv : ∀ a : Int, 0 < a → a < p → Cg p (inv p a * a) 1
end SM
namespace SM
abbrev rng (n : Nat) : List Int := (List.range n).map fun (k : Nat) => (k : Int)
end SM
namespace SM
end SM
namespace SM
/-- the signs of one word of a sheet -/
def col (os : List (Option Int)) (m L j : Nat) : List (Option Int) := (List.range L).map fun i => os.getD (i * m + j) none
end SM
namespace SM
abbrev Kp := List (Nat × List Int)
def fresh (p : Int) (rest : List Int) (l : Nat) : List Int := scal p rest (inv p (rest.getD l 0))
def dt : Nat → (Nat → Int) → (Nat → Int) → Int
  | 0, _, _ => 0
  | n + 1, f, g => dt n f g + f n * g n
end SM
namespace SM
end SM
namespace SM
end SM
namespace SM
end SM
namespace SM
end SM
namespace SM
end SM
namespace L3
open PySem PySem.Spec L2
open PyProof.Rows hiding St
section
variable {X : Cx}
theorem call_isin : CallR X (.builtin "isinstance") (fun xs H Q => ∃ x n t b, xs = [x, .ty n] ∧ TyOf X.K H x t ∧ PySem.W.kitOne X.K t (.type n) = some b ∧ Q (.bl b) H) := by
  intro pins s σ H xs us Q I r h
  obtain ⟨x, n, t, b, rfl, ty, e, q⟩ := h
  obtain ⟨u, c, rfl, rx, rc⟩ := vals2 r
  cases rc
  exact isinst_ok I rx ty e fun tk => ⟨.bl b, H, I.tok _, rfl, q⟩
end
section
variable {X : Cx} {tg : Expr}
end
section
variable {X : Cx} {pins : List (Addr × Obj)} {σ : St} {H : Hp} {s : Shared} {h' : Heap} {ch : List Addr}
theorem fp_step (hf : ∀ b ∈ ch, FpOk X pins H b) : ∀ b ∈ ch, (b ∈ X.ex ∨ X.s₀.heap.objs.size ≤ b) ∧ b ≠ X.env.locals ∧ (∀ x c, X.env.cells.lookup x = some c → c ≠ b) ∧ ∀ p ∈ X.pn ++ pins, p.1 ≠ b := fun b hb =>
  let ⟨_, f1, _, f3, f4, f5⟩ := hf b hb
  ⟨f3, f1, f4, f5⟩
end
section
variable {X : Cx} {es : List Expr} {kt : Nat} {pt : Pos}
end
end L3
namespace L3
open PySem PySem.Spec L2
open PyProof.Rows hiding St
mutual
inductive Dp (K : PySem.W.Frag) (H : Hp) : V → PyData → Prop
  | non : Dp K H .non .none
  | bl (b : Bool) : Dp K H (.bl b) (.bool b)
  | int (i : Int) : Dp K H (.int i) (.int i)
  | lst {a : Addr} {xs : List V} {ds : List PyData} : SqL K H a xs → DpAll K H xs ds → Dp K H (.ref a) (.list ds)
inductive DpAll (K : PySem.W.Frag) (H : Hp) : List V → List PyData → Prop
  | nil : DpAll K H [] []
  | cons {v : V} {vs : List V} {d : PyData} {ds : List PyData} : Dp K H v d → DpAll K H vs ds → DpAll K H (v :: vs) (d :: ds)
end
section
variable {X : Cx} {pins : List (Addr × Obj)} {σ : St} {H : Hp} {s : Shared}
mutual
theorem Dp.reads (I : Inv X pins σ H s) : ∀ {v : V} {d : PyData} {u : Value}, Dp X.K H v d → RelV v u → ∃ as, Reads s.heap u d as
  | _, _, _, .non, r => by cases r; exact ⟨_, .none⟩
  | _, _, _, .bl b, r => by cases r; exact ⟨_, .bool b⟩
  | _, _, _, .int i, r => by obtain ⟨t, rfl⟩ := r; exact ⟨_, .int i t⟩
  | _, _, _, .lst h hs, r => by
    cases r
    obtain ⟨its, rv, ⟨o, n, e, c, d, hd⟩, _⟩ := I.list h
    obtain ⟨as, q⟩ := DpAll.reads I hs rv
    exact ⟨_, .list e c hd (by simpa using q)⟩
theorem DpAll.reads (I : Inv X pins σ H s) : ∀ {vs : List V} {ds : List PyData} {us : List Value}, DpAll X.K H vs ds → Vals vs us → ∃ as, ReadsAll s.heap us ds as
  | _, _, _, .nil, r => by cases r; exact ⟨_, .nil⟩
  | _, _, _, .cons h hs, r => by
    cases r with
    | cons a b =>
      obtain ⟨as, q⟩ := Dp.reads I h a
      obtain ⟨bs, q'⟩ := DpAll.reads I hs b
      exact ⟨_, .cons q q'⟩
end
end
def rNeD (K : PySem.W.Frag) : R2 := fun x y H Q => ∃ d e, Dp K H x d ∧ Dp K H y e ∧ SeqAt.shaped d = true ∧ SeqAt.shaped e = true ∧ Q (.bl (!PyData.eqv d e)) H
section
variable {X : Cx}
theorem op_neD (hu : X.A.units + 64 < cLine) : OpR X (compareOp .NotEq) (rNeD X.K) := by
  intro pins s σ H x y v u Q I rx ry h
  obtain ⟨d, e, h1, h2, s1, s2, q⟩ := h
  obtain ⟨as, r1⟩ := h1.reads I rx
  obtain ⟨bs, r2⟩ := h2.reads I ry
  exact ne_dataH r1 r2 s1 s2 hu ⟨.bl _, H, I, rfl, q⟩
theorem vals_ty : ∀ {cs : List String} {us : List Value}, Vals (cs.map V.ty) us → us = cs.map Value.type
  | [], _, r => by cases r; rfl
  | c :: cs, _, r => by
    cases r with
    | cons a b => cases a; rw [vals_ty b]; rfl
end
end L3
namespace L3
open PySem PySem.Spec L2
open PyProof.Rows hiding St
def Every {α : Type} (P : α → Prop) : List α → Prop
  | [] => True
  | a :: l => P a ∧ Every P l
theorem Every.mem {α : Type} {P : α → Prop} : ∀ {l : List α}, Every P l → ∀ a ∈ l, P a
  | b :: l, h, a, ha => by
    rcases List.mem_cons.mp ha with e | ha
    · rw [e]; exact h.1
    · exact h.2.mem a ha
/-- what is known of the slots stays known -/
def Ext : St → St → Prop
  | [], [] => True
  | none :: l, _ :: r => Ext l r
  | some v :: l, o :: r => o = some v ∧ Ext l r
  | [], _ :: _ => False
  | _ :: _, [] => False
theorem Ext.len : ∀ {a b : St}, Ext a b → b.length = a.length
  | [], [], _ => rfl
  | none :: l, _ :: r, h => congrArg (· + 1) (Ext.len (a := l) (b := r) h)
  | some _ :: l, _ :: r, h => congrArg (· + 1) (Ext.len (a := l) (b := r) h.2)
  | [], _ :: _, h => h.elim
  | none :: _, [], h => h.elim
  | some _ :: _, [], h => h.elim
theorem Ext.get : ∀ {a b : St} (i : Nat) (v : V), Ext a b → a[i]? = some (some v) → b[i]? = some (some v)
  | [], [], _, _, _, e => e
  | none :: l, _ :: r, 0, v, _, e => by simp at e
  | none :: l, _ :: r, i + 1, v, h, e => by
    have := Ext.get (a := l) (b := r) i v h (by simpa using e)
    simpa using this
  | some u :: l, o :: r, 0, v, h, e => by
    have e' : u = v := by simpa using e
    rw [h.1, e']; rfl
  | some u :: l, o :: r, i + 1, v, h, e => by
    have := Ext.get (a := l) (b := r) i v h.2 (by simpa using e)
    simpa using this
  | [], _ :: _, _, _, h, _ => h.elim
  | none :: _, [], _, _, h, _ => h.elim
  | some _ :: _, [], _, _, h, _ => h.elim
/-- the block's names: its own stand empty, the free ones as in the def's slots -/
def slots (ix : List (Option Nat)) (σ : St) : St := ix.map fun o => match o with
  | none => none
  | some k => (σ[k]?).getD none
def FrOk (X : Cx) (scope : Scope) : List Str → List (Option Nat) → Prop
  | [], [] => True
  | _ :: N, none :: ix => FrOk X scope N ix
  | x :: N, some k :: ix => (X.N[k]? = some x ∧ X.env.kindOf x = some .cell ∧ scope.names.lookup x = some .free) ∧ FrOk X scope N ix
  | [], _ :: _ => False
  | _ :: _, [] => False
theorem FrOk.get {X : Cx} {scope : Scope} : ∀ {N : List Str} {ix : List (Option Nat)} (i k : Nat) (x : Str), FrOk X scope N ix → N[i]? = some x → ix[i]? = some (some k) → X.N[k]? = some x ∧ X.env.kindOf x = some .cell ∧ scope.names.lookup x = some .free
  | [], [], _, _, _, _, h, _ => by simp at h
  | _ :: N, none :: ix, 0, _, _, _, _, e => by simp at e
  | _ :: N, none :: ix, i + 1, k, x, h, h1, h2 => FrOk.get (N := N) (ix := ix) i k x h (by simpa using h1) (by simpa using h2)
  | y :: N, some m :: ix, 0, k, x, h, h1, h2 => by
    have e1 : y = x := by simpa using h1
    have e2 : m = k := by simpa using h2
    rw [← e1, ← e2]; exact h.1
  | _ :: N, some _ :: ix, i + 1, k, x, h, h1, h2 => FrOk.get (N := N) (ix := ix) i k x h.2 (by simpa using h1) (by simpa using h2)
  | [], _ :: _, _, _, _, h, _, _ => h.elim
  | _ :: _, [], _, _, _, h, _, _ => h.elim
theorem FrOk.len {X : Cx} {scope : Scope} : ∀ {N : List Str} {ix : List (Option Nat)}, FrOk X scope N ix → ix.length = N.length
  | [], [], _ => rfl
  | _ :: N, none :: ix, h => congrArg (· + 1) (FrOk.len (N := N) (ix := ix) h)
  | _ :: N, some _ :: ix, h => congrArg (· + 1) (FrOk.len (N := N) (ix := ix) h.2)
  | [], _ :: _, h => h.elim
  | _ :: _, [], h => h.elim
def HasOk (cl : List (Str × Addr)) : List (Str × NameKind) → Prop
  | [] => True
  | (x, .free) :: l => (∃ c, cl.lookup x = some c) ∧ HasOk cl l
  | _ :: l => HasOk cl l
theorem HasOk.get {cl : List (Str × Addr)} : ∀ {l : List (Str × NameKind)} (x : Str), HasOk cl l → (x, NameKind.free) ∈ l → ∃ c, cl.lookup x = some c
  | (y, k) :: l, x, h, hm => by
    rcases List.mem_cons.mp hm with e | hm
    · cases e; exact h.1
    · refine HasOk.get (l := l) x ?_ hm
      cases k <;> first | exact h | exact h.2
structure CompSc (X : Cx) (N' : List Str) (ix : List (Option Nat)) (scope : Scope) (cl : List (Str × Addr)) : Prop where
  kind : scope.kind = .function
  nocell : ∀ y ∈ scope.names, y.2 ≠ .cell
  names : ∀ y ∈ scope.names, y.2 = .local → scope.names.lookup y.1 = some .local
  clos : closureFor scope X.env = pure cl
  sub : Every (fun y : Str × Addr => X.env.cells.lookup y.1 = some y.2) cl
  has : HasOk cl scope.names
  fr : FrOk X scope N' ix
theorem lookup_rel {env : Env} : ∀ (names : List (Str × NameKind)) (x : Str),
    (names.map fun (n, k) => if (k == NameKind.free && env.scope.kind == .function && env.kindOf n == some .cell) then (n, NameKind.cell) else (n, k)).lookup x
      = (names.lookup x).map fun k => if (k == NameKind.free && env.scope.kind == .function && env.kindOf x == some .cell) then NameKind.cell else k
  | [], _ => rfl
  | (n, k) :: r, x => by
    have ih := lookup_rel (env := env) r x
    rw [List.map_cons]
    show List.lookup x ((if (k == NameKind.free && env.scope.kind == .function && env.kindOf n == some .cell) = true then (n, NameKind.cell) else (n, k)) :: _) = _
    by_cases hx : x = n
    · subst hx
      by_cases hc : (k == NameKind.free && env.scope.kind == .function && env.kindOf x == some .cell) = true
      · rw [if_pos hc, List.lookup_cons, List.lookup_cons, beq_self_eq_true]
        show some NameKind.cell = some (if (k == NameKind.free && env.scope.kind == .function && env.kindOf x == some .cell) = true then NameKind.cell else k)
        rw [if_pos hc]
      · rw [if_neg hc, List.lookup_cons, List.lookup_cons, beq_self_eq_true]
        show some k = some (if (k == NameKind.free && env.scope.kind == .function && env.kindOf x == some .cell) = true then NameKind.cell else k)
        rw [if_neg hc]
    · have hb : (x == n) = false := by simpa using hx
      by_cases hc : (k == NameKind.free && env.scope.kind == .function && env.kindOf n == some .cell) = true
      · rw [if_pos hc, List.lookup_cons, List.lookup_cons, hb]; exact ih
      · rw [if_neg hc, List.lookup_cons, List.lookup_cons, hb]; exact ih
section
variable {X : Cx} {N' : List Str} {ix : List (Option Nat)} {scope : Scope} {cl : List (Str × Addr)}
theorem CompSc.cells (S : CompSc X N' ix scope cl) {x : Str} {c : Addr} (h : cl.lookup x = some c) : X.env.cells.lookup x = some c := S.sub.mem (x, c) (PySem.mem_of_lookup h)
theorem CompSc.kept (S : CompSc X N' ix scope cl) (x : Str) (h : (relabel scope X.env).names.lookup x = some .cell ∨ (relabel scope X.env).names.lookup x = some .free) : ∃ c, cl.lookup x = some c := by
  have e := lookup_rel (env := X.env) scope.names x
  have e' : (relabel scope X.env).names.lookup x = _ := e
  rw [e'] at h
  cases q : scope.names.lookup x with
  | none => rw [q] at h; rcases h with h | h <;> cases h
  | some k =>
    have hm := PySem.mem_of_lookup q
    cases k with
    | free => exact S.has.get x hm
    | cell => exact absurd rfl (S.nocell _ hm)
    | _ => rw [q] at h; rcases h with h | h <;> (simp at h)
end
/-- the block's context -/
def cxComp (X : Cx) (N' : List Str) (scope : Scope) (cl : List (Str × Addr)) (C : Addr) (ex : List Addr) (pn : List (Addr × Obj)) (s : Shared) (H : Hp) : Cx where
  prog := X.prog
  w := X.w
  K := X.K
  mg := X.mg
  base := X.base
  A := X.A
  N := N'
  s₀ := s
  H₀ := H
  env := compEnvC scope cl C X.env
  outer := X.stack
  stack := X.stack
  ex := ex
  fn := fun _ => false
  calm := X.calm
  pn := pn
  xe := fun _ _ => False
def emptyL : Obj := { cls := .type "list", dict := none, data := .seq ([] : List Value).toArray }
section
variable {X : Cx} {N' : List Str} {ix : List (Option Nat)} {scope : Scope} {cl : List (Str × Addr)} {pins : List (Addr × Obj)} {σ : St} {H : Hp} {s : Shared} {fp : List Addr}
theorem comp_start (S : CompSc X N' ix scope cl) (I : Inv X pins σ H s) (hf : ∀ b ∈ fp, FpOk X pins H b) (hlt : ∀ b ∈ fp, b < s.heap.objs.size) {h1 : Heap} {tk : Nat} {m : Str → Option Value} (hns : h1.Ns (s.heap.push emptyL).objs.size m)
    (hk : ∀ b o, (s.heap.push emptyL).get? b = some o → h1.get? b = some o) :
    Inv (cxComp X N' scope cl (s.heap.push emptyL).objs.size (s.heap.objs.size :: fp) (X.pn ++ pins) { s with heap := s.heap.push emptyL } H) [] (slots ix σ) H { s with heap := h1, toks := tk } := by
  have hC : (s.heap.push emptyL).objs.size = s.heap.objs.size + 1 := Heap.size_push ..
  have I3 : Inv X pins σ H { s with heap := s.heap.push emptyL } := I.kept (t' := s.toks) fun b o e => Heap.get?_push_of_some _ e
  have clt : ∀ x c, X.env.cells.lookup x = some c → c < s.heap.objs.size := fun x c e => by obtain ⟨v, q⟩ := I.cell x c e; exact q.lt
  have hD : FpOk X pins H s.heap.objs.size := I.fpOk (Nat.le_refl _) (I.hok.fresh (Nat.le_refl _))
  have hall : ∀ b ∈ s.heap.objs.size :: fp, FpOk X pins H b ∧ b < (s.heap.push emptyL).objs.size := fun b hb => by
    rcases List.mem_cons.mp hb with rfl | hb
    · exact ⟨hD, by rw [hC]; exact Nat.lt_succ_self _⟩
    · exact ⟨hf b hb, by rw [hC]; exact Nat.lt_succ_of_lt (hlt b hb)⟩
  refine ⟨⟨I.mod, S.kind, I.ok.glob, I.ok.blt, Nat.le_refl _, fun x y c e1 e2 => I.ok.inj x y c (S.cells e1) (S.cells e2), fun x hx => S.kept x hx, fun x c e _ => ?_, I.ok.hd, I.ok.frames, .inl rfl, fun b hb => ⟨?_, fun x c e z => ?_⟩,
    fun b o e => ⟨(I3.bs b o e).1, (I3.bs b o e).2⟩, Nat.le_trans I.ok.bsz I3.sz, fun b o e hb => ?_, fun b hb hs => ?_, I3.stack, I3.stkFree⟩,
    rfl, I.bare, Un.kept hk, ⟨m, hns, fun i x v h1' h2' h3' => ?_⟩, fun x c e => ?_, ?_, fun x c e => I.freeC x c (S.cells e), fun p hp => ?_, I3.hok.kept hk, ?_⟩
  · exact absurd (show (false : Bool) = true from e) Bool.false_ne_true
  · exact Nat.ne_of_lt (hall b hb).2
  · exact (hall b hb).1.2.2.2.2.1 x c (S.cells e) z
  · have q := (hall b hb).1
    rcases q.2.2.2.1 with z | z
    · exact I.ok.noex b o e z
    · exact absurd (Nat.lt_of_lt_of_le (Heap.lt_size e) (Nat.le_trans I.ok.bsz z)) (Nat.lt_irrefl _)
  · have q := (hall b hb).1
    rcases List.mem_cons.mp (I.stkSub b hs) with z | z
    · exact q.2.1 z
    · exact q.2.2.1 z
  · -- a free name
    unfold slots at h2'
    rw [List.getElem?_map] at h2'
    cases q : ix[i]? with
    | none => rw [q] at h2'; cases h2'
    | some o =>
      cases o with
      | none => rw [q] at h2'; simp at h2'
      | some k =>
        rw [q] at h2'
        have h2'' : (σ[k]?).getD none = some v := by simpa using h2'
        have h2 : σ[k]? = some (some v) := by
          cases e : σ[k]? with
          | none => rw [e] at h2''; cases h2''
          | some z => rw [e] at h2''; simp at h2''; rw [h2'']
        obtain ⟨a1, a2, a3⟩ := S.fr.get i k x h1' q
        obtain ⟨m0, hn0, hl0⟩ := I.loc
        obtain ⟨u, ru, lk⟩ := hl0 k x v a1 h2 (.inr (.inl a2))
        rcases lk with ⟨z, _⟩ | ⟨_, c, hc, hcell⟩
        · rw [a2] at z; cases z
        · have hm := PySem.mem_of_lookup a3
          obtain ⟨c', hc'⟩ := S.has.get x hm
          have ec := S.cells hc'
          rw [hc] at ec
          cases ec
          refine ⟨u, ru, .inr ⟨.inl ?_, c, hc', ?_⟩⟩
          · show (relabel scope X.env).names.lookup x = some .cell
            have e := lookup_rel (env := X.env) scope.names x
            have e' : (relabel scope X.env).names.lookup x = _ := e
            rw [e', a3]
            have hk' : (X.env.scope.kind == ScopeKind.function) = true := by rw [I.ok.kind]; rfl
            simp [hk', a2]
          · obtain ⟨o, ho, hd⟩ := hcell
            exact ⟨o, hk _ _ (Heap.get?_push_of_some _ ho), hd⟩
  · obtain ⟨v, o, ho, hd⟩ := I.cell x c (S.cells e)
    exact ⟨v, o, hk _ _ (Heap.get?_push_of_some _ ho), hd⟩
  · exact I3.hok.fresh (Nat.le_refl _)
  · have hp' : p ∈ X.pn ++ pins := by
      have : p ∈ (X.pn ++ pins) ++ [] := hp
      rwa [List.append_nil] at this
    obtain ⟨e, n, ne, nf, d⟩ := I.pin p hp'
    refine ⟨hk _ _ (Heap.get?_push_of_some _ e), n, ?_, fun z => ?_, d⟩
    · show p.1 ≠ (s.heap.push emptyL).objs.size
      rw [hC]; exact Nat.ne_of_lt (Nat.lt_succ_of_lt (Heap.lt_size e))
    · rcases List.mem_cons.mp (I.stkSub p.1 z) with q | q
      · exact ne q
      · exact nf q
  · show (slots ix σ).length = N'.length
    unfold slots
    rw [List.length_map]; exact S.fr.len
/-- behind the block -/
theorem comp_end {C : Addr} {s' : Shared} {h2 : Heap} {Hz : Hp} {σ' : St} {pl : List (Addr × Obj)} {ys : List V} {its : List Value} {n : Nat} (I : Inv X pins σ H s) (hf : ∀ b ∈ fp, FpOk X pins H b) (hC : C = (s.heap.push emptyL).objs.size)
    (J : Inv (cxComp X N' scope cl C (s.heap.objs.size :: fp) (X.pn ++ pins) { s with heap := s.heap.push emptyL } H) pl σ' Hz s') (sb : Heap.SameBut C s'.heap h2)
    (hD : s'.heap.get? s.heap.objs.size = some { cls := .type "list", data := .seq its.toArray n }) (hz : Hz s.heap.objs.size = none) (rv : Vals ys its) (hl : ys.length ≤ sizeLine) :
    Inv X pins σ (upd Hz s.heap.objs.size (.lst ys)) { s' with heap := h2 } := by
  have eC : (s.heap.push emptyL).objs.size = s.heap.objs.size + 1 := Heap.size_push ..
  have I3 : Inv X pins σ H { s with heap := s.heap.push emptyL } := I.kept (t' := s.toks) fun b o e => Heap.get?_push_of_some _ e
  have hDf : FpOk X pins H s.heap.objs.size := I.fpOk (Nat.le_refl _) (I.hok.fresh (Nat.le_refl _))
  have u : Un (frs X.stack) (s.heap.objs.size :: fp) H Hz (s.heap.push emptyL) s'.heap := J.base
  have nC : ∀ {b : Addr} {o : Obj}, (s.heap.push emptyL).get? b = some o → b ≠ C := fun e => by rw [hC]; exact Nat.ne_of_lt (Heap.lt_size e)
  have fC : Hz C = none := J.free
  have hk2 : HOk X.prog X.w Hz h2 := fun b o e => by
    refine (J.hok b o e).stay (fun c v hc q => (sb.2 c ?_).trans q) (fun _ q => q) fun _ _ q => q
    rintro rfl
    rcases hc with rfl | hc
    · rw [fC] at e; cases e
    · rw [fC] at hc; cases hc
  have hDC : s.heap.objs.size ≠ C := by rw [hC, eC]; exact Nat.ne_of_lt (Nat.lt_succ_self _)
  have hk3 : HOk X.prog X.w (upd Hz s.heap.objs.size (.lst ys)) h2 := fun b o e => by
    by_cases hb : b = s.heap.objs.size
    · subst hb
      rw [upd_same] at e; cases e
      exact ⟨hl, its, n, rv, (sb.2 _ hDC).trans hD⟩
    · rw [upd_ne hb] at e
      exact (hk2 b o e).stay (fun _ _ _ q => q) (fun c q => by rw [upd_ne (ne_of_none q hz)]; exact q) fun c zs q => by rw [upd_ne (ne_of_none q hz)]; exact q
  refine I3.call' (ch := s.heap.objs.size :: fp) J.os ⟨fun b o e n' hb hx => (sb.2 b (nC e)).trans (u.keep b o e n' hb hx), fun b o e n' hb hx => ?_, fun b o e n' hx => ?_, fun b o e hx => ?_, fun b zs e => ?_, fun b o zs e => ?_, fun b ps e => ?_⟩ hk3 J.bare ?_
  · obtain ⟨sl, q⟩ := u.slot b o e n' hb hx
    exact ⟨sl, (sb.2 b (nC e)).trans q⟩
  · rw [upd_ne fun q => hx (by rw [q]; exact List.mem_cons_self ..)]
    exact u.free b o e n' hx
  · obtain ⟨o', q⟩ := u.there b o e hx
    exact ⟨o', (sb.2 b (nC e)).trans q⟩
  · have q := u.tups b zs e
    rw [upd_ne (ne_of_none q hz)]; exact q
  · have q := u.frzs b o zs e
    rw [upd_ne (ne_of_none q hz)]; exact q
  · obtain ⟨more, q⟩ := u.tbls b ps e
    exact ⟨more, by rw [upd_ne (ne_of_none q hz)]; exact q⟩
  · refine fp_step (X := X) (H := H) fun b hb => ?_
    rcases List.mem_cons.mp hb with rfl | hb
    · exact hDf
    · exact hf b hb
end
def PIf (X : Cx) (ifs : List Expr) (tt : TT) : Prop :=
  ∀ (pins : List (Addr × Obj)) (s : Shared) (σ : St) (H : Hp) (Q : Bool → Hp → Prop), Inv X pins σ H s → tt σ H Q →
    wpAny (model X.prog X.w) X.A (forIn ifs true fun c r => if r = true then do let ok ← isTrue c X.env (eval c X.env); pure (ForInStep.yield ok) else pure (ForInStep.yield r)) (TP X pins σ Q) X.xe s
def ttNil : TT := fun _ H Q => Q true H
theorem pif_nil {X : Cx} : PIf X [] ttNil := fun _ _ _ H _ I h => wpAny_tests_nil ⟨H, I, h⟩
section
variable {prog : Program} {w : World} {A : Around} {R : Result → Shared → Prop} {s : Shared}
/-- the block's loop, whatever its target -/
theorem comp_loop {elt tg iter : Expr} {ifs : List Expr} {scope : Scope} {pos : Pos} {it acc : Value} {env : Env} (W : Nat → Shared → Prop) {EE : Value → Shared → Prop}
    (hE : ∀ e s', EE e s' → notedBy (model prog w) A env (fun e s' => R (.error e) s') e s')
    (turn : ∀ n s, W n s → wpAny (model prog w) A (pyNext it) (fun r s₁ => (r = none ∧ R (.ok .next) s₁) ∨ ∃ v, r = some v ∧
      wpAny (model prog w) A (letOwnedTupleGo tg it v) (fun _ s₂ => wpAny (model prog w) A (assign tg env v) (fun _ s₃ =>
        wpAny (model prog w) A (forIn ifs true fun c r => if r = true then do let ok ← isTrue c env (eval c env); pure (ForInStep.yield ok) else pure (ForInStep.yield r)) (fun ok s₄ =>
          (ok = true ∧ wpAny (model prog w) A (eval elt env) (fun x s₅ => wpAny (model prog w) A (call (.builtin "list.append") [acc, x]) (fun _ s₆ => ∃ m, m < n ∧ W m s₆) EE s₅) EE s₄) ∨
          (ok = false ∧ ∃ m, m < n ∧ W m s₄)) EE s₃) EE s₂) EE s₁) EE s)
    (n : Nat) (h : W n s) : codeAny (model prog w) A (.compLoop (.ListComp elt [⟨tg, iter, ifs, 0⟩] scope pos) 0 it acc env) R s := by
  refine codeAny_loop rfl W (fun n s hW => ?_) n h
  show wpAny _ A (Sem.onRaise (compTurn (.ListComp elt [⟨tg, iter, ifs, 0⟩] scope pos) 0 it acc env) (fun x => do noteFrame x env; theTreesLotGoes x)) _ _ s
  refine wpAny_noted ?_
  rw [compTurn_list]
  refine wpAny_bind (wpAny_standAt (wpAny_bind (wpAny_mono (turn n s hW) (fun r s₁ q => ?_) fun e s' q => hE e s' q)))
  rcases q with ⟨rfl, q⟩ | ⟨v, rfl, q⟩
  · exact wpAny_pure q
  refine wpAny_bind (wpAny_mono q (fun _ s₂ q => wpAny_bind (wpAny_mono q (fun _ s₃ q => wpAny_bind (wpAny_mono q (fun ok s₄ q => ?_) fun e s' q => hE e s' q)) fun e s' q => hE e s' q)) fun e s' q => hE e s' q)
  rcases q with ⟨rfl, q⟩ | ⟨rfl, q⟩
  · exact wpAny_bind (wpAny_bind (wpAny_mono q (fun x s₅ q => wpAny_bind (wpAny_mono q (fun _ s₆ q => wpAny_pure (wpAny_pure ⟨rfl, q⟩)) fun e s' q => hE e s' q)) fun e s' q => hE e s' q))
  · exact wpAny_pure ⟨rfl, q⟩
end
def CompAt (J : It) (ix : List (Option Nat)) (g : TG) (tt : TT) (te : TE) (σ : St) (Q : VK) (H1 : Hp) : Prop := ∃ W : Nat → Nat → List V → Hp → Prop, (∃ m, W 0 m [] H1) ∧ ∀ i m ys H, W i m ys H →
  (J.stop i H ∧ ys.length ≤ sizeLine ∧ ∀ p, H p = none → Q (.ref p) (upd H p (.lst ys))) ∨
  (J.go i H ∧ ys.length ≤ sizeLine ∧ ∃ N : List V → Hp → Prop, (∀ zs H', N zs H' → ∃ m', m' < m ∧ W (i + 1) m' zs H') ∧
    ∀ x H', J.yld i H x H' → g x (slots ix σ) H' fun σ2 H2 => Ext (slots ix σ) σ2 ∧ tt σ2 H2 fun ok H3 => if ok = true then te σ2 H3 fun y H4 => N (ys ++ [y]) H4 else N ys H3)
def tComp (wi : TI) (ix : List (Option Nat)) (g : TG) (tt : TT) (te : TE) : TE := fun σ H Q => wi σ H fun J H1 => CompAt J ix g tt te σ Q H1
abbrev blk (X : Cx) (N' : List Str) (scope : Scope) (cl : List (Str × Addr)) (pins : List (Addr × Obj)) (fp : List Addr) (s : Shared) (H : Hp) : Cx :=
  cxComp X N' scope cl (s.heap.push emptyL).objs.size (s.heap.objs.size :: fp) (X.pn ++ pins) { s with heap := s.heap.push emptyL } H
section
variable {X : Cx} {N' : List Str} {ix : List (Option Nat)} {scope : Scope} {cl : List (Str × Addr)} {pins : List (Addr × Obj)} {σ : St} {H : Hp} {s : Shared} {fp : List Addr}
theorem blk_fp (S : CompSc X N' ix scope cl) (I : Inv X pins σ H s) (hf : ∀ b ∈ fp, FpOk X pins H b) (hlt : ∀ b ∈ fp, b < s.heap.objs.size) {o : Obj} {Hz : Hp} (hz : ∀ b ∈ fp, Hz b = none) :
    ∀ b ∈ fp, FpOk (blk X N' scope cl pins fp s H) [(s.heap.objs.size, o)] Hz b := fun b hb => by
  have eC : (s.heap.push emptyL).objs.size = s.heap.objs.size + 1 := Heap.size_push ..
  obtain ⟨_, f1, f2, f3, f4, f5⟩ := hf b hb
  have l := hlt b hb
  refine ⟨hz b hb, ?_, fun hs => ?_, .inl (List.mem_cons_of_mem _ hb), fun x c e => f4 x c (S.cells e), fun p hp => ?_⟩
  · show b ≠ (s.heap.push emptyL).objs.size
    rw [eC]; exact Nat.ne_of_lt (Nat.lt_succ_of_lt l)
  · rcases List.mem_cons.mp (I.stkSub b hs) with q | q
    · exact f1 q
    · exact f2 q
  · rcases List.mem_append.mp hp with q | q
    · exact f5 p q
    · have e : p = (s.heap.objs.size, o) := by simpa using q
      rw [e]; show s.heap.objs.size ≠ b
      exact Nat.ne_of_gt l
theorem blk_own (S : CompSc X N' ix scope cl) (I : Inv X pins σ H s) {Hz : Hp} (hz : Hz s.heap.objs.size = none) : FpOk (blk X N' scope cl pins fp s H) [] Hz s.heap.objs.size := by
  have eC : (s.heap.push emptyL).objs.size = s.heap.objs.size + 1 := Heap.size_push ..
  obtain ⟨_, f1, f2, f3, f4, f5⟩ := I.fpOk (H' := H) (Nat.le_refl s.heap.objs.size) (I.hok.fresh (Nat.le_refl _))
  refine ⟨hz, ?_, fun hs => ?_, .inl (List.mem_cons_self ..), fun x c e => f4 x c (S.cells e), fun p hp => ?_⟩
  · show s.heap.objs.size ≠ (s.heap.push emptyL).objs.size
    rw [eC]; exact Nat.ne_of_lt (Nat.lt_succ_self _)
  · rcases List.mem_cons.mp (I.stkSub _ hs) with q | q
    · exact f1 q
    · exact f2 q
  · refine f5 p ?_
    have : p ∈ (X.pn ++ pins) ++ [] := hp
    rwa [List.append_nil] at this
theorem comp_run {elt tg iter : Expr} {ifs : List Expr} {pos : Pos} {g : TG} {tt : TT} {te : TE} {J : It} {it : Addr} {tn : Nat → Heap → Prop} {s4 : Shared} {Q : VK} {R : Result → Shared → Prop}
    (hc : X.calm = true) (S : CompSc X N' ix scope cl) (I : Inv X pins σ H s) (T : Turn X.prog X.w X.K tg J fp it tn) (hf : ∀ b ∈ fp, FpOk X pins H b) (hlt : ∀ b ∈ fp, b < s.heap.objs.size)
    (hg : PG (blk X N' scope cl pins fp s H) tg g) (hif : PIf (blk X N' scope cl pins fp s H) ifs tt) (he : PE (blk X N' scope cl pins fp s H) elt te)
    (J0 : Inv (blk X N' scope cl pins fp s H) [] (slots ix σ) H s4) (st0 : tn 0 s4.heap) (hD0 : s4.heap.get? s.heap.objs.size = some { cls := .type "list", data := .seq ([] : List Value).toArray 0 })
    (W : Nat → Nat → List V → Hp → Prop) (m0 : Nat) (w0 : W 0 m0 [] H)
    (turn : ∀ i m ys H, W i m ys H → (J.stop i H ∧ ys.length ≤ sizeLine ∧ ∀ p, H p = none → Q (.ref p) (upd H p (.lst ys))) ∨
      (J.go i H ∧ ys.length ≤ sizeLine ∧ ∃ N : List V → Hp → Prop, (∀ zs H', N zs H' → ∃ m', m' < m ∧ W (i + 1) m' zs H') ∧
        ∀ x H', J.yld i H x H' → g x (slots ix σ) H' fun σ2 H2 => Ext (slots ix σ) σ2 ∧ tt σ2 H2 fun ok H3 => if ok = true then te σ2 H3 fun y H4 => N (ys ++ [y]) H4 else N ys H3))
    (fin : ∀ (ys : List V) (Hz : Hp) (its : List Value) (k : Nat) (pl : List (Addr × Obj)) (s2 : Shared), Inv (blk X N' scope cl pins fp s H) pl (slots ix σ) Hz s2 → s2.heap.get? s.heap.objs.size = some { cls := .type "list", data := .seq its.toArray k } → Hz s.heap.objs.size = none →
      Vals ys its → ys.length ≤ sizeLine → (∀ p, Hz p = none → Q (.ref p) (upd Hz p (.lst ys))) → R (.ok .next) s2) :
    codeAny (model X.prog X.w) X.A (.compLoop (.ListComp elt [⟨tg, iter, ifs, 0⟩] scope pos) 0 (.ref it) (.ref s.heap.objs.size) (compEnvC scope cl (s.heap.push emptyL).objs.size X.env)) R s4 := by
  refine comp_loop (EE := fun _ _ => False) (fun n s' => ∃ (i : Nat) (ys : List V) (Hz : Hp) (its : List Value) (k : Nat), Inv (blk X N' scope cl pins fp s H) [] (slots ix σ) Hz s' ∧ tn i s'.heap ∧ (∀ b ∈ fp, Hz b = none) ∧
    s'.heap.get? s.heap.objs.size = some { cls := .type "list", data := .seq its.toArray k } ∧ Hz s.heap.objs.size = none ∧ Vals ys its ∧ W i n ys Hz) (fun _ _ z => z.elim) ?_ m0
    ⟨0, [], H, [], 0, J0, st0, fun b hb => (hf b hb).1, hD0, I.hok.fresh (Nat.le_refl _), .nil, w0⟩
  rintro n s' ⟨i, ys, Hz, its, k, J1, st1, fz, hD, hz, rv, w1⟩
  have own := blk_own (fp := fp) (N' := N') S I hz
  have J2 : Inv (blk X N' scope cl pins fp s H) [(s.heap.objs.size, { cls := .type "list", data := .seq its.toArray k })] (slots ix σ) Hz s' := J1.pins_of fun p hp => by
    have e : p = (s.heap.objs.size, { cls := .type "list", data := .seq its.toArray k }) := by simpa using hp
    subst e
    exact ⟨hD, hz, own.2.1, own.2.2.1, fun v z => nomatch z⟩
  have atD : ∀ {pl : List (Addr × Obj)} {σ' : St} {H' : Hp} {s'' : Shared}, Inv (blk X N' scope cl pins fp s H) ([(s.heap.objs.size, { cls := .type "list", data := .seq its.toArray k })] ++ pl) σ' H' s'' →
      s''.heap.get? s.heap.objs.size = some { cls := .type "list", data := .seq its.toArray k } ∧ H' s.heap.objs.size = none := fun J' => by
    have q := J'.pin (s.heap.objs.size, { cls := .type "list", data := .seq its.toArray k }) (List.mem_append_right _ (List.mem_append_left _ (List.mem_cons_self ..)))
    exact ⟨q.1, q.2.1⟩
  have hlen := rv.length
  rcases turn i n ys Hz w1 with ⟨stop, hsz, q⟩ | ⟨go, hsz, N, hN, step⟩
  · refine thn (T.done (blk X N' scope cl pins fp s H) rfl rfl rfl hc i _ s' _ Hz (fun _ _ => False) J2 (blk_fp S I hf hlt fz) st1 stop) fun r s2 ⟨hr, J3⟩ => .inl ⟨hr, ?_⟩
    have d := atD (pl := []) J3
    exact fin ys Hz its k _ s2 J3 d.1 d.2 rv hsz q
  · refine thn (T.item (blk X N' scope cl pins fp s H) rfl rfl rfl hc i _ s' _ Hz (fun _ _ => False) J2 (blk_fp S I hf hlt fz) st1 go) fun r s1 ⟨u, hr, h4⟩ => .inr ⟨u, hr, thn h4 fun _ s5 ⟨x, H5, J5, r5, y5, st5, fr5⟩ => ?_⟩
    have J5' := J5.pinned (blk_fp S I hf hlt fr5) (T.obj _ _ st5)
    refine thn (hg _ s5 _ H5 x u _ J5' r5 (step x H5 y5)) fun _ s6 ⟨σ6, H6, J6, ext, q6⟩ => ?_
    refine thn (hif _ s6 σ6 H6 _ J6 q6) fun ok s7 ⟨H7, J7, q7⟩ => ?_
    have tnK : ∀ {σ' : St} {H' : Hp} {s'' : Shared}, Inv (blk X N' scope cl pins fp s H) ([(s.heap.objs.size, { cls := .type "list", data := .seq its.toArray k })] ++ pinsAt fp s5.heap) σ' H' s'' → tn (i + 1) s''.heap ∧ ∀ b ∈ fp, H' b = none := fun J' =>
      ⟨T.keep _ _ _ st5 fun b hb o e => (J'.pin (b, o) (List.mem_append_right _ (List.mem_append_right _ (mem_pinsAt hb e)))).1, fun b hb => by
        obtain ⟨o, e, _⟩ := T.obj _ _ st5 b hb
        exact (J'.pin (b, o) (List.mem_append_right _ (List.mem_append_right _ (mem_pinsAt hb e)))).2.1⟩
    cases ok with
    | false =>
      rw [if_neg Bool.false_ne_true] at q7
      obtain ⟨m', hm, w7⟩ := hN _ _ q7
      have d := atD J7
      have t := tnK J7
      refine .inr ⟨rfl, m', hm, i + 1, ys, H7, its, k, (J7.pins_of fun p hp => absurd hp (by simp)).weak ext.len.symm fun j v => ext.get j v, t.1, t.2, d.1, d.2, rv, w7⟩
    | true =>
      rw [if_pos rfl] at q7
      refine .inl ⟨rfl, thn (he _ s7 σ6 H7 _ J7 q7) fun xv s8 ⟨y, H8, J8, r8, q8⟩ => ?_⟩
      obtain ⟨m', hm, w8⟩ := hN _ _ q8
      have d := atD J8
      have t := tnK J8
      have own8 := blk_own (fp := fp) (N' := N') S I d.2
      have J9 : Inv (blk X N' scope cl pins fp s H) [] (slots ix σ) H8 s8 := (J8.pins_of fun p hp => absurd hp (by simp)).weak ext.len.symm fun j v => ext.get j v
      refine wpAny_list_append_plain (hsz := by rw [List.size_toArray, ← hlen]; exact hsz) ⟨k, d.1⟩ fun h' hl' sb => ?_
      obtain ⟨k', hk'⟩ := hl'
      refine ⟨m', hm, i + 1, ys ++ [y], H8, its ++ [xv], k', J9.turned (t' := s8.toks) (fun b o hb e => (sb.2 b hb).trans e) own8.1 own8.2.1 own8.2.2.2.1 own8.2.2.2.2.1 own8.2.2.2.2.2,
        T.keep _ _ _ t.1 fun b hb o e => (sb.2 b (Nat.ne_of_lt (hlt b hb))).trans e, t.2, by simpa using hk', d.2, rv.append (.cons r8 .nil), w8⟩
end
theorem pe_comp {X : Cx} {N' : List Str} {ix : List (Option Nat)} {scope : Scope} {cl : List (Str × Addr)} {elt tg iter : Expr} {ifs : List Expr} {pos : Pos} {wi : TI} {g : TG} {tt : TT} {te : TE}
    (hc : X.calm = true) (S : CompSc X N' ix scope cl) (hi : PI X tg iter wi)
    (body : ∀ (C : Addr) (ex : List Addr) (pn : List (Addr × Obj)) (s : Shared) (H : Hp), PG (cxComp X N' scope cl C ex pn s H) tg g ∧ PIf (cxComp X N' scope cl C ex pn s H) ifs tt ∧ PE (cxComp X N' scope cl C ex pn s H) elt te)
    (hs : ∀ x, foldedSetIterable iter X.env x = pure x := by intro _; rfl) : PE X (.ListComp elt [⟨tg, iter, ifs, 0⟩] scope pos) (tComp wi ix g tt te) := by
  intro pins s σ H Q I h
  rw [eval_ListComp]
  refine wpAny_comprehension_free (use := none) rfl hs S.clos S.kind S.names (thn (hi pins s σ H _ I h) fun xv s1 h1 => thn h1 fun itv s2 h2 => ?_)
  obtain ⟨it, fp, tn, J, H2, rfl, I2, T, st2, f2, W, ⟨m0, w0⟩, turn⟩ := h2
  have hlt : ∀ b ∈ fp, b < s2.heap.objs.size := fun b hb => by obtain ⟨o, e, _⟩ := T.obj _ _ st2 b hb; exact Heap.lt_size e
  refine wpAny_newObj_type (wpAny_newFunctionEnv S.nocell (by intro y hy; simp at hy) (fun h₁ hns hsb => ?_) S.kind)
  dsimp only at hns hsb ⊢
  have hk1 : ∀ b o, (s2.heap.push emptyL).get? b = some o → h₁.get? b = some o := fun b o e => hsb.extBut b o (Nat.ne_of_lt (Heap.lt_size e)) (Heap.get?_push_of_some _ e)
  have J0 := comp_start (tk := s2.toks + ([] : List (Str × Value)).length) (N' := N') S I2 f2 hlt hns hk1
  obtain ⟨hg, hif, he⟩ := body (s2.heap.push emptyL).objs.size (s2.heap.objs.size :: fp) (X.pn ++ pins) { s2 with heap := s2.heap.push emptyL } H2
  have st4 : tn 0 h₁ := T.keep _ _ _ st2 fun b hb o e => hk1 b o (Heap.get?_push_of_some _ e)
  have hD4 : h₁.get? s2.heap.objs.size = some { cls := .type "list", data := .seq ([] : List Value).toArray 0 } := hk1 _ _ (Heap.get?_push_size _ rfl)
  have loop := comp_run (iter := iter) (pos := pos) (Q := Q) (R := compPost (model X.prog X.w) X.A X.xe none (EP X pins σ Q) (.ref s2.heap.objs.size) (s2.heap.push emptyL).objs.size) hc S I2 T f2 hlt hg hif he J0 st4 hD4 W m0 w0 turn
    fun ys Hz its k pl s5 J3 dD dz rv hsz q => by
      obtain ⟨m, hn, _⟩ := J3.loc
      exact ⟨m, hn, fun h2 sb => ⟨.ref _, _, comp_end I2 f2 rfl J3 sb dD dz rv hsz, rfl, q _ dz⟩⟩
  exact codeAny_compStart_list loop (T.self _ 0 _ _ _ st4 loop)
theorem comp_list {K : PySem.W.Frag} {a : Addr} {xs : List V} {ix : List (Option Nat)} {g : TG} {tt : TT} {te : TE} {σ : St} {H : Hp} {Q : VK} (Pv : Nat → List V → Hp → Prop) (h0 : Pv 0 [] H) (hl : ∀ i ys H, Pv i ys H → SqL K H a xs)
    (hs : ∀ i x ys H, xs[i]? = some x → Pv i ys H → ys.length ≤ sizeLine ∧ g x (slots ix σ) H fun σ2 H2 => Ext (slots ix σ) σ2 ∧ tt σ2 H2 fun ok H3 => if ok = true then te σ2 H3 fun y H4 => Pv (i + 1) (ys ++ [y]) H4 else Pv (i + 1) ys H3)
    (hd : ∀ ys H, Pv xs.length ys H → ys.length ≤ sizeLine ∧ ∀ p, H p = none → Q (.ref p) (upd H p (.lst ys))) :
    CompAt (Itl K a) ix g tt te σ Q H := by
  refine ⟨fun i m ys H => m = xs.length - i ∧ i ≤ xs.length ∧ Pv i ys H, ⟨xs.length, by simp, Nat.zero_le _, h0⟩, ?_⟩
  rintro i m ys H ⟨rfl, hi, p⟩
  have q := hl i ys H p
  by_cases hlt : i < xs.length
  · have gx : xs[i]? = some xs[i] := List.getElem?_eq_getElem hlt
    obtain ⟨z, _⟩ := hs i _ ys H gx p
    refine .inr ⟨⟨xs, xs[i], q, gx⟩, z, Pv (i + 1), fun zs H' p' => ⟨xs.length - (i + 1), by (first | lia | omega), rfl, hlt, p'⟩, fun x H' y => ?_⟩
    obtain ⟨e, y⟩ := y
    subst e
    exact (hs i x ys _ (y xs q) p).2
  · obtain rfl : i = xs.length := by (first | lia | omega)
    obtain ⟨z, q'⟩ := hd ys H p
    exact .inl ⟨⟨xs, q, Nat.le_refl _⟩, z, q'⟩
end L3
namespace L3
open PySem PySem.Spec L2
open PyProof.Rows hiding St
/-- the context of a def's body -/
abbrev cxF (P : Program) (w : World) (K : PySem.W.Frag) (mg : Str → Option Value) (base : Heap) (N : List Str) (x : Str) (st : Stmt) (f : Addr) (cdv : Value) (A : Around) (outer : List Env) (s : Shared) (H : Hp) (E : XK) : Cx :=
  (cxOf CX0 P w K mg base N x (defScope st) f cdv A outer s H E).nox
/-- the def stands in the module under its name -/
def Def (K : PySem.W.Frag) (mg : Str → Option Value) (x : Str) (ps : List Str) (st : Stmt) : Prop := ∃ f fd, Fun K x x st f fd ∧ Binds K fd ps [] ∧ mg x = some (.ref f)
/-- it keeps the promise sp, with k calls of room -/
def Has (P : Program) (w : World) (K : PySem.W.Frag) (mg : Str → Option Value) (base : Heap) (k : Nat) (x : Str) (ps : List Str) (sp : Sp) : Prop :=
  ∃ f fd, FnOk P w K mg base CX0 k f fd ps sp ∧ Binds K fd ps [] ∧ PySem.W.keepIn K (.ref f) = true ∧ mg x = some (.ref f)
section
variable {P : Program} {w : World} {K : PySem.W.Frag} {mg : Str → Option Value} {base : Heap}
theorem Def.ok {x : Str} {ps N : List Str} {st : Stmt} {k : Nat} {sp : Sp} (D : Def K mg x ps st) (S : FnScope N ps (defScope st)) (len : ∀ vs H Q E, sp vs H Q E → vs.length = ps.length)
    (hbody : ∀ (f : Addr) (cdv : Value) (A : Around) (outer : List Env) (s : Shared) (H : Hp) (vs : List V) (Q : VK) (E : XK), Room k (A.deeper (envOfC x (defScope st) s.heap.objs.size f cdv)) → sp vs H Q E →
      ∃ t, PSs (cxOf CX0 P w K mg base N x (defScope st) f cdv A outer s H E).nox (defBody st) t ∧ t { nx := fun _ H' => Q .non H', rt := Q } (start N vs) H) : Has P w K mg base (k + 1) x ps sp := by
  obtain ⟨f, fd, F, b, m⟩ := D
  exact ⟨f, fd, F.ok S len (hbody f), b, F.kp, m⟩
theorem def_mk {h : Heap} {x : Str} {ps : List Str} {st : Stmt} {f : Addr} {oc : Value} {od an : Option Addr} {osl : Array (Option Value)} {kV doc pm cdv ct : Value} (X : K.In h) (G : h.Ns mainGlobals mg)
    (a : PySem.W.nsIn K mainGlobals x = some (some (.ref f))) (l : K.lookup f = some ⟨oc, od, .func (PySem.W.fnOf x x (defArgs st) (defBody st) (defScope st) .none kV doc pm an cdv ct), osl⟩)
    (c : PySem.W.codeIn K cdv x = true) (k : PySem.W.keepIn K (.ref f) = true)
    (hb : ∀ (kV doc pm : Value) (an : Option Addr) (cdv ct : Value) (us : List Value), us.length = ps.length → bindArgs (PySem.W.fnOf x x (defArgs st) (defBody st) (defScope st) .none kV doc pm an cdv ct) ⟨us, []⟩ = pure (ps.zip us)) : Def K mg x ps st :=
  ⟨f, _, fun_mk l c k, (fun_mk l c k).binds hb, PySem.W.mg_of X G a⟩
end
section
variable {X : Cx} {k j : Nat} {ps : List Str} {sp : Sp} {x : Str} {p pos : Pos} {e : Expr} {es : List Expr} {t : TA}
theorem ptw {t' : TT} (h : PW X e t') : PT X e t' := h.pt
/-- a row, then what holds behind it -/
def tCut (J : St → Hp → Prop) (t u : TS) : TS := fun D σ H => t { D with nx := J } σ H ∧ ∀ σ' H', J σ' H' → u D σ' H'
theorem pss_cut (J : St → Hp → Prop) {st : Stmt} {rest : List Stmt} {t u : TS} (h1 : PS X st t) (h2 : PSs X rest u) : PSs X (st :: rest) (tCut J t u) := by
  intro pins s σ H D I h
  refine wpAny_execs_cons (thn (h1 pins s σ H { D with nx := J } I h.1) fun f s1 q => ?_)
  cases f with
  | next =>
    obtain ⟨σ', H', I', q⟩ := q
    exact h2 pins s1 σ' H' D I' (h.2 σ' H' q)
  | ret v => exact q
  | brk => exact q
  | cont => exact q
theorem ix_listK (K : PySem.W.Frag) (hK : X.K = K) : IxR X (rIxL K) := by
  subst hK
  exact ix_list
/-- f(e, ..) -/
theorem pcall (h : Has X.prog X.w X.K X.mg X.base j x ps sp) (hr : Room k X.A) (hg : Gl X x) (ha : PA X (e :: es) t) (hj : j ≤ k := by decide) (hdb : (x == ("__debug__" : Str)) = false := by decide)
    (he : starEach (e :: es) X.env = (false, eval e X.env) :: starEach es X.env := by rfl) (hpl : (backTo pos (starEach es X.env)).any (·.1) = false := by rfl) : PE X (.Call (.Name x p) (e :: es) [] pos) (tCall sp [] E0 t) := by
  obtain ⟨f, fd, F, b, kp, m⟩ := h
  exact pe_call F (hr.mono hj) hg m kp b .nil pass0 ha hdb he hpl
end
end L3
namespace L3
open PySem PySem.Spec L2
open PyProof.Rows hiding St
section
variable {X : Cx} {tg : Expr}
end
end L3
namespace L3
open PySem PySem.Spec L2
open PyProof.Rows hiding St
section
variable {X : Cx} {es : List Expr} {kt : Nat} {pt : Pos}
end
section
variable {X : Cx} {tg : Expr}
end
end L3
namespace L3
open PySem PySem.Spec L2
open PyProof.Rows hiding St
section
variable {prog : Program} {w : World} {A : Around} {E : Value → Shared → Prop} {s : Shared}
end
section
variable {X : Cx}
end
end L3
namespace L3
open PySem PySem.Spec L2
open PyProof.Rows hiding St
/-- a tracked object stands there -/
theorem obj_there {P : Program} {w : World} {H : Hp} {h : Heap} {a : Addr} {o : HO} (x : ObjOk P w H h a o) : ∃ u, h.get? a = some u := by
  cases o with
  | lst xs => obtain ⟨_, _, _, _, e⟩ := x; exact ⟨_, e⟩
  | tup xs => obtain ⟨_, _, _, u, e, _⟩ := x; exact ⟨_, e⟩
  | dK kvs => obtain ⟨_, _, _, _, o, _, _, e, _⟩ := x; exact ⟨_, e⟩
  | dT kvs => obtain ⟨_, _, _, _, o, _, _, e, _⟩ := x; exact ⟨_, e⟩
  | set S n => obtain ⟨o, _, _, _, e, _⟩ := x; exact ⟨_, e⟩
  | ins C dx fs => obtain ⟨_, _, _, e, _⟩ := x; exact ⟨_, e⟩
  | own y => exact x
  | xd fs => obtain ⟨_, ⟨_, _, _, e, _⟩, _⟩ := x; exact ⟨_, e⟩
  | rng lo hi => obtain ⟨_, _, _, e⟩ := x; exact ⟨_, e⟩
  | frz ob u => obtain ⟨e, _⟩ := x; exact ⟨_, e⟩
  | tbl ps => exact ⟨_, show h.get? a = some _ from x⟩
  | met f y => exact ⟨_, show h.get? a = some _ from x⟩
  | ext φ => obtain ⟨_, e, _⟩ := x; exact e
/-- B holds all that stood there ahead (but frames) and all that is tracked -/
def Cov (fs : List Addr) (h h' : Heap) (H' : Hp) (B : Heap) : Prop := ∀ b o, h'.get? b = some o → b ∉ fs → ((∃ o', h.get? b = some o') ∨ H' b ≠ none) → B.get? b = some o
/-- how an exception lies behind a call -/
def CXE (P : Program) (w : World) : CXT := fun outer H s E e s' => ∃ (ea : Addr) (cls a0 : Value) (H' : Hp) (B : Heap), e = .ref ea ∧ s'.os = s.os ∧ AllBare s'.gens ∧ Un (frs outer) [] H H' s.heap s'.heap ∧ HOk P w H' s'.heap ∧
  Heap.FlyingW B outer ea cls a0 s'.heap ∧ Cov (frs outer) s.heap s'.heap H' B ∧ E cls none H'
/-- a def's own context -/
structure Own (X : Cx) : Prop where
  ex : X.ex = []
  stk : X.stack = X.env :: X.outer
  fr : X.env.frame = some X.env.locals
section
variable {X : Cx} {pins : List (Addr × Obj)} {σ : St} {H H' : Hp} {s : Shared} {hm h2 B : Heap}
theorem Own.frs (O : Own X) {b : Addr} (h : b ∈ L2.frs X.stack) : b = X.env.locals ∨ b ∈ X.fs := by
  rw [O.stk] at h
  unfold L2.frs at h
  rw [List.filterMap_cons, O.fr] at h
  exact List.mem_cons.mp h
theorem Own.low (O : Own X) (I : Inv X pins σ H s) {b : Addr} {o : Obj} (e : X.s₀.heap.get? b = some o) (hb : b ∉ X.fs) : b ∉ L2.frs X.stack := fun h => by
  rcases O.frs h with z | z
  · exact absurd (z ▸ Heap.lt_size e) (Nat.not_lt.mpr I.ok.above)
  · exact hb z
/-- behind the frame that is left -/
theorem left_ok (O : Own X) (I : Inv X pins σ H s) (un : Un (frs X.stack) [] H H' s.heap hm) (hok : HOk X.prog X.w H' hm) (cov : Cov (frs X.stack) s.heap hm H' B) (up : hm.UpToSlots h2) (st : B.StaysIn h2) :
    Un (frs X.outer) [] X.H₀ H' X.s₀.heap h2 ∧ HOk X.prog X.w H' h2 ∧ Cov (frs X.outer) X.s₀.heap h2 H' B := by
  have u0 := I.base
  rw [O.ex] at u0
  have nx : ∀ b : Addr, b ∉ ([] : List Addr) := fun b z => by simp at z
  have frN : ∀ b ∈ frs X.stack, H' b = none := fun b hb => by
    obtain ⟨_, o, ho, _⟩ := I.stack.mem hb
    exact un.free b o ho (I.stkFree b hb) (nx b)
  have hb2 : ∀ b o, B.get? b = some o → h2.get? b = some o := st
  -- what stood there at the entry, but for frames
  have old : ∀ b o, X.s₀.heap.get? b = some o → b ∉ X.fs → ∃ o1, hm.get? b = some o1 ∧ B.get? b = some o1 := fun b o e hb => by
    obtain ⟨o', e'⟩ := u0.there b o e (nx b)
    obtain ⟨o1, e1⟩ := un.there b o' e' (nx b)
    exact ⟨o1, e1, cov b o1 e1 (O.low I e hb) (.inl ⟨o', e'⟩)⟩
  have trk : ∀ b u, H' b = some u → ∃ o1, hm.get? b = some o1 ∧ B.get? b = some o1 := fun b u e => by
    obtain ⟨o1, e1⟩ := obj_there (hok b u e)
    refine ⟨o1, e1, cov b o1 e1 (fun hb => ?_) (.inr (by rw [e]; simp))⟩
    rw [frN b hb] at e; cases e
  refine ⟨⟨fun b o e n hb _ => ?_, fun b o e n hb _ => ?_, fun b o e n _ => ?_, fun b o e _ => ?_, fun b xs e => un.tups b xs (u0.tups b xs e), fun b o u e => un.frzs b o u (u0.frzs b o u e), fun b ps e => ?_⟩, fun b u e => ?_, fun b o e hb hc => ?_⟩
  · obtain ⟨o1, e1, e2⟩ := old b o e hb
    have e3 := un.keep b o (u0.keep b o e n hb (nx b)) (u0.free b o e n (nx b)) (O.low I e hb) (nx b)
    rw [e1] at e3; cases e3
    exact hb2 _ _ e2
  · obtain ⟨sl, e1⟩ := u0.slot b o e n hb (nx b)
    have hbs : b ∈ frs X.stack := by
      rw [O.stk]
      unfold L2.frs
      rw [List.filterMap_cons, O.fr]
      exact List.mem_cons_of_mem _ hb
    obtain ⟨sl2, e2⟩ := un.slot b _ e1 (u0.free b o e n (nx b)) hbs (nx b)
    obtain ⟨_, o', ho', hd⟩ := I.ok.funs.mem hb
    rw [e] at ho'; cases ho'
    obtain ⟨sl3, e3⟩ := up b _ e2 hd
    exact ⟨sl3, e3⟩
  · obtain ⟨o', e'⟩ := u0.there b o e (nx b)
    exact un.free b o' e' (u0.free b o e n (nx b)) (nx b)
  · by_cases hb : b ∈ X.fs
    · obtain ⟨o', e'⟩ := u0.there b o e (nx b)
      obtain ⟨o1, e1⟩ := un.there b o' e' (nx b)
      have hn := I.ok.frf b hb
      obtain ⟨sl, q1⟩ := u0.slot b o e hn hb (nx b)
      have hbs : b ∈ frs X.stack := by
        rw [O.stk]
        unfold L2.frs
        rw [List.filterMap_cons, O.fr]
        exact List.mem_cons_of_mem _ hb
      obtain ⟨sl2, q2⟩ := un.slot b _ q1 (u0.free b o e hn (nx b)) hbs (nx b)
      obtain ⟨_, o2, ho2, hd⟩ := I.ok.funs.mem hb
      rw [e] at ho2; cases ho2
      obtain ⟨sl3, q3⟩ := up b _ q2 hd
      exact ⟨_, q3⟩
    · obtain ⟨o1, _, e2⟩ := old b o e hb
      exact ⟨o1, hb2 _ _ e2⟩
  · obtain ⟨m1, e1⟩ := u0.tbls b ps e
    obtain ⟨m2, e2⟩ := un.tbls b _ e1
    exact ⟨m1 ++ m2, by rw [e2, Array.append_assoc]⟩
  · refine (hok b u e).stay (fun c v hc q => ?_) (fun _ q => q) fun _ _ q => q
    have : ∃ u', H' c = some u' := by
      rcases hc with z | z
      · exact ⟨u, by rw [z]; exact e⟩
      · exact ⟨_, z⟩
    obtain ⟨u', hu'⟩ := this
    obtain ⟨o1, q1, q2⟩ := trk c u' hu'
    rw [q] at q1; cases q1
    exact hb2 _ _ q2
  · rcases hc with ⟨o', e'⟩ | hc
    · obtain ⟨o1, _, e2⟩ := old b o' e' hb
      have := hb2 _ _ e2
      rw [e] at this; cases this
      exact e2
    · cases hq : H' b with
      | none => exact absurd hq hc
      | some u =>
        obtain ⟨o1, _, e2⟩ := trk b u hq
        have := hb2 _ _ e2
        rw [e] at this; cases this
        exact e2
end
section
variable {P : Program} {w : World} {K : PySem.W.Frag} {mg : Str → Option Value} {base : Heap} {N : List Str} {qual : Str} {scope : Scope} {f : Addr} {cd : Value} {A : Around} {outer : List Env} {s : Shared} {H : Hp} {E : XK}
abbrev cxE (P : Program) (w : World) (K : PySem.W.Frag) (mg : Str → Option Value) (base : Heap) (N : List Str) (qual : Str) (scope : Scope) (f : Addr) (cd : Value) (A : Around) (outer : List Env) (s : Shared) (H : Hp) (E : XK) : Cx :=
  cxOf (CXE P w) P w K mg base N qual scope f cd A outer s H E
theorem own_of : Own (cxE P w K mg base N qual scope f cd A outer s H E) := ⟨rfl, rfl, rfl⟩
/-- a raise: from the state at which the exception was made -/
theorem raise_out {pins : List (Addr × Obj)} {σ : St} {H1 : Hp} {s1 s2 : Shared} {ea : Addr} {cls : Value} {vs : List Value} (I : Inv (cxE P w K mg base N qual scope f cd A outer s H E) pins σ H1 s1) (hx : Heap.MadeExcOf s1.heap s2.heap ea cls vs) (hos : s2.os = s1.os) (hg : s2.gens = s1.gens) (q : E cls none H1) :
    (cxE P w K mg base N qual scope f cd A outer s H E).xe (.ref ea) s2 := by
  have hfr : (cxE P w K mg base N qual scope f cd A outer s H E).A.frames = some ((cxE P w K mg base N qual scope f cd A outer s H E).env :: outer) := I.ok.frames
  have hst := I.stack
  have hin : ∀ env ∈ (cxE P w K mg base N qual scope f cd A outer s H E).stack, ∀ b, env.frame = some b → b ∈ frs (cxE P w K mg base N qual scope f cd A outer s H E).stack := fun env he b hb => List.mem_filterMap.mpr ⟨env, he, hb⟩
  refine wpAny_leaves_madeW (base := PySem.W.hideAll s1.heap (frs (cxE P w K mg base N qual scope f cd A outer s H E).stack)) hfr rfl (fun b o e => PySem.W.of_hideAll _ e) (PySem.W.funFrames_hide hst hin) hx fun h2 t fl _ _ up => ?_
  have cov : Cov (frs (cxE P w K mg base N qual scope f cd A outer s H E).stack) s1.heap s1.heap H1 (PySem.W.hideAll s1.heap (frs (cxE P w K mg base N qual scope f cd A outer s H E).stack)) := fun b o e hb _ => PySem.W.hideAll_get _ e hb
  obtain ⟨z1, z2, z3⟩ := left_ok own_of I Un.refl I.hok cov ((Heap.UpToSlots.of_keeps hx.keeps).trans up) fl.1
  refine ⟨ea, cls, .ref t, H1, _, rfl, ?_, ?_, z1, z2, fl, z3, q⟩
  · exact hos.trans I.os
  · show AllBare s2.gens
    rw [hg]; exact I.bare
end
end L3
namespace L3
open PySem PySem.Spec L2
open PyProof.Rows hiding St
def vbm : List Value := [.type "ValueError", .type "Exception", .type "BaseException", .type "object"]
/-- the class's object, by the written part -/
theorem exc_in {K : PySem.W.Frag} {h : Heap} {C : Addr} {tb : List Value} {nid : String} (X : K.In h) (q : PySem.W.excIn K C tb nid = true) :
    ∃ bm N nm qn bs hd sn sub ab col dd k0 k1 k2 k3 k5 mN, h.get? C = some (excClassObj nm qn C N bs bm hd sn sub ab col dd k0 k1 k2 k3 k5 nid) ∧ h.Ns N mN ∧ mN "__init__" = none ∧ OwnTail h tb bm := by
  cases e : K.lookup C with
  | none => simp [PySem.W.excIn, e] at q
  | some ob =>
    unfold PySem.W.excIn at q
    rw [e] at q
    split at q
    · rename_i odd ocd osl he
      split at q
      · rename_i c' bm j0 j1 j2 j3 nn j5 h1 h2
        simp only [Bool.and_eq_true, beq_iff_eq, Bool.not_eq_true'] at q
        obtain ⟨⟨⟨⟨⟨q1, q2⟩, q3⟩, q4⟩, q5⟩, q6⟩ := q
        have ho := X _ _ e
        cases he
        subst q1; subst q2
        obtain ⟨nm, bs, mro, nsA, qn, hd, sn, sub, ab, col, del⟩ := ocd
        dsimp only at h1 q3 q5 q6
        subst h1; subst q3
        obtain ⟨osl⟩ := osl
        dsimp only at h2
        subst h2
        exact ⟨bm, nsA, nm, qn, bs, hd, sn, sub, ab, col, odd, j0, j1, j2, j3, j5, _, ho, .of_isNs (PySem.W.isNs_of_in X q5), PySem.W.nsMap_none_of_in X q5 q6, PySem.W.tail_of_in X q4⟩
      · cases q
    · cases q
def tRaise (C : Addr) (E : XK) (t : TA) : TS := fun _ σ H => t σ H fun vs H1 => vs.length ≤ 100 ∧ E (.ref C) none H1
section
variable {P : Program} {w : World} {K : PySem.W.Frag} {mg : Str → Option Value} {base : Heap} {N : List Str} {qual : Str} {scope : Scope} {f : Addr} {cd : Value} {A : Around} {outer : List Env} {s : Shared} {H : Hp} {E : XK}
theorem ps_raise {x : Str} {C : Addr} {e : Expr} {es : List Expr} {t : TA} {np cpos pos : Pos} (hg : Gl (cxE P w K mg base N qual scope f cd A outer s H E) x) (hm : mg x = some (.ref C)) (hq : PySem.W.excIn K C vbm "ValueError.__new__" = true)
    (ha : PA (cxE P w K mg base N qual scope f cd A outer s H E) (e :: es) t) (hd : (x == ("__debug__" : Str)) = false := by decide)
    (he : starEach (e :: es) (cxE P w K mg base N qual scope f cd A outer s H E).env = (false, eval e (cxE P w K mg base N qual scope f cd A outer s H E).env) :: starEach es (cxE P w K mg base N qual scope f cd A outer s H E).env := by rfl)
    (hpl : (backTo cpos (starEach es (cxE P w K mg base N qual scope f cd A outer s H E).env)).any (·.1) = false := by rfl) :
    PS (cxE P w K mg base N qual scope f cd A outer s H E) (.Raise (some (.Call (.Name x np) (e :: es) [] cpos)) none pos) (tRaise C E t) := by
  intro pins s1 σ H1 D I h
  obtain ⟨bm, Nn, nm, qn, bs, hdc, sn, sub, ab, col, dd, k0, k1, k2, k3, k5, mN, hC, hN, hni, T⟩ := exc_in (h := base) I.mod.kin hq
  refine wpAny_Raise_call_subT (C := C) (nm := nm) (q := qn) (N := Nn) (bs := bs) (bm := bm) (hdct := hdc) (sn := sn) (sub := sub) (ab := ab) (col := col) (dd := dd) (k0 := k0) (k1 := k1) (k2 := k2) (k3 := k3) (k5 := k5)
    PySem.F.excBase_ValueError (mN := mN) (T.hasType PySem.F.excBase_ValueError.hasBase) (I.ok.hd rfl) (by rw [he]; show (false || (backTo cpos (starEach es _)).any (·.1)) = false; rw [hpl]; rfl) hni (ld_glob I hg hm ⟨rfl, ?_⟩ hd)
  have hA := ha cpos pins s1 σ H1 _ I h
  rw [he] at hA ⊢
  refine Calls.evalArgs_plain (wpAny_mono hA (fun us s2 h2 => ?_) fun _ _ y => y)
  obtain ⟨vs, H2, I2, r2, hl, hE⟩ := h2
  refine ⟨rfl, ?_, I2.bk _ _ hC, hN.keeps I2.bk, T.keeps I2.bk, fun h3 ea hx => raise_out I2 hx rfl rfl hE⟩
  show us.length ≤ sizeLine
  rw [← r2.length]
  exact Nat.le_trans hl (Nat.le_of_lt (small1000 (by decide)))
end
def tFs (t : TA) : TE := fun σ H Q => t σ H fun _ H1 => ∀ x : Str, Q (.str x) H1
/-- the parts: written texts and ints -/
def PF (X : Cx) (es : List Expr) (t : TA) : Prop := ∀ (out : Str) (pins : List (Addr × Obj)) (s : Shared) (σ : St) (H : Hp) (Q : List V → Hp → Prop), out.length + 700 * es.length ≤ 100000 → Inv X pins σ H s → t σ H Q →
  wpAny (model X.prog X.w) X.A (joinParts out (evalEach es X.env)) (fun u s' => ∃ x H' vs, Inv X pins σ H' s' ∧ RelV (.str x) u ∧ Q vs H') X.xe s
section
variable {X : Cx}
theorem pf_nil : PF X [] tNil := by
  intro out pins s σ H Q hl I h
  have h2 : out.length ≤ sizeLine := Nat.le_trans (by simpa using hl) (by decide)
  exact joinParts_nil ⟨out, H, [], I.tok _, ⟨_, rfl⟩, h⟩ h2
theorem pf_str {x : Str} {j : Nat} {pc : Pos} {es : List Expr} {t : TA} (hx : x.length ≤ 600) (h : PF X es t) : PF X (.Constant (.str x) j pc :: es) t := by
  intro out pins s σ H Q hl I hw
  refine joinParts_cons (Calls.Constant_str ?_)
  rw [List.length_cons] at hl
  have hz : (out ++ x).length = out.length + x.length := strLen_append ..
  have h2 : (out ++ x).length ≤ sizeLine := Nat.le_trans (show (out ++ x).length ≤ 100000 by rw [hz]; (first | lia | omega)) (by decide)
  exact ⟨h2, h (out ++ x) pins _ σ H Q (by rw [hz]; (first | lia | omega)) (I.tok _) hw⟩
theorem int_len {i : Int} (hi : -(10 ^ 100) < i ∧ i < 10 ^ 100) : i.natAbs.log2 < 1920 := by
  have h : i.natAbs < 2 ^ 1920 := by
    have h1 : i.natAbs < 10 ^ 100 := by (first | lia | omega)
    have h2 : (10 : Nat) ^ 100 < 2 ^ 1920 := by decide +kernel
    (first | lia | omega)
  by_cases h0 : i.natAbs = 0
  · rw [h0]; decide
  · exact (Nat.log2_lt h0).mpr h
theorem pe_fstr {v1 v2 : Expr} {rest : List Expr} {t : TA} {pos : Pos} (h : PF X (v1 :: v2 :: rest) t) (hl : rest.length ≤ 50 := by decide) : PE X (.JoinedStr (v1 :: v2 :: rest) pos) (tFs t) := by
  intro pins s σ H Q I hw
  refine JoinedStr_many ?_
  refine thn (h Str.empty pins s σ H _ ?_ I hw) fun u s1 hu => ?_
  · show 0 + 700 * (rest.length + 1 + 1) ≤ 100000
    (first | lia | omega)
  · obtain ⟨x, H1, vs, I1, r1, q1⟩ := hu
    exact ⟨.str x, H1, I1, r1, q1 x⟩
end
def HasE (P : Program) (w : World) (K : PySem.W.Frag) (mg : Str → Option Value) (base : Heap) (k : Nat) (x : Str) (ps : List Str) (sp : Sp) : Prop :=
  ∃ f fd, FnOk P w K mg base (CXE P w) k f fd ps sp ∧ Binds K fd ps [] ∧ PySem.W.keepIn K (.ref f) = true ∧ mg x = some (.ref f)
section
variable {P : Program} {w : World} {K : PySem.W.Frag} {mg : Str → Option Value} {base : Heap}
theorem Def.okE {x : Str} {ps N : List Str} {st : Stmt} {k : Nat} {sp : Sp} (D : Def K mg x ps st) (S : FnScope N ps (defScope st)) (len : ∀ vs H Q E, sp vs H Q E → vs.length = ps.length)
    (hbody : ∀ (f : Addr) (cdv : Value) (A : Around) (outer : List Env) (s : Shared) (H : Hp) (vs : List V) (Q : VK) (E : XK), Room k (A.deeper (envOfC x (defScope st) s.heap.objs.size f cdv)) → sp vs H Q E →
      ∃ t, PSs (cxE P w K mg base N x (defScope st) f cdv A outer s H E) (defBody st) t ∧ t { nx := fun _ H' => Q .non H', rt := Q } (start N vs) H) : HasE P w K mg base (k + 1) x ps sp := by
  obtain ⟨f, fd, F, b, m⟩ := D
  refine ⟨f, fd, ?_, b, F.kp, m⟩
  obtain ⟨oc, od, kV, doc, pm, an, cdv, ct, osl, rfl, lk, hcd⟩ := F.ex
  exact fn_of lk hcd S len fun A outer s H vs Q E hr hsp => hbody f cdv A outer s H vs Q E hr hsp
theorem HasE.up {j k : Nat} {x : Str} {ps : List Str} {sp : Sp} (h : HasE P w K mg base j x ps sp) (hj : j ≤ k := by decide) : HasE P w K mg base k x ps sp := by
  obtain ⟨f, fd, F, b, kp, m⟩ := h
  exact ⟨f, fd, F.mono hj, b, kp, m⟩
end
end L3
namespace L3
open PySem PySem.Spec L2
open PyProof.Rows hiding St
/-- within an except suite -/
abbrev Cx.within (X : Cx) (ea : Addr) : Cx := { X with A := X.A.mark (some (.ref ea)), calm := false }
section
variable {X : Cx} {pins : List (Addr × Obj)} {σ : St} {H H' : Hp} {s : Shared} {ea : Addr}
theorem ok_within (o : X.Ok) : (Cx.within X ea).Ok :=
  ⟨o.mod, o.kind, o.glob, o.blt, o.above, o.inj, o.has, o.cab, fun z => absurd (show (false : Bool) = true from z) Bool.false_ne_true, o.frames, o.stk, o.exf, o.bs, o.bsz, o.noex, o.exfs, o.funs, o.frf⟩
theorem inv_within (I : Inv X pins σ H s) : Inv (Cx.within X ea) pins σ H s := ⟨ok_within I.ok, I.os, I.bare, I.base, I.loc, I.cell, I.free, I.freeC, I.pin, I.hok, I.len⟩
theorem inv_without (o : X.Ok) (I : Inv (Cx.within X ea) pins σ H s) : Inv X pins σ H s := ⟨o, I.os, I.bare, I.base, I.loc, I.cell, I.free, I.freeC, I.pin, I.hok, I.len⟩
theorem sp_without {D : Ends} {f : Flow} (o : X.Ok) (h : SP (Cx.within X ea) pins D f s) : SP X pins D f s := by
  cases f with
  | next => obtain ⟨σ', H', I, q⟩ := h; exact ⟨σ', H', inv_without o I, q⟩
  | brk => obtain ⟨σ', H', I, q⟩ := h; exact ⟨σ', H', inv_without o I, q⟩
  | cont => obtain ⟨σ', H', I, q⟩ := h; exact ⟨σ', H', inv_without o I, q⟩
  | ret u => obtain ⟨v, σ', H', I, r, q⟩ := h; exact ⟨v, σ', H', inv_without o I, r, q⟩
/-- an exception's notes are written: what stood there ahead of the call is as it was -/
theorem stay_ok {P : Program} {w : World} {l : List Env} {bs h0 hm h2 B : Heap} (fr : h0.FunFrames bs l) (fn : ∀ b ∈ frs l, H b = none) (un : Un (frs l) [] H H' h0 hm) (hok : HOk P w H' hm) (cov : Cov (frs l) h0 hm H' B) (up : hm.UpToSlots h2) (st : B.StaysIn h2) :
    Un (frs l) [] H H' h0 h2 ∧ HOk P w H' h2 ∧ Cov (frs l) h0 h2 H' B := by
  have nx : ∀ b : Addr, b ∉ ([] : List Addr) := fun b z => by simp at z
  have frN : ∀ b ∈ frs l, H' b = none := fun b hb => by
    obtain ⟨_, o, ho, _⟩ := fr.mem hb
    exact un.free b o ho (fn b hb) (nx b)
  have old : ∀ b o, h0.get? b = some o → b ∉ frs l → ∃ o1, hm.get? b = some o1 ∧ B.get? b = some o1 := fun b o e hb => by
    obtain ⟨o1, e1⟩ := un.there b o e (nx b)
    exact ⟨o1, e1, cov b o1 e1 hb (.inl ⟨o, e⟩)⟩
  have trk : ∀ b u, H' b = some u → ∃ o1, hm.get? b = some o1 ∧ B.get? b = some o1 := fun b u e => by
    obtain ⟨o1, e1⟩ := obj_there (hok b u e)
    refine ⟨o1, e1, cov b o1 e1 (fun hb => ?_) (.inr (by rw [e]; simp))⟩
    rw [frN b hb] at e; cases e
  have slt : ∀ b o, h0.get? b = some o → b ∈ frs l → ∃ sl, h2.get? b = some { o with slots := sl } := fun b o e hb => by
    obtain ⟨sl, e1⟩ := un.slot b o e (fn b hb) hb (nx b)
    obtain ⟨_, o', ho', hd⟩ := fr.mem hb
    rw [e] at ho'; cases ho'
    obtain ⟨sl2, e2⟩ := up b _ e1 hd
    exact ⟨sl2, e2⟩
  refine ⟨⟨fun b o e n hb _ => ?_, fun b o e n hb _ => slt b o e hb, un.free, fun b o e _ => ?_, un.tups, un.frzs, un.tbls⟩, fun b u e => ?_, fun b o e hb hc => ?_⟩
  · obtain ⟨o1, e1, e2⟩ := old b o e hb
    have e3 := un.keep b o e n hb (nx b)
    rw [e1] at e3; cases e3
    exact st _ _ e2
  · by_cases hb : b ∈ frs l
    · obtain ⟨sl, q⟩ := slt b o e hb
      exact ⟨_, q⟩
    · obtain ⟨o1, _, e2⟩ := old b o e hb
      exact ⟨o1, st _ _ e2⟩
  · refine (hok b u e).stay (fun c v hc q => ?_) (fun _ q => q) fun _ _ q => q
    have : ∃ u', H' c = some u' := by
      rcases hc with z | z
      · exact ⟨u, by rw [z]; exact e⟩
      · exact ⟨_, z⟩
    obtain ⟨u', hu'⟩ := this
    obtain ⟨o1, q1, q2⟩ := trk c u' hu'
    rw [q] at q1; cases q1
    exact st _ _ q2
  · rcases hc with ⟨o', e'⟩ | hc
    · obtain ⟨o1, _, e2⟩ := old b o' e' hb
      have := st _ _ e2
      rw [e] at this; cases this
      exact e2
    · cases hq : H' b with
      | none => exact absurd hq hc
      | some u =>
        obtain ⟨o1, _, e2⟩ := trk b u hq
        have := st _ _ e2
        rw [e] at this; cases this
        exact e2
end
abbrev XE := Value → St → Hp → Prop
def XP (X : Cx) (pins : List (Addr × Obj)) (E : XE) (e : Value) (s' : Shared) : Prop := ∃ (ea : Addr) (cls a0 : Value) (σ : St) (H0 H' : Hp) (s0 : Shared) (B : Heap), e = .ref ea ∧ Inv X pins σ H0 s0 ∧ s'.os = s0.os ∧ AllBare s'.gens ∧
  Un (frs X.stack) [] H0 H' s0.heap s'.heap ∧ HOk X.prog X.w H' s'.heap ∧ Heap.FlyingW B X.stack ea cls a0 s'.heap ∧ Cov (frs X.stack) s0.heap s'.heap H' B ∧ E cls σ H'
abbrev TEr := St → Hp → VK → XE → Prop
abbrev TSr := Ends → XE → St → Hp → Prop
def PEr (X : Cx) (e : Expr) (t : TEr) : Prop := ∀ (pins : List (Addr × Obj)) (s : Shared) (σ : St) (H : Hp) (Q : VK) (E : XE), Inv X pins σ H s → t σ H Q E → wpAny (model X.prog X.w) X.A (eval e X.env) (EP X pins σ Q) (XP X pins E) s
def PSr (X : Cx) (st : Stmt) (t : TSr) : Prop := ∀ (pins : List (Addr × Obj)) (s : Shared) (σ : St) (H : Hp) (D : Ends) (E : XE), Inv X pins σ H s → t D E σ H → wpAny (model X.prog X.w) X.A (exec st X.env) (SP X pins D) (XP X pins E) s
def PSsr (X : Cx) (st : List Stmt) (t : TSr) : Prop := ∀ (pins : List (Addr × Obj)) (s : Shared) (σ : St) (H : Hp) (D : Ends) (E : XE), Inv X pins σ H s → t D E σ H → wpAny (model X.prog X.w) X.A (execs st X.env) (SP X pins D) (XP X pins E) s
section
variable {X : Cx} {st : Stmt} {rest a b : List Stmt} {e c : Expr} {te : TEr} {t u : TSr} {tc : TT} {pos : Pos}
/-- what does not raise -/
theorem wp_nox {α : Type} {f : Sem α} {Q : α → Shared → Prop} {E : Value → Shared → Prop} {s : Shared} (hno : ∀ e s, X.xe e s → False) (h : wpAny (model X.prog X.w) X.A f Q X.xe s) : wpAny (model X.prog X.w) X.A f Q E s :=
  wpAny_mono h (fun _ _ z => z) fun e s z => (hno e s z).elim
def trCall (sp : Sp) (t : TA) : TEr := fun σ H Q E => t σ H fun vs H1 => sp (vs ++ []) H1 Q fun cls _ H2 => E cls σ H2
theorem pr_call {k j : Nat} {ps : List Str} {sp : Sp} {x : Str} {p : Pos} {es : List Expr} {ta : TA} (hno : ∀ e s, X.xe e s → False) (h : HasE X.prog X.w X.K X.mg X.base j x ps sp) (hr : Room k X.A) (hg : Gl X x) (ha : PA X (e :: es) ta) (hj : j ≤ k := by decide) (hdb : (x == ("__debug__" : Str)) = false := by decide)
    (he : starEach (e :: es) X.env = (false, eval e X.env) :: starEach es X.env := by rfl) (hpl : (backTo pos (starEach es X.env)).any (·.1) = false := by rfl) : PEr X (.Call (.Name x p) (e :: es) [] pos) (trCall sp ta) := by
  intro pins s σ H Q E I hw
  obtain ⟨f, fd, F, b, kp, m⟩ := h
  refine wpAny_Call_Name_kw (ld_glob I hg m ?_ hdb)
  refine PySem.W.callWith_K (h₀ := X.base) I.ok.mod.kin kp (wp_nox hno (thn (ha pos pins s σ H _ I hw) fun us s1 hu => ?_)) he hpl
  obtain ⟨vs, H1, I1, r1, q1⟩ := hu
  refine ⟨I1.kIn, ?_⟩
  have r2 : Vals (vs ++ []) (us ++ []) := r1.append .nil
  have hl : (us ++ []).length = ps.length := by rw [← r2.length]; exact F.len _ _ _ _ q1
  show wpAny _ _ (call (.ref f) ([] ++ us)) _ _ _
  rw [List.nil_append]
  refine wpAny_call (codeAny_mono (F.run X.A X.stack s1 H1 ⟨us, []⟩ (us ++ []) (vs ++ []) Q _ (hr.mono hj) I1.env0 (b s1 us I1.kIn hl) r2 q1) fun r s' hq => ?_)
  cases r with
  | error e =>
    obtain ⟨ea, cls, a0, H', B, rfl, os, bare, un, hok, fl, cov, qE⟩ := hq
    exact ⟨ea, cls, a0, σ, H1, H', s1, B, rfl, I1, os, bare, un, hok, fl, cov, qE⟩
  | ok fl =>
    cases fl with
    | ret u => exact I1.after hq
    | next => exact False.elim hq
    | brk => exact False.elim hq
    | cont => exact False.elim hq
def trDrop (t : TEr) : TSr := fun D E σ H => t σ H (fun _ H1 => D.nx σ H1) E
theorem psr_expr (he : PEr X e te) (hs : swapsWith e none pos.line X.env = pure false := by rfl) : PSr X (.Expr e pos) (trDrop te) := by
  intro pins s σ H D E I h
  exact wpAny_Expr_any (thn (he pins s σ H _ E I h) fun v s1 ⟨x, H1, I1, r1, q1⟩ => ⟨σ, H1, I1, q1⟩) I.quiet hs
theorem pssr_one (h : PSr X st t) : PSsr X [st] t := by
  intro pins s σ H D E I hw
  refine wpAny_execs_cons (thn (h pins s σ H D E I hw) fun f s1 q => ?_)
  cases f with
  | next => exact wpAny_execs_nil q
  | ret v => exact q
  | brk => exact q
  | cont => exact q
def tHand (K : PySem.W.Frag) : List (Value × TS) → Value → TS
  | [], _ => fun _ _ _ => False
  | (c, t) :: r, cls => fun D σ H => ∃ b, PySem.W.exmOne K cls c = some b ∧ if b = true then t D σ H else tHand K r cls D σ H
/-- the clauses' rules -/
inductive PHs (X : Cx) : List ExceptHandler → List (Value × TS) → Prop
  | nil : PHs X [] []
  | cons {x : Str} {np hp : Pos} {b0 : Stmt} {suite : List Stmt} {cv : Value} {tt : TS} {hs : List ExceptHandler} {L : List (Value × TS)} : Gl X x → X.mg x = some cv → (x == ("__debug__" : Str)) = false → (∀ ea, PSs (Cx.within X ea) (b0 :: suite) tt) → PHs X hs L →
      PHs X (.ExceptHandler (some (.Name x np)) none (b0 :: suite) hp :: hs) ((cv, tt) :: L)
theorem hand_by (hno : ∀ e s, X.xe e s → False) {pins : List (Addr × Obj)} {σ : St} {H0 H' : Hp} {s0 s : Shared} {B : Heap} {ea : Addr} {cls a0 : Value} {D : Ends} (I0 : Inv X pins σ H0 s0) (os : s.os = s0.os) (bare : AllBare s.gens)
    (un : Un (frs X.stack) [] H0 H' s0.heap s.heap) (hok : HOk X.prog X.w H' s.heap) (fl : Heap.FlyingW B X.stack ea cls a0 s.heap) (cov : Cov (frs X.stack) s0.heap s.heap H' B) :
    ∀ {hs : List ExceptHandler} {L : List (Value × TS)}, PHs X hs L → tHand X.K L cls D σ H' → wpAny (model X.prog X.w) X.A (handleBy (.ref ea) X.env hs) (SP X pins D) X.xe s
  | _, _, .nil, h => h.elim
  | _, _, .cons (x := x) (cv := cv) hg hm hd hsu hr, h => by
    obtain ⟨b, hb, h⟩ := h
    have I : Inv X pins σ H' s := I0.call' (ch := []) os un hok bare fun b z => absurd z (by simp)
    have IW : Inv (Cx.within X ea) pins σ H' s := inv_within I
    obtain ⟨oe, hoe, hoc⟩ := fl.there
    have LT : PySem.W.Looks (model X.prog X.w) s.heap (typeOf (.ref ea)) cls := hoc ▸ (PySem.W.Looks.ld hoe).andThen .now
    refine wpAny_handleBy_cons (codeAny_handlers_test (ld_glob (X := Cx.within X ea) IW hg hm ?_ hd)) (by intro q; cases q)
    refine (PySem.W.exm_one (K := X.K) I.kIn LT hb).here ?_
    cases b with
    | true =>
      rw [if_pos rfl] at h
      refine codeAny_handlers_suite (lands_againW fl fun h2 fl2 up => ?_)
      obtain ⟨z1, z2, _⟩ := stay_ok I0.stack I0.stkFree un hok cov up fl2.1
      have I2 : Inv (Cx.within X ea) pins σ H' { s with heap := h2 } := inv_within (I0.call' (s' := { s with heap := h2 }) (ch := []) os z1 z2 bare fun b z => absurd z (by simp))
      refine wpAny_mono (hsu ea pins _ σ H' D I2 h) (fun f s3 q => ?_) fun e s3 q => (hno e s3 q).elim
      exact sp_without I0.ok q
    | false =>
      rw [if_neg Bool.false_ne_true] at h
      exact hand_by hno I0 os bare un hok fl cov hr h
def tTry (K : PySem.W.Frag) (tb : TSr) (L : List (Value × TS)) : TS := fun D σ H => tb D (fun cls σ' H' => tHand K L cls D σ' H') σ H
theorem ps_try {h0 : ExceptHandler} {hs : List ExceptHandler} {body : List Stmt} {L : List (Value × TS)} (hno : ∀ e s, X.xe e s → False) (O : X.stack = X.env :: X.outer ∧ X.env.frame = some X.env.locals) (hb : PSsr X body t) (hh : PHs X (h0 :: hs) L) : PS X (.Try body (h0 :: hs) [] [] pos) (tTry X.K t L) := by
  intro pins s σ H D I h
  refine wpAny_Try_except (wpAny_mono (hb pins s σ H D _ I h) (fun f s1 q => ?_) fun e s1 q => ?_)
  · cases f with
    | next => exact wpAny_execs_nil q
    | ret v => exact q
    | brk => exact q
    | cont => exact q
  · obtain ⟨ea, cls, a0, σ1, H0, H1, s0, B, rfl, I0, os, bare, un, hok, fl, cov, qE⟩ := q
    have fl' := fl
    rw [O.1] at fl'
    have hfr : X.A.frames = some (X.env :: X.outer) := by rw [I0.ok.frames, O.1]
    refine wpAny_looks_onW hfr O.2 fl' fun h4 he4 up4 => wpAny_landsW he4 fun h5 fl5 up5 => ?_
    rw [← O.1] at fl5
    obtain ⟨z1, z2, z3⟩ := stay_ok I0.stack I0.stkFree un hok cov (up4.trans up5) fl5.1
    exact hand_by (s := { s1 with heap := h5 }) hno I0 os bare z1 z2 fl5 z3 hh qE
end
end L3
namespace L3
open PySem PySem.Spec L2
open PyProof.Rows hiding St
theorem noteFrame_env {x : Value} {u v : Env} (h : u.frame = v.frame) : noteFrame x u = noteFrame x v := by unfold noteFrame PySem.frameOf; rw [h]
/-- an exception that is on its way, its last station by fl -/
structure OnWay (B : Heap) (l : List Env) (ea : Addr) (cls a0 fl : Value) (h : Heap) : Prop where
  st : B.StaysIn h
  new : B.get? ea = none
  fr : h.FunFrames B l
  tr : h.TracedAtW B ea cls a0 fl
section
variable {M : Model} {A : Around} {E : Value → Shared → Prop} {s : Shared} {B : Heap} {l outer : List Env} {env : Env} {ea L : Addr} {cls a0 fl : Value} {Q : Unit → Shared → Prop}
theorem onway_flight (R : OnWay B l ea cls a0 fl s.heap) (fr : Option Addr) (k : ∀ g, OnWay B l ea cls a0 (fr.elim .none fun f => rawInt f) g → s.heap.UpToSlots g → Q () { s with heap := g }) : wpAny M A (setFlight (.ref ea) fr) Q E s := by
  obtain ⟨st, new, hl, oe, vs, T, oT, ts, he, hc, hd, h1, nT, neT, hT, dT, h3⟩ := R
  have lt3 : 3 < ts.size := (Array.getElem?_eq_some_iff.mp h3).1
  have same : ∀ b, b ≠ T → (s.heap.update T (Obj.mapFields (·.setIfInBounds 3 (fr.elim Value.none fun f => rawInt f)))).get? b = s.heap.get? b := fun b hb => Heap.get?_update_other _ _ (Ne.symm hb)
  have nrec : ∀ b o, s.heap.get? b = some o → (∀ ws, o.data ≠ .fields ws) → b ≠ T := fun b o hb hn z => by
    subst z; rw [hT] at hb; cases hb; exact hn ts dT
  unfold setFlight
  refine wpAny_bind (wpAny_field he hd h1 ?_)
  rw [if_pos (by simp : (Value.ref T != Value.none) = true)]
  refine wpAny_setField hT dT lt3 (k _ ⟨fun b o z => ?_, new, ?_, ?_⟩ fun b o z y => ⟨o.slots, ?_⟩)
  · exact (same b fun y => by subst y; rw [nT] at z; cases z).trans (st b o z)
  · exact hl.of_keeps fun b o z y => ⟨o, (same b (nrec b o z y)).trans z, rfl⟩
  · exact ⟨oe, vs, T, _, _, (same ea (Ne.symm neT)).trans he, hc, hd, h1, nT, neT, Heap.get?_update_self _ hT (Obj.isFreed_of_fields (Obj.data_mapFields dT _)), Obj.data_mapFields dT _, by simp [lt3]⟩
  · exact (same b (nrec b o z y)).trans z
theorem onway_pass {α : Type} {what : String} {Q : α → Shared → Prop} (R : OnWay B l ea cls a0 fl s.heap) (k : ∀ fl' g, OnWay B l ea cls a0 fl' g → s.heap.UpToSlots g → E (.ref ea) { s with heap := g }) : wpAny M A (PySem.passOn what (.ref ea) env : Sem α) Q E s := by
  obtain ⟨_, _, _, oe, vs, T, oT, ts, he, hc, hd, h1, _⟩ := id R
  unfold PySem.passOn
  refine wpAny_bind (wpAny_field he hd h1 ?_)
  rw [if_neg (by simp : ¬ ((Value.ref T == Value.none) = true))]
  first
    | exact wpAny_bind (wpAny_pure (wpAny_bind (onway_flight R _ fun g x y => wpAny_throw (k _ g x y))))
    | exact wpAny_bind (onway_flight R _ fun g x y => wpAny_throw (k _ g x y))
theorem onway_leave (hfr : A.frames = some (env :: outer)) (hf : env.frame = some L) (R : OnWay B (env :: outer) ea cls a0 fl s.heap) (k : ∀ g, Heap.FlyingW B outer ea cls a0 g → s.heap.UpToSlots g → Q () { s with heap := g }) : wpAny M A (leaving env (.ref ea)) Q E s := by
  obtain ⟨st, new, hl, oe, vs, T, oT, ts, he, ⟨hc, h0⟩, hd, h1, nT, neT, hT, dT, h3⟩ := R
  by_cases z : fl = rawInt L
  · subst z
    unfold leaving
    refine wpAny_bind (wpAny_noteFrame_againW hf (base := B) (cls := cls) (a0 := a0) ⟨oe, vs, T, oT, ts, he, ⟨hc, h0⟩, hd, h1, nT, neT, hT, dT, h3⟩ ?_)
    refine wpAny_landsW (base := B) (l := env :: outer) (L := L) (cls := cls) (a0 := a0) ⟨st, new, hl, oe, vs, T, oT, ts, he, ⟨hc, h0⟩, hd, h1, nT, neT, hT, dT, h3⟩ fun g y up => ?_
    obtain ⟨y1, y2, ⟨_, _, y3⟩, y4⟩ := y
    exact k g ⟨y1, y2, y3, y4⟩ up
  · subst hc
    have same : ∀ b, b ≠ T → (s.heap.update T (Obj.mapFields (·.setIfInBounds 3 Value.none))).get? b = s.heap.get? b := fun b hb => Heap.get?_update_other _ _ (Ne.symm hb)
    have nrec : ∀ b o, s.heap.get? b = some o → (∀ ws, o.data ≠ .fields ws) → b ≠ T := fun b o hb hn z => by
      subst z; rw [hT] at hb; cases hb; exact hn ts dT
    unfold leaving noteFrame
    simp only [hf]
    refine wpAny_bind (wpAny_bind (wpAny_field he hd h1 ?_))
    rw [if_pos (by simp : (Value.ref T != Value.none) = true)]
    refine wpAny_bind (wpAny_field hT dT h3 ?_)
    rw [if_neg (by simpa using z : ¬ ((fl == rawInt L) = true))]
    refine wpAny_bind (wpAny_setField hT dT (Array.getElem?_eq_some_iff.mp h3).1 ?_)
    refine wpAny_newEntryW hfr (hl.of_keeps fun b o e n => ⟨o, (same b (nrec b o e n)).trans e, rfl⟩) hf ((same ea (Ne.symm neT)).trans he) (fun b o e => (same b fun y => by subst y; rw [nT] at e; cases e).trans (st b o e)) new hd (Array.getElem?_eq_some_iff.mp h1).1 h0 fun g y => ?_
    obtain ⟨y1, ⟨_, _, y2⟩, y3, y4⟩ := y
    exact k g ⟨y1, new, y2, y3⟩ fun b o e n => y4 b o ((same b (nrec b o e n)).trans e) n
end
/-- behind a def's frame that is left, told from the def's entry -/
theorem left_ok0 {X : Cx} {pins : List (Addr × Obj)} {σ : St} {H' : Hp} {s : Shared} {h2 B : Heap} (O : Own X) (I : Inv X pins σ H' s) (cov : Cov (frs X.stack) X.s₀.heap s.heap H' B) (up : s.heap.UpToSlots h2) (st : B.StaysIn h2) :
    Un (frs X.outer) [] X.H₀ H' X.s₀.heap h2 ∧ HOk X.prog X.w H' h2 ∧ Cov (frs X.outer) X.s₀.heap h2 H' B := by
  have u0 := I.base
  rw [O.ex] at u0
  have nx : ∀ b : Addr, b ∉ ([] : List Addr) := fun b z => by simp at z
  have old : ∀ b o, X.s₀.heap.get? b = some o → b ∉ X.fs → ∃ o1, s.heap.get? b = some o1 ∧ B.get? b = some o1 := fun b o e hb => by
    obtain ⟨o', e'⟩ := u0.there b o e (nx b)
    exact ⟨o', e', cov b o' e' (O.low I e hb) (.inl ⟨o, e⟩)⟩
  have trk : ∀ b u, H' b = some u → ∃ o1, s.heap.get? b = some o1 ∧ B.get? b = some o1 := fun b u e => by
    obtain ⟨o1, e1⟩ := obj_there (I.hok b u e)
    refine ⟨o1, e1, cov b o1 e1 (fun hb => ?_) (.inr (by rw [e]; simp))⟩
    rw [I.stkFree b hb] at e; cases e
  refine ⟨⟨fun b o e n hb _ => ?_, fun b o e n hb _ => ?_, u0.free, fun b o e _ => ?_, u0.tups, u0.frzs, u0.tbls⟩, fun b u e => ?_, fun b o e hb hc => ?_⟩
  · obtain ⟨o1, e1, e2⟩ := old b o e hb
    have e3 := u0.keep b o e n hb (nx b)
    rw [e1] at e3; cases e3
    exact st _ _ e2
  · obtain ⟨sl, e1⟩ := u0.slot b o e n hb (nx b)
    obtain ⟨_, o', ho', hd⟩ := I.ok.funs.mem hb
    rw [e] at ho'; cases ho'
    obtain ⟨sl3, e3⟩ := up b _ e1 hd
    exact ⟨sl3, e3⟩
  · by_cases hb : b ∈ X.fs
    · obtain ⟨sl, q1⟩ := u0.slot b o e (I.ok.frf b hb) hb (nx b)
      obtain ⟨_, o2, ho2, hd⟩ := I.ok.funs.mem hb
      rw [e] at ho2; cases ho2
      obtain ⟨sl3, q3⟩ := up b _ q1 hd
      exact ⟨_, q3⟩
    · obtain ⟨o1, _, e2⟩ := old b o e hb
      exact ⟨o1, st _ _ e2⟩
  · refine (I.hok b u e).stay (fun c v hc q => ?_) (fun _ q => q) fun _ _ q => q
    have : ∃ u', H' c = some u' := by
      rcases hc with z | z
      · exact ⟨u, by rw [z]; exact e⟩
      · exact ⟨_, z⟩
    obtain ⟨u', hu'⟩ := this
    obtain ⟨o1, q1, q2⟩ := trk c u' hu'
    rw [q] at q1; cases q1
    exact st _ _ q2
  · rcases hc with ⟨o', e'⟩ | hc
    · obtain ⟨o1, _, e2⟩ := old b o' e' hb
      have := st _ _ e2
      rw [e] at this; cases this
      exact e2
    · cases hq : H' b with
      | none => exact absurd hq hc
      | some u =>
        obtain ⟨o1, _, e2⟩ := trk b u hq
        have := st _ _ e2
        rw [e] at this; cases this
        exact e2
section
variable {P : Program} {w : World} {K : PySem.W.Frag} {mg : Str → Option Value} {base : Heap} {N : List Str} {qual : Str} {sc0 : Scope} {f : Addr} {cd : Value} {A : Around} {outer : List Env} {sx : Shared} {Hx : Hp} {E : XK}
variable {N' : List Str} {ix : List (Option Nat)} {scope : Scope} {cl : List (Str × Addr)} {pins pl : List (Addr × Obj)} {σ : St} {H : Hp} {s : Shared} {fp : List Addr}
/-- what the element raises goes on out of the def -/
theorem comp_err {X : Cx} (hX : X = cxE P w K mg base N qual sc0 f cd A outer sx Hx E) {EB : Value → Hp → Prop} {Q : Value → Shared → Prop} {acc e : Value} {s' : Shared} (S : CompSc X N' ix scope cl) (I : Inv X pins σ H s) (hf : ∀ b ∈ fp, FpOk X pins H b) (hlt : ∀ b ∈ fp, b < s.heap.objs.size)
    (hq : ∀ cls H', EB cls H' → E cls none H') (x : XP (blk X N' scope cl pins fp s H) pl (fun cls _ H' => EB cls H') e s') :
    notedBy (model X.prog X.w) X.A (compEnvC scope cl (s.heap.push emptyL).objs.size X.env) (fun e s' => compPost (model X.prog X.w) X.A X.xe none Q acc (s.heap.push emptyL).objs.size (.error e) s') e s' := by
  subst hX
  obtain ⟨ea, cls, a0, σ1, H0, H', s0, B, rfl, J, os, bare, un, hok, fl, cov, q⟩ := x
  have eC : (s.heap.push emptyL).objs.size = s.heap.objs.size + 1 := Heap.size_push ..
  have nx : ∀ b : Addr, b ∉ ([] : List Addr) := fun b z => by simp at z
  have O : Own (cxE P w K mg base N qual sc0 f cd A outer sx Hx E) := own_of
  show wpAny _ _ (noteFrame (.ref ea) (compEnvC scope cl _ (cxE P w K mg base N qual sc0 f cd A outer sx Hx E).env)) _ _ s'
  rw [noteFrame_env (u := compEnvC scope cl (s.heap.push emptyL).objs.size (cxE P w K mg base N qual sc0 f cd A outer sx Hx E).env) (v := (cxE P w K mg base N qual sc0 f cd A outer sx Hx E).env) rfl]
  refine wpAny_looks_onW (outer := outer) I.ok.frames rfl fl fun h4 he4 up4 => ?_
  obtain ⟨z1, z2, z3⟩ := stay_ok J.stack J.stkFree un hok cov up4 he4.1
  have hCs : (s.heap.push emptyL).objs.size ∉ frs (cxE P w K mg base N qual sc0 f cd A outer sx Hx E).stack := fun hb => by
    obtain ⟨_, o, ho, _⟩ := J.ok.funs.mem hb
    exact Nat.lt_irrefl _ (Heap.lt_size (h := s.heap.push emptyL) ho)
  obtain ⟨m, hn, _⟩ := J.loc
  have hn' : s0.heap.Ns (s.heap.push emptyL).objs.size m := hn
  have fC0 : H0 (s.heap.push emptyL).objs.size = none := J.free
  obtain ⟨oC, _, _, hoC, _⟩ := id hn'
  have fC : H' (s.heap.push emptyL).objs.size = none := z1.free _ oC hoC fC0 (nx _)
  have bC : ∃ o, B.get? (s.heap.push emptyL).objs.size = some o := ⟨oC, z3 _ _ (z1.keep _ oC hoC fC0 hCs (nx _)) hCs (.inl ⟨_, hoC⟩)⟩
  refine ⟨m, hn'.at' fun o e => z1.keep _ o e fC0 hCs (nx _), fun h5 sb cenv hcenv => ?_⟩
  have nB : ∀ {b : Addr}, B.get? b = none → b ≠ (s.heap.push emptyL).objs.size := fun e z => by
    obtain ⟨o, ho⟩ := bC
    rw [z, ho] at e; cases e
  have stB : (PySem.W.hideAll B [(s.heap.push emptyL).objs.size]).StaysIn B := fun b o e => PySem.W.of_hideAll _ e
  have R5 : OnWay (PySem.W.hideAll B [(s.heap.push emptyL).objs.size]) ((cxE P w K mg base N qual sc0 f cd A outer sx Hx E).env :: outer) ea cls a0 (rawInt (cxE P w K mg base N qual sc0 f cd A outer sx Hx E).env.locals) h5 := by
    obtain ⟨f1, f2, f3, oe, vs, T, oT, ts, a1, a2, a3, a4, a5, a6, a7, a8⟩ := PySem.W.heldW_base stB he4
    obtain ⟨_, g2, g3, oe', vs', T', oT', ts', b1, b2, b3, b4, b5, b6, b7, b8⟩ := he4
    have nea := nB g2
    rw [a1] at b1; cases b1
    rw [a3] at b3; cases b3
    rw [a4] at b4; cases b4
    have nT := nB b5
    refine ⟨fun b o e => ?_, f2, ?_, oe, vs, T, oT, ts, (sb.2 _ nea).trans a1, a2, a3, a4, a5, a6, (sb.2 _ nT).trans a7, a8⟩
    · have hb : b ≠ (s.heap.push emptyL).objs.size := fun z => by
        rw [z, PySem.W.hideAll_none _ (List.mem_singleton.mpr rfl)] at e; cases e
      exact (sb.2 b hb).trans (f1 b o e)
    · have : ∀ (l : List Env), h4.FunFrames B l → h5.FunFrames (PySem.W.hideAll B [(s.heap.push emptyL).objs.size]) l := by
        intro l
        induction l with
        | nil => intro _; trivial
        | cons u r ih =>
          rintro ⟨c1, ⟨L, o, c2, c3, c4, c5⟩, c6⟩
          exact ⟨c1, ⟨L, o, c2, PySem.W.fresh_of_stays stB c3, (sb.2 _ (nB c3)).trans c4, c5⟩, ih c6⟩
      exact this _ g3
  have u5 : Un (frs (cxE P w K mg base N qual sc0 f cd A outer sx Hx E).stack) (s.heap.objs.size :: fp) H H' (s.heap.push emptyL) h4 := Un.trans J.base (z1.mono (fun _ y => y) fun _ y => absurd y (nx _))
  have nC : ∀ {b : Addr} {o : Obj}, (s.heap.push emptyL).get? b = some o → b ≠ (s.heap.push emptyL).objs.size := fun e => Nat.ne_of_lt (Heap.lt_size e)
  have hk5 : HOk P w H' h5 := fun b o e => by
    refine (z2 b o e).stay (fun c v hc q => (sb.2 c ?_).trans q) (fun _ q => q) fun _ _ q => q
    rintro rfl
    rcases hc with hc | hc
    · rw [← hc, fC] at e; cases e
    · rw [fC] at hc; cases hc
  have I3 : Inv (cxE P w K mg base N qual sc0 f cd A outer sx Hx E) pins σ H { s with heap := s.heap.push emptyL } := I.kept (t' := s.toks) fun b o e => Heap.get?_push_of_some _ e
  have hDf : FpOk (cxE P w K mg base N qual sc0 f cd A outer sx Hx E) pins H s.heap.objs.size := I.fpOk (Nat.le_refl _) (I.hok.fresh (Nat.le_refl _))
  have I5 : Inv (cxE P w K mg base N qual sc0 f cd A outer sx Hx E) pins σ H' { s' with heap := h5 } := by
    refine I3.call' (ch := s.heap.objs.size :: fp) (os.trans J.os) ⟨fun b o e n' hb hx => (sb.2 b (nC e)).trans (u5.keep b o e n' hb hx), fun b o e n' hb hx => ?_, u5.free, fun b o e hx => ?_, u5.tups, u5.frzs, u5.tbls⟩ hk5 bare ?_
    · obtain ⟨sl, q⟩ := u5.slot b o e n' hb hx
      exact ⟨sl, (sb.2 b (nC e)).trans q⟩
    · obtain ⟨o', q⟩ := u5.there b o e hx
      exact ⟨o', (sb.2 b (nC e)).trans q⟩
    · refine fp_step (H := H) fun b hb => ?_
      rcases List.mem_cons.mp hb with rfl | hb
      · exact hDf
      · exact hf b hb
  have cov5 : Cov (frs (cxE P w K mg base N qual sc0 f cd A outer sx Hx E).stack) sx.heap h5 H' (PySem.W.hideAll B [(s.heap.push emptyL).objs.size]) := fun b o e hb hc => by
    have lo : ∀ {o'}, sx.heap.get? b = some o' → b < s.heap.objs.size ∧ b ∉ s.heap.objs.size :: fp := fun e' => by
      have l1 : b < sx.heap.objs.size := Heap.lt_size e'
      have l2 : sx.heap.objs.size ≤ s.heap.objs.size := I.sz
      refine ⟨Nat.lt_of_lt_of_le l1 l2, fun z => ?_⟩
      rcases List.mem_cons.mp z with z | z
      · rw [z] at l1; exact absurd (Nat.lt_of_lt_of_le l1 l2) (Nat.lt_irrefl _)
      · rcases (hf b z).2.2.2.1 with y | y
        · exact nx _ y
        · exact absurd (Nat.lt_of_lt_of_le l1 y) (Nat.lt_irrefl _)
    have nb : b ≠ (s.heap.push emptyL).objs.size := fun z => by
      rcases hc with ⟨o', e'⟩ | hc
      · have := (lo e').1
        rw [z, eC] at this
        exact absurd (Nat.lt_trans (Nat.lt_succ_self _) this) (Nat.lt_irrefl _)
      · rw [z, fC] at hc; exact hc rfl
    have e4 : h4.get? b = some o := (sb.2 b nb).symm.trans e
    refine PySem.W.hideAll_get _ (z3 b o e4 hb ?_) (fun z => nb (List.mem_singleton.mp z))
    rcases hc with ⟨o', e'⟩ | hc
    · have u0 := I3.base
      rw [O.ex] at u0
      obtain ⟨o1, e1⟩ := u0.there b o' e' (nx b)
      obtain ⟨o2, e2⟩ := J.base.there b o1 e1 (lo e').2
      exact .inl ⟨o2, e2⟩
    · exact .inr hc
  refine onway_pass R5 fun fl' h6 R6 up6 => ?_
  show wpAny _ _ (leaving _ (.ref ea)) _ _ _
  refine onway_leave (outer := outer) I.ok.frames rfl R6 fun h7 fl7 up7 => ?_
  obtain ⟨y1, y2, y3⟩ := left_ok0 O I5 cov5 (up6.trans up7) fl7.1
  exact ⟨ea, cls, a0, H', _, rfl, I5.os, bare, y1, y2, fl7, y3, hq cls H' q⟩
end
def CompAtE (J : It) (ix : List (Option Nat)) (g : TG) (tt : TT) (te : TEr) (E : Value → Hp → Prop) (σ : St) (Q : VK) (H1 : Hp) : Prop := ∃ W : Nat → Nat → List V → Hp → Prop, (∃ m, W 0 m [] H1) ∧ ∀ i m ys H, W i m ys H →
  (J.stop i H ∧ ys.length ≤ sizeLine ∧ ∀ p, H p = none → Q (.ref p) (upd H p (.lst ys))) ∨
  (J.go i H ∧ ys.length ≤ sizeLine ∧ ∃ N : List V → Hp → Prop, (∀ zs H', N zs H' → ∃ m', m' < m ∧ W (i + 1) m' zs H') ∧
    ∀ x H', J.yld i H x H' → g x (slots ix σ) H' fun σ2 H2 => Ext (slots ix σ) σ2 ∧ tt σ2 H2 fun ok H3 => if ok = true then te σ2 H3 (fun y H4 => N (ys ++ [y]) H4) (fun cls _ H4 => E cls H4) else N ys H3)
def tCompE (wi : TI) (ix : List (Option Nat)) (g : TG) (tt : TT) (te : TEr) (E : XK) : TE := fun σ H Q => wi σ H fun J H1 => CompAtE J ix g tt te (fun cls H' => E cls none H') σ Q H1
section
variable {X : Cx} {N' : List Str} {ix : List (Option Nat)} {scope : Scope} {cl : List (Str × Addr)} {pins : List (Addr × Obj)} {σ : St} {H : Hp} {s : Shared} {fp : List Addr}
theorem thn0 {α : Type} {t : Sem α} {Q Q' : α → Shared → Prop} {M : Model} {A : Around} {E : Value → Shared → Prop} {s : Shared} (h : wpAny M A t Q (fun _ _ => False) s) (hQ : ∀ a s, Q a s → Q' a s) : wpAny M A t Q' E s := wpAny_mono h hQ fun _ _ x => x.elim
theorem comp_runE {elt tg iter : Expr} {ifs : List Expr} {pos : Pos} {g : TG} {tt : TT} {te : TEr} {J : It} {it : Addr} {tn : Nat → Heap → Prop} {s4 : Shared} {Q : VK} {R : Result → Shared → Prop} {EB : Value → Hp → Prop}
    (hc : X.calm = true) (S : CompSc X N' ix scope cl) (I : Inv X pins σ H s) (T : Turn X.prog X.w X.K tg J fp it tn) (hf : ∀ b ∈ fp, FpOk X pins H b) (hlt : ∀ b ∈ fp, b < s.heap.objs.size)
    (hg : PG (blk X N' scope cl pins fp s H) tg g) (hif : PIf (blk X N' scope cl pins fp s H) ifs tt) (he : PEr (blk X N' scope cl pins fp s H) elt te)
    (J0 : Inv (blk X N' scope cl pins fp s H) [] (slots ix σ) H s4) (st0 : tn 0 s4.heap) (hD0 : s4.heap.get? s.heap.objs.size = some { cls := .type "list", data := .seq ([] : List Value).toArray 0 })
    (W : Nat → Nat → List V → Hp → Prop) (m0 : Nat) (w0 : W 0 m0 [] H)
    (turn : ∀ i m ys H, W i m ys H → (J.stop i H ∧ ys.length ≤ sizeLine ∧ ∀ p, H p = none → Q (.ref p) (upd H p (.lst ys))) ∨
      (J.go i H ∧ ys.length ≤ sizeLine ∧ ∃ N : List V → Hp → Prop, (∀ zs H', N zs H' → ∃ m', m' < m ∧ W (i + 1) m' zs H') ∧
        ∀ x H', J.yld i H x H' → g x (slots ix σ) H' fun σ2 H2 => Ext (slots ix σ) σ2 ∧ tt σ2 H2 fun ok H3 => if ok = true then te σ2 H3 (fun y H4 => N (ys ++ [y]) H4) (fun cls _ H4 => EB cls H4) else N ys H3))
    (hE : ∀ pl e s', XP (blk X N' scope cl pins fp s H) pl (fun cls _ H' => EB cls H') e s' → notedBy (model X.prog X.w) X.A (compEnvC scope cl (s.heap.push emptyL).objs.size X.env) (fun e s' => R (.error e) s') e s')
    (fin : ∀ (ys : List V) (Hz : Hp) (its : List Value) (k : Nat) (pl : List (Addr × Obj)) (s2 : Shared), Inv (blk X N' scope cl pins fp s H) pl (slots ix σ) Hz s2 → s2.heap.get? s.heap.objs.size = some { cls := .type "list", data := .seq its.toArray k } → Hz s.heap.objs.size = none →
      Vals ys its → ys.length ≤ sizeLine → (∀ p, Hz p = none → Q (.ref p) (upd Hz p (.lst ys))) → R (.ok .next) s2) :
    codeAny (model X.prog X.w) X.A (.compLoop (.ListComp elt [⟨tg, iter, ifs, 0⟩] scope pos) 0 (.ref it) (.ref s.heap.objs.size) (compEnvC scope cl (s.heap.push emptyL).objs.size X.env)) R s4 := by
  refine comp_loop (EE := fun e s' => ∃ pl, XP (blk X N' scope cl pins fp s H) pl (fun cls _ H' => EB cls H') e s') (fun n s' => ∃ (i : Nat) (ys : List V) (Hz : Hp) (its : List Value) (k : Nat), Inv (blk X N' scope cl pins fp s H) [] (slots ix σ) Hz s' ∧ tn i s'.heap ∧ (∀ b ∈ fp, Hz b = none) ∧
    s'.heap.get? s.heap.objs.size = some { cls := .type "list", data := .seq its.toArray k } ∧ Hz s.heap.objs.size = none ∧ Vals ys its ∧ W i n ys Hz) (fun e s' z => by obtain ⟨pl, z⟩ := z; exact hE pl e s' z) ?_ m0
    ⟨0, [], H, [], 0, J0, st0, fun b hb => (hf b hb).1, hD0, I.hok.fresh (Nat.le_refl _), .nil, w0⟩
  rintro n s' ⟨i, ys, Hz, its, k, J1, st1, fz, hD, hz, rv, w1⟩
  have own := blk_own (fp := fp) (N' := N') S I hz
  have J2 : Inv (blk X N' scope cl pins fp s H) [(s.heap.objs.size, { cls := .type "list", data := .seq its.toArray k })] (slots ix σ) Hz s' := J1.pins_of fun p hp => by
    have e : p = (s.heap.objs.size, { cls := .type "list", data := .seq its.toArray k }) := by simpa using hp
    subst e
    exact ⟨hD, hz, own.2.1, own.2.2.1, fun v z => nomatch z⟩
  have atD : ∀ {pl : List (Addr × Obj)} {σ' : St} {H' : Hp} {s'' : Shared}, Inv (blk X N' scope cl pins fp s H) ([(s.heap.objs.size, { cls := .type "list", data := .seq its.toArray k })] ++ pl) σ' H' s'' →
      s''.heap.get? s.heap.objs.size = some { cls := .type "list", data := .seq its.toArray k } ∧ H' s.heap.objs.size = none := fun J' => by
    have q := J'.pin (s.heap.objs.size, { cls := .type "list", data := .seq its.toArray k }) (List.mem_append_right _ (List.mem_append_left _ (List.mem_cons_self ..)))
    exact ⟨q.1, q.2.1⟩
  have hlen := rv.length
  rcases turn i n ys Hz w1 with ⟨stop, hsz, q⟩ | ⟨go, hsz, N, hN, step⟩
  · refine thn0 (T.done (blk X N' scope cl pins fp s H) rfl rfl rfl hc i _ s' _ Hz (fun _ _ => False) J2 (blk_fp S I hf hlt fz) st1 stop) fun r s2 ⟨hr, J3⟩ => .inl ⟨hr, ?_⟩
    have d := atD (pl := []) J3
    exact fin ys Hz its k _ s2 J3 d.1 d.2 rv hsz q
  · refine thn0 (T.item (blk X N' scope cl pins fp s H) rfl rfl rfl hc i _ s' _ Hz (fun _ _ => False) J2 (blk_fp S I hf hlt fz) st1 go) fun r s1 ⟨u, hr, h4⟩ => .inr ⟨u, hr, thn0 h4 fun _ s5 ⟨x, H5, J5, r5, y5, st5, fr5⟩ => ?_⟩
    have J5' := J5.pinned (blk_fp S I hf hlt fr5) (T.obj _ _ st5)
    refine thn0 (hg _ s5 _ H5 x u _ J5' r5 (step x H5 y5)) fun _ s6 ⟨σ6, H6, J6, ext, q6⟩ => ?_
    refine thn0 (hif _ s6 σ6 H6 _ J6 q6) fun ok s7 ⟨H7, J7, q7⟩ => ?_
    have tnK : ∀ {σ' : St} {H' : Hp} {s'' : Shared}, Inv (blk X N' scope cl pins fp s H) ([(s.heap.objs.size, { cls := .type "list", data := .seq its.toArray k })] ++ pinsAt fp s5.heap) σ' H' s'' → tn (i + 1) s''.heap ∧ ∀ b ∈ fp, H' b = none := fun J' =>
      ⟨T.keep _ _ _ st5 fun b hb o e => (J'.pin (b, o) (List.mem_append_right _ (List.mem_append_right _ (mem_pinsAt hb e)))).1, fun b hb => by
        obtain ⟨o, e, _⟩ := T.obj _ _ st5 b hb
        exact (J'.pin (b, o) (List.mem_append_right _ (List.mem_append_right _ (mem_pinsAt hb e)))).2.1⟩
    cases ok with
    | false =>
      rw [if_neg Bool.false_ne_true] at q7
      obtain ⟨m', hm, w7⟩ := hN _ _ q7
      have d := atD J7
      have t := tnK J7
      refine .inr ⟨rfl, m', hm, i + 1, ys, H7, its, k, (J7.pins_of fun p hp => absurd hp (by simp)).weak ext.len.symm fun j v => ext.get j v, t.1, t.2, d.1, d.2, rv, w7⟩
    | true =>
      rw [if_pos rfl] at q7
      refine .inl ⟨rfl, wpAny_mono (he _ s7 σ6 H7 _ _ J7 q7) (fun xv s8 ⟨y, H8, J8, r8, q8⟩ => ?_) fun e s8 z => ⟨_, z⟩⟩
      obtain ⟨m', hm, w8⟩ := hN _ _ q8
      have d := atD J8
      have t := tnK J8
      have own8 := blk_own (fp := fp) (N' := N') S I d.2
      have J9 : Inv (blk X N' scope cl pins fp s H) [] (slots ix σ) H8 s8 := (J8.pins_of fun p hp => absurd hp (by simp)).weak ext.len.symm fun j v => ext.get j v
      refine wpAny_list_append_plain (hsz := by rw [List.size_toArray, ← hlen]; exact hsz) ⟨k, d.1⟩ fun h' hl' sb => ?_
      obtain ⟨k', hk'⟩ := hl'
      refine ⟨m', hm, i + 1, ys ++ [y], H8, its ++ [xv], k', J9.turned (t' := s8.toks) (fun b o hb e => (sb.2 b hb).trans e) own8.1 own8.2.1 own8.2.2.2.1 own8.2.2.2.2.1 own8.2.2.2.2.2,
        T.keep _ _ _ t.1 fun b hb o e => (sb.2 b (Nat.ne_of_lt (hlt b hb))).trans e, t.2, by simpa using hk', d.2, rv.append (.cons r8 .nil), w8⟩
end
section
variable {P : Program} {w : World} {K : PySem.W.Frag} {mg : Str → Option Value} {base : Heap} {N : List Str} {qual : Str} {sc0 : Scope} {f : Addr} {cd : Value} {A : Around} {outer : List Env} {sx : Shared} {Hx : Hp} {E : XK}
/-- a comprehension in a def that may raise -/
theorem pe_compE {X : Cx} (hX : X = cxE P w K mg base N qual sc0 f cd A outer sx Hx E) {N' : List Str} {ix : List (Option Nat)} {scope : Scope} {cl : List (Str × Addr)} {elt tg iter : Expr} {ifs : List Expr} {pos : Pos} {wi : TI} {g : TG} {tt : TT} {te : TEr}
    (hc : X.calm = true) (S : CompSc X N' ix scope cl) (hi : PI X tg iter wi)
    (body : ∀ (C : Addr) (ex : List Addr) (pn : List (Addr × Obj)) (s : Shared) (H : Hp), PG (cxComp X N' scope cl C ex pn s H) tg g ∧ PIf (cxComp X N' scope cl C ex pn s H) ifs tt ∧ PEr (cxComp X N' scope cl C ex pn s H) elt te)
    (hs : ∀ x, foldedSetIterable iter X.env x = pure x := by intro _; rfl) : PE X (.ListComp elt [⟨tg, iter, ifs, 0⟩] scope pos) (tCompE wi ix g tt te E) := by
  intro pins s σ H Q I h
  rw [eval_ListComp]
  refine wpAny_comprehension_free (use := none) rfl hs S.clos S.kind S.names (thn (hi pins s σ H _ I h) fun xv s1 h1 => thn h1 fun itv s2 h2 => ?_)
  obtain ⟨it, fp, tn, J, H2, rfl, I2, T, st2, f2, W, ⟨m0, w0⟩, turn⟩ := h2
  have hlt : ∀ b ∈ fp, b < s2.heap.objs.size := fun b hb => by obtain ⟨o, e, _⟩ := T.obj _ _ st2 b hb; exact Heap.lt_size e
  refine wpAny_newObj_type (wpAny_newFunctionEnv S.nocell (by intro y hy; simp at hy) (fun h₁ hns hsb => ?_) S.kind)
  dsimp only at hns hsb ⊢
  have hk1 : ∀ b o, (s2.heap.push emptyL).get? b = some o → h₁.get? b = some o := fun b o e => hsb.extBut b o (Nat.ne_of_lt (Heap.lt_size e)) (Heap.get?_push_of_some _ e)
  have J0 := comp_start (tk := s2.toks + ([] : List (Str × Value)).length) (N' := N') S I2 f2 hlt hns hk1
  obtain ⟨hg, hif, he⟩ := body (s2.heap.push emptyL).objs.size (s2.heap.objs.size :: fp) (X.pn ++ pins) { s2 with heap := s2.heap.push emptyL } H2
  have st4 : tn 0 h₁ := T.keep _ _ _ st2 fun b hb o e => hk1 b o (Heap.get?_push_of_some _ e)
  have hD4 : h₁.get? s2.heap.objs.size = some { cls := .type "list", data := .seq ([] : List Value).toArray 0 } := hk1 _ _ (Heap.get?_push_size _ rfl)
  have loop := comp_runE (iter := iter) (pos := pos) (Q := Q) (R := compPost (model X.prog X.w) X.A X.xe none (EP X pins σ Q) (.ref s2.heap.objs.size) (s2.heap.push emptyL).objs.size) hc S I2 T f2 hlt hg hif he J0 st4 hD4 W m0 w0 turn
    (fun pl e s' z => comp_err hX S I2 f2 hlt (fun _ _ y => y) z)
    fun ys Hz its k pl s5 J3 dD dz rv hsz q => by
      obtain ⟨m, hn, _⟩ := J3.loc
      exact ⟨m, hn, fun h2 sb => ⟨.ref _, _, comp_end I2 f2 rfl J3 sb dD dz rv hsz, rfl, q _ dz⟩⟩
  exact codeAny_compStart_list loop (T.self _ 0 _ _ _ st4 loop)
end
theorem compE_list {K : PySem.W.Frag} {a : Addr} {xs : List V} {ix : List (Option Nat)} {g : TG} {tt : TT} {te : TEr} {E : Value → Hp → Prop} {σ : St} {H : Hp} {Q : VK} (Pv : Nat → List V → Hp → Prop) (h0 : Pv 0 [] H) (hl : ∀ i ys H, Pv i ys H → SqL K H a xs)
    (hs : ∀ i x ys H, xs[i]? = some x → Pv i ys H → ys.length ≤ sizeLine ∧ g x (slots ix σ) H fun σ2 H2 => Ext (slots ix σ) σ2 ∧ tt σ2 H2 fun ok H3 => if ok = true then te σ2 H3 (fun y H4 => Pv (i + 1) (ys ++ [y]) H4) (fun cls _ H4 => E cls H4) else Pv (i + 1) ys H3)
    (hd : ∀ ys H, Pv xs.length ys H → ys.length ≤ sizeLine ∧ ∀ p, H p = none → Q (.ref p) (upd H p (.lst ys))) :
    CompAtE (Itl K a) ix g tt te E σ Q H := by
  refine ⟨fun i m ys H => m = xs.length - i ∧ i ≤ xs.length ∧ Pv i ys H, ⟨xs.length, by simp, Nat.zero_le _, h0⟩, ?_⟩
  rintro i m ys H ⟨rfl, hi, p⟩
  have q := hl i ys H p
  by_cases hlt : i < xs.length
  · have gx : xs[i]? = some xs[i] := List.getElem?_eq_getElem hlt
    obtain ⟨z, _⟩ := hs i _ ys H gx p
    refine .inr ⟨⟨xs, xs[i], q, gx⟩, z, Pv (i + 1), fun zs H' p' => ⟨xs.length - (i + 1), by (first | lia | omega), rfl, hlt, p'⟩, fun x H' y => ?_⟩
    obtain ⟨e, y⟩ := y
    subst e
    exact (hs i x ys _ (y xs q) p).2
  · obtain rfl : i = xs.length := by (first | lia | omega)
    obtain ⟨z, q'⟩ := hd ys H p
    exact .inl ⟨⟨xs, q, Nat.le_refl _⟩, z, q'⟩
end L3
namespace L3
open PySem PySem.Spec L2
open PyProof.Rows hiding St
section
variable {P : Program} {w : World} {K : PySem.W.Frag} {mg : Str → Option Value} {base : Heap} {N : List Str} {qual : Str} {sc0 : Scope} {f : Addr} {cd : Value} {A : Around} {outer : List Env} {sx : Shared} {Hx : Hp} {E : XK}
end
end L3
namespace L3
open PySem PySem.Spec L2
open PyProof.Rows hiding St
def Itx (x : Str) : It := ⟨fun i _ => i < x.cps.size, fun i H v H' => H' = H ∧ ∃ c, x.cps[i]? = some c ∧ v = .str ⟨#[c]⟩, fun i _ => x.cps.size = i⟩
theorem turn_str {P : Program} {w : World} {K : PySem.W.Frag} {tg : Expr} {ty : String} (hty : ty = "str_ascii_iterator" ∨ ty = "str_iterator") (it : Addr) (x : Str) (t : Tok) : Turn P w K tg (Itx x) [it] it (fun i h => h.IsStrIter it ty x t i) where
  mem := by simp
  obj := fun i h st b hb => by
    obtain rfl : b = it := by simpa using hb
    obtain ⟨o, e, c, d⟩ := st
    exact ⟨o, e, fun v z => by rw [d] at z; cases z⟩
  keep := fun i h h' st k => by
    obtain ⟨o, e, c, d⟩ := st
    exact ⟨o, k it (by simp) o e, c, d⟩
  item := by
    intro X hP hw hK hc i pins s σ H E I hf st hg
    subst hP hw hK
    obtain ⟨f0, f1, f2, f3, f4, f5⟩ := hf it (by simp)
    have hx : x.cps[i]? = some (x.cps[i]'hg) := Array.getElem?_eq_getElem hg
    have fin : ∀ h', h'.IsStrIter it ty x t (i + 1) → Heap.SameBut it s.heap h' → ∃ u, some (Value.str ⟨#[x.cps[i]'hg]⟩ s.toks) = some u ∧
        wpAny (model X.prog X.w) X.A (letOwnedTupleGo tg (.ref it) u) (fun _ s2 => ∃ y H', Inv X pins σ H' s2 ∧ RelV y u ∧ (Itx x).yld i H y H' ∧ s2.heap.IsStrIter it ty x t (i + 1) ∧ ∀ b ∈ [it], H' b = none) E { s with heap := h', toks := s.toks + 1 } := fun h' st' sb => by
      have I1 : Inv X pins σ H { s with heap := h', toks := s.toks + 1 } := I.turned (fun b o hb e => (sb.2 b hb).trans e) f0 f1 f3 f4 f5
      obtain ⟨o, eo, c, d⟩ := id st'
      refine ⟨_, rfl, go_of (s := { s with heap := h', toks := s.toks + 1 }) (n := ty) eo c d ?_ ⟨.str ⟨#[x.cps[i]'hg]⟩, H, I1, ⟨s.toks, rfl⟩, ⟨rfl, _, hx, rfl⟩, st', fun b hb => (hf b hb).1⟩⟩
      rcases hty with rfl | rfl <;> decide
    rcases hty with rfl | rfl
    · exact wpAny_pyNext_ascii_item st hx fin
    · exact wpAny_pyNext_wide_item st hx fin
  done := by
    intro X hP hw hK hc i pins s σ H E I hf st hg
    subst hP hw hK
    obtain ⟨f0, f1, f2, f3, f4, f5⟩ := hf it (by simp)
    have hx : x.cps[i]? = none := Array.getElem?_eq_none (Nat.le_of_eq hg)
    rcases hty with rfl | rfl
    · exact wpAny_pyNext_ascii_end (I.ok.hd hc) st hx fun h' eb => ⟨rfl, I.turned (t' := s.toks) (fun b o hb e => eb b o hb e) f0 f1 f3 f4 f5⟩
    · exact wpAny_pyNext_wide_end (I.ok.hd hc) st hx fun h' eb => ⟨rfl, I.turned (t' := s.toks) (fun b o hb e => eb b o hb e) f0 f1 f3 f4 f5⟩
  self := fun _ _ _ _ _ st h => by
    rcases hty with rfl | rfl
    · exact wpAny_pyIter_striter_ascii st h
    · exact wpAny_pyIter_striter_wide st h
section
variable {X : Cx} {tg : Expr}
def iStr (te : TE) : TI := fun σ H R => te σ H fun v H1 => ∃ x, v = .str x ∧ R (Itx x) H1
theorem pi_str {e : Expr} {te : TE} (he : PE X e te) : PI X tg e (iStr te) := by
  intro pins s σ H R I h
  refine thn (he pins s σ H _ I h) fun v s1 ⟨y, H1, I1, r1, q1⟩ => ?_
  obtain ⟨x, rfl, q⟩ := q1
  obtain ⟨t, rfl⟩ := r1
  refine wpAny_pyIter_strU ?_
  refine ⟨s1.heap.objs.size, [s1.heap.objs.size], _, _, H1, rfl, I1.kept (t' := s1.toks) fun b o e => Heap.get?_push_of_some _ e, turn_str (ty := strIterType x) ?_ _ x t, ⟨_, Heap.get?_push_size _ rfl, rfl, rfl⟩, fun b hb => ?_, q⟩
  · unfold strIterType
    split
    · exact .inl rfl
    · exact .inr rfl
  · obtain rfl : b = s1.heap.objs.size := by simpa using hb
    exact I1.fpOk (Nat.le_refl _) (I1.hok.fresh (Nat.le_refl _))
theorem comp_str {x : Str} {ix : List (Option Nat)} {g : TG} {tt : TT} {te : TE} {σ : St} {H : Hp} {Q : VK} (Pv : Nat → List V → Hp → Prop) (h0 : Pv 0 [] H)
    (hs : ∀ i c ys H, x.cps[i]? = some c → Pv i ys H → ys.length ≤ sizeLine ∧ g (.str ⟨#[c]⟩) (slots ix σ) H fun σ2 H2 => Ext (slots ix σ) σ2 ∧ tt σ2 H2 fun ok H3 => if ok = true then te σ2 H3 fun y H4 => Pv (i + 1) (ys ++ [y]) H4 else Pv (i + 1) ys H3)
    (hd : ∀ ys H, Pv x.cps.size ys H → ys.length ≤ sizeLine ∧ ∀ p, H p = none → Q (.ref p) (upd H p (.lst ys))) :
    CompAt (Itx x) ix g tt te σ Q H := by
  refine ⟨fun i m ys H => m = x.cps.size - i ∧ i ≤ x.cps.size ∧ Pv i ys H, ⟨x.cps.size, by simp, Nat.zero_le _, h0⟩, ?_⟩
  rintro i m ys H ⟨rfl, hi, p⟩
  by_cases hlt : i < x.cps.size
  · have gx : x.cps[i]? = some x.cps[i] := Array.getElem?_eq_getElem hlt
    obtain ⟨z, _⟩ := hs i _ ys H gx p
    refine .inr ⟨hlt, z, Pv (i + 1), fun zs H' p' => ⟨x.cps.size - (i + 1), by (first | lia | omega), rfl, hlt, p'⟩, fun v H' y => ?_⟩
    obtain ⟨rfl, c, hc, rfl⟩ := y
    exact (hs i c ys _ hc p).2
  · obtain rfl : i = x.cps.size := by (first | lia | omega)
    obtain ⟨z, q'⟩ := hd ys H p
    exact .inl ⟨rfl, z, q'⟩
theorem strs_of : ∀ {ys : List Str} {us : List Value}, Vals (ys.map V.str) us → StrsAre us ys
  | [], _, .nil => .nil
  | _ :: _, _, .cons ⟨t, e⟩ r => by subst e; exact .cons _ t (strs_of r)
inductive rJoin (K : PySem.W.Frag) : V → List V → Hp → VK → Prop
  | mk {x : V} {vs : List V} {H : Hp} {Q : VK} (y p) (ys : List Str) (z_0 : x = .str y) (z_1 : vs = [.ref p]) (z_2 : SqL K H p (ys.map V.str)) (z_3 : (ys.map (·.length)).sum + ys.length * y.length ≤ 16777216) (z_4 : Q (.str (Txt.join y ys)) H) : rJoin K x vs H Q
theorem mt_join : MtR X "str.join" (rJoin X.K) := by
  intro pins s σ H x vs v us Q I rx rv h
  obtain ⟨y, p, ys, rfl, rfl, hq, hz, q⟩ := h
  obtain ⟨t, rfl⟩ := rx
  obtain ⟨u, rfl, ru⟩ := vals1 rv
  cases ru
  obtain ⟨its, rv2, pl, _⟩ := I.list hq
  exact join_list pl.isList (by simpa using strs_of rv2) hz fun t' k => ⟨.str _, H, I.tok _, ⟨_, rfl⟩, q⟩
theorem mt_joinK (K : PySem.W.Frag) (hK : X.K = K) : MtR X "str.join" (rJoin K) := hK ▸ mt_join
theorem vals_numbered : ∀ (ys : List Str) (l : List (Str × Tok)), l.map (·.1) = ys → Vals (ys.map V.str) (strValues l)
  | [], [], _ => .nil
  | _ :: _, p :: l, e => by
    injection e with e1 e2
    subst e1
    exact .cons ⟨p.2, rfl⟩ (vals_numbered _ l e2)
  | [], _ :: _, e => by cases e
  | _ :: _, [], e => by cases e
inductive rSplit : V → List V → Hp → VK → Prop
  | mk {x : V} {vs : List V} {H : Hp} {Q : VK} (y z) (z_0 : x = .str y) (z_1 : vs = [.str z]) (z_2 : (z.length == 0) = false) (z_3 : y.length + 2 ≤ sizeLine) (z_4 : ∀ p, H p = none → Q (.ref p) (upd H p (.lst ((Txt.split y z).map V.str)))) : rSplit x vs H Q
theorem split_len (x y : Str) : (Txt.split x y).length ≤ x.length + 2 := by
  unfold Txt.split
  split
  · exact Nat.succ_le_succ (Nat.zero_le _)
  · split
    · exact Nat.succ_le_succ (Nat.zero_le _)
    · have e1 := StrLaws.occ_length_le x y 0 x.length (x.length + 1)
      rw [length_partsBetween]; (first | lia | omega)
theorem mt_split : MtR X "str.split" rSplit := by
  intro pins s σ H x vs v us Q I rx rv h
  obtain ⟨x, y, rfl, rfl, hy, hz, q⟩ := h
  obtain ⟨t, rfl⟩ := rx
  obtain ⟨u0, rfl, ru⟩ := vals1 rv
  obtain ⟨u, rfl⟩ := ru
  have hs := split_len x y
  have fin : ∀ (l : List (Str × Tok)) (k : Nat), l.map (·.1) = Txt.split x y → EP X pins σ Q (.ref s.heap.objs.size) { s with heap := s.heap.push { cls := .type "list", data := .seq (strValues l).toArray }, toks := k } := fun l k e =>
    ⟨.ref _, _, I.laid (a := s.heap.objs.size) (o := .lst ((Txt.split x y).map V.str)) (t' := k) (fun b o e => Heap.get?_push_of_some _ e) (Nat.le_refl _) ⟨by rw [List.length_map]; (first | lia | omega), strValues l, _, vals_numbered _ l e, Heap.get?_push_size _ rfl⟩, rfl, q _ I.fresh⟩
  have hn : (Builtin.Str.partsBetween x (Builtin.Str.occurrences x y 0 x.length (x.length + 1)) y.length).length ≤ sizeLine := by
    have e1 := StrLaws.occ_length_le x y 0 x.length (x.length + 1)
    rw [length_partsBetween]; (first | lia | omega)
  cases h1 : (decide (x.length < y.length) || decide (Builtin.Str.strKind x < Builtin.Str.strKind y)) with
  | true => exact call_meets F.slot_str_split (typeIs_str _ _ _) F.entry_str_split (F.args_str_split_2 _ _) (meets_str_split_cannot_occur x y t u h1) (fin [(x, t)] s.toks (if_pos h1).symm)
  | false =>
    cases hf : (Builtin.Str.occurrences x y 0 x.length (x.length + 1)).isEmpty with
    | true => exact call_meets F.slot_str_split (typeIs_str _ _ _) F.entry_str_split (F.args_str_split_2 _ _) (meets_str_split_not_found x y t u h1 hy hf) (fin [(x, t)] s.toks (by unfold Txt.split; rw [h1, hf]; rfl))
    | false =>
      refine call_meets F.slot_str_split (typeIs_str _ _ _) F.entry_str_split (F.args_str_split_2 _ _) (meets_str_split_sep x y t u h1 hy hf (by (first | lia | omega)) hn) ?_
      rw [strsFrom_eq]
      exact fin (numbered s.toks _) _ ((numbered_texts _ _).trans (by unfold Txt.split; rw [h1, hf]; rfl))
inductive rIntT : List V → Hp → VK → Prop
  | mk {vs : List V} {H : Hp} {Q : VK} (y n) (z_0 : vs = [.str y]) (z_1 : PySem.intText? y = some n) (z_2 : y.length ≤ 640) (z_3 : Q (.int n) H) : rIntT vs H Q
theorem call_int_text : CallR X (.type "int") rIntT := by
  intro pins s σ H xs us Q I r h
  obtain ⟨y, n, rfl, hn, hl, q⟩ := h
  obtain ⟨u, rfl, ru⟩ := vals1 r
  obtain ⟨t, rfl⟩ := ru
  exact PySem.W.KIN.call_text hn hl ⟨.int n, H, I.tok _, ⟨_, rfl⟩, q⟩
theorem bools_of : ∀ {bs : List Bool} {us : List Value}, Vals (bs.map V.bl) us → us = bs.map Value.bool
  | [], _, .nil => rfl
  | _ :: _, _, .cons e r => by rw [bools_of r, show _ = _ from e]; rfl
inductive rAll (K : PySem.W.Frag) : List V → Hp → VK → Prop
  | mk {vs : List V} {H : Hp} {Q : VK} (p) (bs : List Bool) (z_0 : vs = [.ref p]) (z_1 : SqL K H p (bs.map V.bl)) (z_2 : Q (.bl (bs.all id)) H) : rAll K vs H Q
theorem call_all (hc : X.calm = true) : CallR X (.builtin "all") (rAll X.K) := by
  intro pins s σ H xs us Q I r h
  obtain ⟨p, bs, rfl, hq, q⟩ := h
  obtain ⟨u, rfl, ru⟩ := vals1 r
  cases ru
  obtain ⟨its, rv, pl, _⟩ := I.list hq
  obtain rfl := bools_of rv
  have hl := pl.isList
  have hlt : p < s.heap.objs.size := by obtain ⟨_, e, _⟩ := hl; exact Heap.lt_size e
  refine call_all_walk (wpAny_pyIter_list hl ?_)
  refine ⟨s.heap.objs.size, [s.heap.objs.size, p], [s.heap.objs.size], (bs.map Value.bool).toArray.size, _, _, fun i => (bs[i]?).getD true, rfl, Walks.list (A := X.A.in1) (I.ok.hd hc) _ p (Nat.ne_of_lt hlt) (bs.map Value.bool).toArray,
    ⟨⟨_, Heap.get?_push_size _ rfl, rfl, rfl⟩, hl.push _⟩, fun i v s' Q' E' hP hQ => ?_, fun h' tk hk => ?_⟩
  · have hP' : (bs.map Value.bool)[i]? = some v := by simpa using hP
    rw [List.getElem?_map] at hP'
    cases e : bs[i]? with
    | none => rw [e] at hP'; cases hP'
    | some b =>
      have hQ2 : Q' ((bs[i]?).getD true) s' := hQ
      rw [e] at hP' hQ2
      cases hP'
      exact wpAny_truthy_bool hQ2
  · have e : ((List.range (bs.map Value.bool).toArray.size).all fun i => (bs[i]?).getD true) = bs.all id := by
      rw [Bool.eq_iff_iff, List.all_eq_true, List.all_eq_true]
      constructor
      · intro z b hb
        obtain ⟨i, hi, rfl⟩ := List.getElem_of_mem hb
        have := z i (List.mem_range.mpr (by simpa using hi))
        rw [List.getElem?_eq_getElem hi] at this
        exact this
      · intro z i hi
        have hi' : i < bs.length := by simpa using List.mem_range.mp hi
        rw [List.getElem?_eq_getElem hi']
        exact z _ (List.getElem_mem hi')
    rw [e]
    exact ⟨.bl _, H, I.kept fun b o z => hk b o (fun y => by rw [List.mem_singleton.mp y] at z; exact Nat.lt_irrefl _ (Heap.lt_size z)) (Heap.get?_push_of_some _ z), rfl, q⟩
theorem call_allK (K : PySem.W.Frag) (hK : X.K = K) (hc : X.calm = true) : CallR X (.builtin "all") (rAll K) := hK ▸ call_all hc
def tFr (te : TE) (t : TA) : TA := fun σ H Q => te σ H fun v H1 => ∃ x, v = .str x ∧ x.length ≤ 50 ∧ (∀ c ∈ x.cps.toList, c < 16 ^ 8) ∧ t σ H1 Q
theorem pf_repr {v : Expr} {te : TE} {pc : Pos} {es : List Expr} {t : TA} (he : PE X v te) (h : PF X es t) : PF X (.FormattedValue v 114 none pc :: es) (tFr te t) := by
  intro out pins s σ H Q hl I hw
  refine joinParts_cons (wpAny_FormattedValue_repr (thn (he pins s σ H _ I hw) fun u s1 hu => ?_))
  obtain ⟨v1, H1, I1, r1, x, rfl, hb, hc, q1⟩ := hu
  obtain ⟨tk, rfl⟩ := r1
  have ht := StrLaws.reprText_len x hc
  have hsz : (reprText x).length ≤ sizeLine := Nat.le_trans (show (reprText x).length ≤ 100000 by (first | lia | omega)) (by decide)
  refine wpAny_pyReprObj_str (formatField_str (fun t' k => ?_) hsz) hsz
  rw [List.length_cons] at hl
  have hz : (out ++ reprText x).length = out.length + (reprText x).length := strLen_append ..
  have h2 : (out ++ reprText x).length ≤ sizeLine := Nat.le_trans (show (out ++ reprText x).length ≤ 100000 by rw [hz]; (first | lia | omega)) (by decide)
  exact ⟨h2, h _ pins _ σ H1 Q (by rw [hz]; (first | lia | omega)) (I1.tok _) q1⟩
end
end L3
namespace Tx
open PySem
abbrev blank : Str := Str.ofString " "
abbrev gapS : Str := Str.ofString "?"
def numS (n : Nat) : Str := Str.ofString (toString ((n : Nat) : Int))
/-- the word of a sign or gap -/
def word : Option Int → Str
  | none => gapS
  | some n => Str.ofString (toString n)
theorem word_num {n : Int} (h : 0 ≤ n) : word (some n) = numS n.toNat := by
  unfold numS; rw [Int.toNat_of_nonneg h]; rfl
def isNum (p : Str) : Bool := match p.cps.toList with
  | [] => false
  | c :: r => !(c == 48 && !r.isEmpty) && (c :: r).all fun d => decide (48 ≤ d ∧ d ≤ 57)
theorem str_eq {a b : Str} (h : a.cps.toList = b.cps.toList) : a = b := by
  cases a with | mk x => cases b with | mk y => exact congrArg Str.mk (Array.toList_inj.mp h)
theorem num_list (n : Nat) : (numS n).cps.toList = (Nat.toDigits 10 n).map Char.toNat := PySem.W.KIN.signs_num n
theorem num_digits (n : Nat) : ∀ c ∈ (numS n).cps.toList, 48 ≤ c ∧ c ≤ 57 := by
  intro c hc
  rw [num_list] at hc
  obtain ⟨ch, hch, e⟩ := List.mem_map.mp hc
  have r := Nat.isDigit_of_mem_toDigits (by decide) (by decide) hch
  rw [← e]
  unfold Char.isDigit at r
  simp only [Bool.and_eq_true, decide_eq_true_eq] at r
  exact ⟨r.1, r.2⟩
theorem num_ne (n : Nat) : (numS n).cps.toList ≠ [] := by
  rw [num_list]
  intro e
  have h : 0 < (Nat.toDigits 10 n).length := Nat.length_toDigits_pos
  rw [List.map_eq_nil_iff.mp e] at h
  exact absurd h (by decide)
/-- a number's first sign is a nought only where it is nought -/
theorem num_head (n : Nat) : ∀ r, (numS n).cps.toList = 48 :: r → r = [] := by
  induction n using Nat.strongRecOn with
  | _ n ih =>
    intro r e
    rw [num_list] at e
    by_cases h : n < 10
    · rw [Nat.toDigits_of_lt_base h] at e
      injection e with _ e
      exact e.symm
    · have hm : n % 10 < 10 := Nat.mod_lt n (by decide)
      have t : Nat.toDigits 10 (n / 10) ++ Nat.toDigits 10 (n % 10) = Nat.toDigits 10 (10 * (n / 10) + n % 10) := Nat.toDigits_append_toDigits (by decide) (by (first | lia | omega)) hm
      rw [Nat.div_add_mod] at t
      rw [← t, List.map_append, ← num_list] at e
      obtain ⟨c, r', hc⟩ := List.exists_cons_of_ne_nil (num_ne (n / 10))
      rw [hc] at e
      injection e with e1 e2
      subst e1
      have z := ih (n / 10) (by (first | lia | omega)) r' hc
      subst z
      have hv := PySem.W.KIN.val_back (n / 10)
      rw [← num_list, hc] at hv
      have : n / 10 = 0 := hv.symm
      (first | lia | omega)
theorem num_is (n : Nat) : isNum (numS n) = true := by
  unfold isNum
  obtain ⟨c, r, hc⟩ := List.exists_cons_of_ne_nil (num_ne n)
  rw [hc]
  dsimp only
  rw [Bool.and_eq_true]
  constructor
  · by_cases z : c = 48
    · subst z
      rw [num_head n r hc]; rfl
    · rw [beq_false_of_ne z]; rfl
  · rw [← hc, List.all_eq_true]
    intro d hd
    exact decide_eq_true (num_digits n d hd)
theorem num_len {n : Nat} (h : n < 10 ^ 60) : (numS n).length ≤ 61 := by
  have e := PySem.int_text_length_le10 (a := (n : Int)) (k := 60) (by decide) (by (first | lia | omega))
  unfold numS
  rw [PySem.ofString_length]
  (first | lia | omega)
theorem num_reads {n : Nat} (h : n < 10 ^ 60) : PySem.intText? (numS n) = some (n : Int) := by
  have e := PySem.intText_digits (x := numS n) (num_digits n) (num_ne n) (Nat.le_trans (num_len h) (by decide))
  rw [num_list, PySem.W.KIN.val_back] at e
  exact e
theorem gap_list : gapS.cps.toList = [63] := by decide +kernel
theorem num_gap (n : Nat) : numS n ≠ gapS := fun e => by
  have h := num_digits n 63 (by rw [e, gap_list]; exact List.mem_singleton.mpr rfl)
  (first | lia | omega)
theorem free_num (n : Nat) : 32 ∉ (numS n).cps.toList := fun h => by
  have := num_digits n 32 h
  (first | lia | omega)
theorem free_gap : 32 ∉ gapS.cps.toList := by rw [gap_list]; decide
theorem join_cons2 (s a b : Str) (l : List Str) : (s.join (a :: b :: l)).cps.toList = a.cps.toList ++ s.cps.toList ++ (s.join (b :: l)).cps.toList := by
  show ((a ++ s) ++ s.join (b :: l)).cps.toList = _
  rw [Str.cps_append, Array.toList_append, Str.cps_append, Array.toList_append]
theorem cut_free {c : Nat} : ∀ {a b x y : List Nat}, c ∉ a → c ∉ b → a ++ c :: x = b ++ c :: y → a = b ∧ x = y
  | [], [], _, _, _, _, e => ⟨rfl, by injection e⟩
  | [], d :: b, _, _, _, hb, e => by
    injection e with e1 e2
    exact absurd (e1 ▸ List.mem_cons_self ..) hb
  | d :: a, [], _, _, ha, _, e => by
    injection e with e1 e2
    exact absurd (e1 ▸ List.mem_cons_self ..) ha
  | d :: a, f :: b, x, y, ha, hb, e => by
    injection e with e1 e2
    obtain ⟨z1, z2⟩ := cut_free (fun h => ha (List.mem_cons_of_mem _ h)) (fun h => hb (List.mem_cons_of_mem _ h)) e2
    exact ⟨by rw [e1, z1], z2⟩
theorem join_inj {c : Nat} : ∀ {ps qs : List Str}, ps ≠ [] → qs ≠ [] → (∀ p ∈ ps, c ∉ p.cps.toList) → (∀ p ∈ qs, c ∉ p.cps.toList) → (Str.join ⟨#[c]⟩ ps) = (Str.join ⟨#[c]⟩ qs) → ps = qs
  | [], _, h, _, _, _, _ => absurd rfl h
  | _, [], _, h, _, _, _ => absurd rfl h
  | [a], [b], _, _, _, _, e => by rw [show a = b from e]
  | [a], b :: b2 :: r, _, _, ha, _, e => by
    have e' := congrArg (fun s => s.cps.toList) e
    try dsimp only at e'
    rw [join_cons2] at e'
    refine absurd ?_ (ha a (List.mem_singleton.mpr rfl))
    have : (Str.join ⟨#[c]⟩ [a]).cps.toList = a.cps.toList := rfl
    rw [this] at e'
    rw [e']
    exact List.mem_append_left _ (List.mem_append_right _ (List.mem_singleton.mpr rfl))
  | a :: a2 :: r, [b], _, _, _, hb, e => by
    have e' := congrArg (fun s => s.cps.toList) e
    try dsimp only at e'
    rw [join_cons2] at e'
    refine absurd ?_ (hb b (List.mem_singleton.mpr rfl))
    have : (Str.join ⟨#[c]⟩ [b]).cps.toList = b.cps.toList := rfl
    rw [this] at e'
    rw [← e']
    exact List.mem_append_left _ (List.mem_append_right _ (List.mem_singleton.mpr rfl))
  | a :: a2 :: r, b :: b2 :: t, _, _, ha, hb, e => by
    have e' := congrArg (fun s => s.cps.toList) e
    try dsimp only at e'
    rw [join_cons2, join_cons2, List.append_assoc, List.append_assoc] at e'
    obtain ⟨z1, z2⟩ := cut_free (ha a (List.mem_cons_self ..)) (hb b (List.mem_cons_self ..)) e'
    have z3 := join_inj (ps := a2 :: r) (qs := b2 :: t) (by simp) (by simp) (fun p hp => ha p (List.mem_cons_of_mem _ hp)) (fun p hp => hb p (List.mem_cons_of_mem _ hp)) (str_eq z2)
    rw [str_eq z1, z3]
theorem blank_eq : blank = ⟨#[32]⟩ := by decide +kernel
theorem split_ne (x y : Str) : Txt.split x y ≠ [] := by
  unfold Txt.split
  split
  · simp
  · split
    · simp
    · rw [StrLaws.partsBetween_eq]
      obtain ⟨p, r, e⟩ := StrLaws.partsFrom_ne x y.length 0 (Builtin.Str.occurrences x y 0 x.length (x.length + 1))
      rw [e]; simp
/-- a line is split into its words -/
theorem split_join {ps : List Str} (h : ps ≠ []) (hf : ∀ p ∈ ps, 32 ∉ p.cps.toList) : Txt.split (Txt.join blank ps) blank = ps := by
  rw [blank_eq]
  refine join_inj (split_ne _ _) h (StrLaws.split_free _ 32) hf ?_
  rw [StrLaws.join_split]
  exact StrLaws.glued_eq_join _ _
theorem join_eq (ps : List Str) : (Txt.join blank ps) = Str.join blank ps := StrLaws.glued_eq_join _ _
/-- a blank among the words is two words of nothing -/
theorem join_blank : ∀ (a b : List Str), Str.join blank (a ++ blank :: b) = Str.join blank (a ++ Str.ofString "" :: Str.ofString "" :: b)
  | [], [] => by decide +kernel
  | [], b :: r => by
    refine str_eq ?_
    show (Str.join blank (blank :: b :: r)).cps.toList = (Str.join blank (Str.ofString "" :: Str.ofString "" :: b :: r)).cps.toList
    rw [join_cons2, join_cons2, join_cons2, blank_eq]
    rfl
  | a :: [], b => by
    have ih := join_blank [] b
    refine str_eq ?_
    show (Str.join blank (a :: blank :: b)).cps.toList = (Str.join blank (a :: Str.ofString "" :: Str.ofString "" :: b)).cps.toList
    rw [join_cons2, join_cons2]
    exact congrArg (fun s : Str => a.cps.toList ++ blank.cps.toList ++ s.cps.toList) ih
  | a :: a2 :: r, b => by
    have ih := join_blank (a2 :: r) b
    refine str_eq ?_
    show (Str.join blank (a :: a2 :: (r ++ blank :: b))).cps.toList = (Str.join blank (a :: a2 :: (r ++ Str.ofString "" :: Str.ofString "" :: b))).cps.toList
    rw [join_cons2, join_cons2]
    exact congrArg (fun s : Str => a.cps.toList ++ blank.cps.toList ++ s.cps.toList) ih
theorem join_nil_only : ∀ {ps : List Str}, Str.join blank ps = Str.ofString "" → ps = [] ∨ ps = [Str.ofString ""]
  | [], _ => .inl rfl
  | [a], e => .inr (by rw [show a = Str.ofString "" from e])
  | a :: b :: r, e => by
    have e' := congrArg (fun s => s.cps.toList.length) e
    try dsimp only at e'
    rw [join_cons2, List.length_append, List.length_append] at e'
    have h1 : blank.cps.toList.length = 1 := by decide +kernel
    have h2 : (Str.ofString "").cps.toList.length = 0 := by decide +kernel
    rw [h1, h2] at e'
    (first | lia | omega)
theorem sum_le {B : Nat} : ∀ (ps : List Str), (∀ p ∈ ps, p.length ≤ B) → (ps.map (·.length)).sum ≤ ps.length * B
  | [], _ => by simp
  | p :: r, h => by
    have ih := sum_le r fun q hq => h q (List.mem_cons_of_mem _ hq)
    have := h p (List.mem_cons_self ..)
    rw [List.map_cons, List.sum_cons, List.length_cons, Nat.add_mul]
    (first | lia | omega)
theorem join_len {B : Nat} {ps : List Str} (h : ∀ p ∈ ps, p.length ≤ B) : (Str.join blank ps).length ≤ ps.length * (B + 1) := by
  cases ps with
  | nil => exact Nat.zero_le _
  | cons a l =>
    rw [PyProof.Rows.len_join_cons]
    have := sum_le (a :: l) h
    have h1 : blank.length = 1 := by decide +kernel
    rw [h1, Nat.mul_add]
    simp only [List.length_cons] at this ⊢
    (first | lia | omega)
end Tx
namespace L3
open PySem PySem.Spec L2
open PyProof.Rows hiding St
/-- a test that tells whether A is so, and leaves all as it was -/
def Tells (t : TT) (σ : St) (H : Hp) (A : Prop) : Prop := ∀ Q : Bool → Hp → Prop, (∀ (b : Bool) (H1 : Hp), Same H H1 → (b = true ↔ A) → Q b H1) → t σ H Q
theorem Tells.and {tA tB : TT} {σ : St} {H : Hp} {A B : Prop} (ha : Tells tA σ H A) (hb : ∀ H1, Same H H1 → Tells tB σ H1 B) : Tells (tAnd tA tB) σ H (A ∧ B) := fun Q q => ha _ fun b H1 g e => by
  cases b with
  | true => exact iteT (hb H1 g _ fun c H2 g2 e2 => q c H2 (g.trans g2) ⟨fun z => ⟨e.mp rfl, e2.mp z⟩, fun z => e2.mpr z.2⟩)
  | false => exact iteF (q false H1 g ⟨fun z => (Bool.false_ne_true z).elim, fun z => (Bool.false_ne_true (e.mpr z.1)).elim⟩)
/-- if, by what the test tells -/
theorem if_by {tc : TT} {t u : TS} {D : Ends} {σ : St} {H : Hp} {A : Prop} (h : Tells tc σ H A) (h1 : A → ∀ H1, Same H H1 → t D σ H1) (h2 : ¬ A → ∀ H1, Same H H1 → u D σ H1) : tIfS tc t u D σ H :=
  h _ fun b H1 g e => by
    cases b with
    | true => exact iteT (h1 (e.mp rfl) H1 g)
    | false => exact iteF (h2 (fun z => Bool.false_ne_true (e.mpr z)) H1 g)
/-- .. as a row of several -/
theorem if_seq {tc : TT} {t u rest : TS} {D : Ends} {σ : St} {H : Hp} {A : Prop} (h : Tells tc σ H A) (h1 : A → ∀ H1, Same H H1 → t { D with nx := rest D } σ H1) (h2 : ¬ A → ∀ H1, Same H H1 → u { D with nx := rest D } σ H1) : tSeq (tIfS tc t u) rest D σ H :=
  if_by (t := t) (u := u) (D := { D with nx := rest D }) h h1 h2
theorem if_nx {tc : TT} {t u rest : TS} {D : Ends} {r : VK} {b c : St → Hp → Prop} {σ : St} {H : Hp} {A : Prop} (h : Tells tc σ H A) (h1 : A → ∀ H1, Same H H1 → t { D with nx := rest D } σ H1) (h2 : ¬ A → ∀ H1, Same H H1 → u { D with nx := rest D } σ H1) :
    tNext { nx := tSeq (tIfS tc t u) rest D, rt := r, bk := b, ct := c } σ H := if_seq h h1 h2
end L3
namespace Sy
open PySem PySem.Spec L2 L3
open PyProof.Rows hiding St
seal L2.PSs L2.PS L2.PE L2.PT L2.PW L2.PA L2.PG L2.PGs L2.PI L3.PIf
theorem small {n : Nat} (h : n ≤ 1000) : n ≤ sizeLine := Nat.le_of_lt (small1000 h)
theorem same_new {H : Hp} {p : Addr} (h : H p = none) (o : HO) : Same H (upd H p o) := fun b u q => by rw [upd_ne (ne_of_none q h)]; exact q
abbrev IL (K : PySem.W.Frag) (H : Hp) (a : Addr) (ns : List Int) : Prop := SqL K H a (ns.map V.int)
def Ok (p : Int) : Prop := SM.Fld p ∧ p ≤ 1000
theorem md {a p : Int} (h : 0 < p) : 0 ≤ a % p ∧ a % p < p := ⟨Int.emod_nonneg _ (by (first | lia | omega)), Int.emod_lt_of_pos _ h⟩
def top (i : Nat) : Stmt := PySem.Challenge.pw_straysign_k08_lines.main.body.getD i (.Pass ⟨0, 0, 0, 0⟩)
theorem get_int {xs : List Int} {i : Nat} {v : V} (h : (xs.map V.int)[i]? = some v) : ∃ a, v = .int a ∧ xs[i]? = some a := by
  rw [List.getElem?_map] at h
  cases e : xs[i]? with
  | none => rw [e] at h; cases h
  | some a => rw [e] at h; cases h; exact ⟨a, rfl, rfl⟩
theorem take_snoc {α : Type} {xs : List α} {i : Nat} {a : α} (h : xs[i]? = some a) : xs.take (i + 1) = xs.take i ++ [a] := by rw [List.take_add_one, h]; rfl
theorem ite_no {c A B : Prop} [Decidable c] (h : ¬ c) (b : B) : if decide c = true then A else B := by
  rw [decide_eq_false h]; exact iteF b
theorem ite_yes {c A B : Prop} [Decidable c] (h : c) (b : A) : if decide c = true then A else B := by
  rw [decide_eq_true h]; exact iteT b
theorem bt_list : bootBuiltins "list" = some (.type "list") := by decide +kernel
theorem cut_take {xs : List V} {n : Nat} (h : n ≤ xs.length) : cutV xs none (some (n : Int)) = xs.take n := by
  unfold cutV
  rw [HT.sIx_none, HT.sIx_nat, Nat.min_eq_left h, List.drop_zero, Nat.sub_zero]
end Sy
namespace L3
open PySem PySem.Spec L2
open PyProof.Rows hiding St
theorem Has.up {P : Program} {w : World} {K : PySem.W.Frag} {mg : Str → Option Value} {base : Heap} {j k : Nat} {x : Str} {ps : List Str} {sp : Sp} (h : Has P w K mg base j x ps sp) (hj : j ≤ k := by decide) : Has P w K mg base k x ps sp := by
  obtain ⟨f, fd, F, b, kp, m⟩ := h
  exact ⟨f, fd, F.mono hj, b, kp, m⟩
end L3
namespace L3
open PySem PySem.Spec L2
open PyProof.Rows hiding St
theorem sl_listK {X : Cx} (K : PySem.W.Frag) (hK : X.K = K) : SlR X (rSlL K) := by
  subst hK
  exact sl_list
end L3
namespace L3
open PySem PySem.Spec L2
open PyProof.Rows hiding St
/-- rows, with all ends out of sight -/
theorem hidD {t : TS} {D : Ends} {σ : St} {H : Hp} (h : ∀ D' : Ends, (∀ σ' H', D.nx σ' H' → D'.nx σ' H') → (∀ v H', D.rt v H' → D'.rt v H') → (∀ σ' H', D.bk σ' H' → D'.bk σ' H') → (∀ σ' H', D.ct σ' H' → D'.ct σ' H') → t D' σ H) : t D σ H :=
  h D (fun _ _ z => z) (fun _ _ z => z) (fun _ _ z => z) fun _ _ z => z
end L3
namespace L3
open PySem PySem.Spec L2
open PyProof.Rows hiding St
inductive rLen (K : PySem.W.Frag) : List V → Hp → VK → Prop
  | mk {xs : List V} {H : Hp} {Q : VK} (p : Addr) (ys : List V) (z_0 : xs = [.ref p]) (z_1 : SqL K H p ys ∨ SqT K H p ys) (z_2 : Q (.int ys.length) H) : rLen K xs H Q
inductive rIsin (K : PySem.W.Frag) : List V → Hp → VK → Prop
  | mk {xs : List V} {H : Hp} {Q : VK} (x : V) (n : String) (t : Value) (b : Bool) (z_0 : xs = [x, .ty n]) (z_1 : TyOf K H x t) (z_2 : PySem.W.kitOne K t (.type n) = some b) (z_3 : Q (.bl b) H) : rIsin K xs H Q
inductive rListOf (K : PySem.W.Frag) : List V → Hp → VK → Prop
  | mk {xs : List V} {H : Hp} {Q : VK} (p : Addr) (ys : List V) (z_0 : xs = [.ref p]) (z_1 : SqL K H p ys ∨ SqT K H p ys) (z_2 : ∀ l, H l = none → Q (.ref l) (upd H l (.lst ys))) : rListOf K xs H Q
section
variable {X : Cx}
theorem call_len_seqK (K : PySem.W.Frag) (hK : X.K = K) : CallR X (.builtin "len") (rLen K) := by
  subst hK
  intro pins s σ H xs us Q I r h
  obtain ⟨p, ys, e, hs, q⟩ := h
  exact call_len_seq pins s σ H xs us Q I r ⟨p, ys, e, hs, q⟩
theorem call_isinK (K : PySem.W.Frag) (hK : X.K = K) : CallR X (.builtin "isinstance") (rIsin K) := by
  subst hK
  intro pins s σ H xs us Q I r h
  obtain ⟨x, n, t, b, e, h1, h2, q⟩ := h
  exact call_isin pins s σ H xs us Q I r ⟨x, n, t, b, e, h1, h2, q⟩
theorem call_list_ofK (K : PySem.W.Frag) (hK : X.K = K) : CallR X (.type "list") (rListOf K) := by
  subst hK
  intro pins s σ H xs us Q I r h
  obtain ⟨p, ys, e, hs, q⟩ := h
  exact call_list_of pins s σ H xs us Q I r ⟨p, ys, e, hs, q⟩
theorem pi_listK {tg l : Expr} {tl : TE} (K : PySem.W.Frag) (hK : X.K = K) (hl : PE X l tl) : PI X tg l (iList K tl) := by
  subst hK
  exact pi_list hl
end
end L3
namespace Sy
open PySem PySem.Spec L2 L3
open PyProof.Rows hiding St
seal L2.PSs L2.PS L2.PE L2.PT L2.PW L2.PA L2.PG L2.PGs L2.PI L3.PIf
def vo : Option Int → V
  | none => .non
  | some i => .int i
abbrev OL (K : PySem.W.Frag) (H : Hp) (a : Addr) (os : List (Option Int)) : Prop := SqL K H a (os.map vo)
end Sy
namespace Sy
open PySem PySem.Spec L2 L3
open PyProof.Rows hiding St
seal L2.PSs L2.PS L2.PE L2.PT L2.PW L2.PA L2.PG L2.PGs L2.PI L3.PIf
theorem bt_int : bootBuiltins "int" = some (.type "int") := by decide +kernel
theorem bt_bool : bootBuiltins "bool" = some (.type "bool") := by decide +kernel
theorem bt_str : bootBuiltins "str" = some (.type "str") := by decide +kernel
theorem bt_tuple : bootBuiltins "tuple" = some (.type "tuple") := by decide +kernel
theorem bt_isin : bootBuiltins "isinstance" = some (.builtin "isinstance") := by decide +kernel
inductive spAt (K : PySem.W.Frag) : List V → Hp → VK → XK → Prop
  | mk {vs : List V} {H : Hp} {Q : VK} {E_ : XK} (a : Addr) (k : Int) (ns : List Int) (z_0 : vs = [.ref a, .int k]) (z_1 : IL K H a ns) (z_2 : 0 ≤ k) (z_3 : ∀ v : Int, Q (.int v) H) : spAt K vs H Q E_
section
variable {P : Program} {w : World} {K : PySem.W.Frag} {mg : Str → Option Value} {base : Heap}
theorem sc_at : FnScope ["_law_script", "_law_k"] ["_law_script", "_law_k"] (defScope (top 12)) := ⟨rfl, rfl, rfl, by decide +kernel, rfl, by decide +kernel, by decide +kernel⟩
theorem atI_map {ns : List Int} {k : Int} (h0 : 0 ≤ k) (h : k < (ns.length : Int)) : ∃ v : Int, atI (ns.map V.int) k = some (.int v) := by
  have hk : k.toNat < ns.length := by (first | lia | omega)
  refine ⟨ns[k.toNat], ?_⟩
  have q : atI (ns.map V.int) ((k.toNat : Nat) : Int) = some (.int ns[k.toNat]) := atI_nat (by rw [List.getElem?_map, List.getElem?_eq_getElem hk]; rfl)
  rwa [show ((k.toNat : Nat) : Int) = k by (first | lia | omega)] at q
theorem ok_at (D : Def K mg "_law_at" ["_law_script", "_law_k"] (top 12)) (hlen : mg "len" = none) : Has P w K mg base 1 "_law_at" ["_law_script", "_law_k"] (spAt K) := by
  refine D.ok sc_at (fun vs H Q E h => by obtain ⟨a, k, ns, rfl, _⟩ := h; rfl) fun f cdv A outer s H vs Q E hr h => ?_
  obtain ⟨a, k, ns, rfl, ha, h0, q⟩ := h
  have hz : (ns.map V.int).length = ns.length := List.length_map ..
  refine ⟨_, pss_cons (ps_if (pt_cmpR op_lt (pv 1) (pe_callB (call_len_seqK K rfl) rfl hlen PySem.boot_len (pa_cons (pv 0) pa_nil)) (nomark _)) (pss_one (ps_ret (pe_ix (ix_listK K rfl) (pv 0) (pv 1) (fun _ _ => rfl)))) pss_nil) (pss_one (ps_ret pe_int)), ?_⟩
  refine ⟨_, rfl, _, rfl, a, _, rfl, .inl ha, _, _, rfl, rfl, _, rfl, ite2 (fun c => ?_) (fun _ => q 0)⟩
  have hk : k < (((ns.map V.int).length : Nat) : Int) := of_decide_eq_true c
  rw [hz] at hk
  obtain ⟨v, hv⟩ := atI_map h0 hk
  exact ⟨_, rfl, _, rfl, a, _, _, _, rfl, rfl, ha, hv, q v⟩
end
end Sy
namespace Sy
open PySem PySem.Spec L2 L3
open PyProof.Rows hiding St
seal L2.PSs L2.PS L2.PE L2.PT L2.PW L2.PA L2.PG L2.PGs L2.PI L3.PIf
section
variable {P : Program} {w : World} {K : PySem.W.Frag} {mg : Str → Option Value} {base : Heap}
theorem same_upd {H H' : Hp} {r : Addr} {o : HO} (g : Same H H') (h : H r = none) : Same H (upd H' r o) := fun b u e => by rw [upd_ne (ne_of_none e h)]; exact g b u e
end
end Sy
namespace Sy
open PySem PySem.Spec L2 L3
open PyProof.Rows hiding St
seal L2.PSs L2.PS L2.PE L2.PT L2.PW L2.PA L2.PG L2.PGs L2.PI L3.PIf
mutual
/-- two values that read the same: the datum, how many parts, how deep -/
inductive Tw (H : Hp) : V → V → PyData → Nat → Nat → Prop
  | non (k : Nat) : Tw H .non .non .none 1 k
  | int (i : Int) (k : Nat) : Tw H (.int i) (.int i) (.int i) 1 k
  | lst {a b : Addr} {xs ys : List V} {ds : List PyData} {n k : Nat} : H a = some (.lst xs) → H b = some (.lst ys) → TwAll H xs ys ds n k → Tw H (.ref a) (.ref b) (.list ds) (n + 1) (k + 1)
inductive TwAll (H : Hp) : List V → List V → List PyData → Nat → Nat → Prop
  | nil (k : Nat) : TwAll H [] [] [] 0 k
  | cons {v w : V} {vs ws : List V} {d : PyData} {ds : List PyData} {n m k : Nat} : Tw H v w d n k → TwAll H vs ws ds m k → TwAll H (v :: vs) (w :: ws) (d :: ds) (n + m) k
end
section
variable {H H' : Hp}
theorem TwAll.dp {K : PySem.W.Frag} (g : Same H H') {vs ws : List V} {ds : List PyData} {n k : Nat} (q : TwAll H vs ws ds n k) : DpAll K H' ws ds :=
  TwAll.rec (motive_1 := fun _ w d _ _ _ => Dp K H' w d) (motive_2 := fun _ ws ds _ _ _ => DpAll K H' ws ds) (fun _ => .non) (fun i _ => .int i) (fun _ h _ ih => .lst (SqL.of (g _ _ h)) ih) (fun _ => .nil) (fun _ _ a b => .cons a b) q
theorem lay_lst {ds : List PyData} {k : Nat} (h : PyData.canLayAll0 ds = true ∧ PyData.depthAll ds ≤ k) : PyData.canLay0 (.list ds) = true ∧ PyData.depth (.list ds) ≤ k + 1 :=
  ⟨by simpa [PyData.canLay0] using h.1, by simp only [PyData.depth]; (first | lia | omega)⟩
theorem lay_cons {d : PyData} {ds : List PyData} {k : Nat} (h1 : PyData.canLay0 d = true ∧ PyData.depth d ≤ k) (h2 : PyData.canLayAll0 ds = true ∧ PyData.depthAll ds ≤ k) : PyData.canLayAll0 (d :: ds) = true ∧ PyData.depthAll (d :: ds) ≤ k := by
  refine ⟨by simp [PyData.canLayAll0, h1.1, h2.1], ?_⟩
  simp only [PyData.depthAll]
  (first | lia | omega)
theorem TwAll.lay {vs ws : List V} {ds : List PyData} {n k : Nat} (q : TwAll H vs ws ds n k) : PyData.canLayAll0 ds = true ∧ PyData.depthAll ds ≤ k :=
  TwAll.rec (motive_1 := fun _ _ d _ k _ => PyData.canLay0 d = true ∧ PyData.depth d ≤ k) (motive_2 := fun _ _ ds _ k _ => PyData.canLayAll0 ds = true ∧ PyData.depthAll ds ≤ k)
    (fun _ => ⟨rfl, by simp [PyData.depth]⟩) (fun _ _ => ⟨rfl, by simp [PyData.depth]⟩) (fun _ _ _ ih => lay_lst ih) (fun _ => ⟨rfl, by simp [PyData.depthAll]⟩) (fun _ _ a b => lay_cons a b) q
theorem mono_lst {a b : Addr} {xs ys : List V} {ds : List PyData} {n k : Nat} (h1 : H a = some (.lst xs)) (h2 : H b = some (.lst ys)) (ih : ∀ j, k ≤ j → TwAll H xs ys ds n j) : ∀ j, k + 1 ≤ j → Tw H (.ref a) (.ref b) (.list ds) (n + 1) j
  | 0, h => absurd h (Nat.not_succ_le_zero _)
  | j + 1, h => .lst h1 h2 (ih j (Nat.le_of_succ_le_succ h))
theorem TwAll.mono {vs ws : List V} {ds : List PyData} {n k : Nat} (q : TwAll H vs ws ds n k) {j : Nat} (h : k ≤ j) : TwAll H vs ws ds n j :=
  TwAll.rec (motive_1 := fun v w d n k _ => ∀ j, k ≤ j → Tw H v w d n j) (motive_2 := fun vs ws ds n k _ => ∀ j, k ≤ j → TwAll H vs ws ds n j)
    (fun _ j _ => .non j) (fun i _ j _ => .int i j) (fun h1 h2 _ ih => mono_lst h1 h2 ih) (fun _ j _ => .nil j) (fun _ _ a b j hj => .cons (a j hj) (b j hj)) q j h
theorem TwAll.len {vs ws : List V} {ds : List PyData} {n k : Nat} (q : TwAll H vs ws ds n k) : vs.length = ws.length ∧ ds.length = ws.length ∧ ws.length ≤ n :=
  TwAll.rec (motive_1 := fun _ _ _ n _ _ => 1 ≤ n) (motive_2 := fun vs ws ds n _ _ => vs.length = ws.length ∧ ds.length = ws.length ∧ ws.length ≤ n)
    (fun _ => Nat.le_refl _) (fun _ _ => Nat.le_refl _) (fun _ _ _ _ => Nat.succ_pos _) (fun _ => ⟨rfl, rfl, Nat.le_refl _⟩)
    (fun _ _ a h => ⟨by rw [List.length_cons, List.length_cons, h.1], by rw [List.length_cons, List.length_cons, h.2.1], by rw [List.length_cons]; have := h.2.2; (first | lia | omega)⟩) q
theorem TwAll.app {vs ws us zs : List V} {ds es : List PyData} {n m k : Nat} (q : TwAll H vs ws ds n k) (r : TwAll H us zs es m k) : TwAll H (vs ++ us) (ws ++ zs) (ds ++ es) (n + m) k :=
  TwAll.rec (motive_1 := fun _ _ _ _ _ _ => True) (motive_2 := fun vs ws ds n k _ => TwAll H us zs es m k → TwAll H (vs ++ us) (ws ++ zs) (ds ++ es) (n + m) k)
    (fun _ => trivial) (fun _ _ => trivial) (fun _ _ _ _ => trivial) (fun _ r => by rw [Nat.zero_add]; exact r) (fun a _ _ ih r => by rw [Nat.add_assoc]; exact .cons a (ih r)) q r
theorem snoc_cons {v w : V} {vs ws : List V} {d : PyData} {ds : List PyData} {n m k : Nat} (a : Tw H v w d n k) (b : TwAll H vs ws ds m k)
    (ih : vs ≠ [] → ∃ vs' ws' v w ds' d n' m', vs = vs' ++ [v] ∧ ws = ws' ++ [w] ∧ ds = ds' ++ [d] ∧ m = n' + m' ∧ TwAll H vs' ws' ds' n' k ∧ Tw H v w d m' k) :
    ∃ vs' ws' v' w' ds' d' n' m', v :: vs = vs' ++ [v'] ∧ w :: ws = ws' ++ [w'] ∧ d :: ds = ds' ++ [d'] ∧ n + m = n' + m' ∧ TwAll H vs' ws' ds' n' k ∧ Tw H v' w' d' m' k := by
  by_cases hv : vs = []
  · subst hv
    cases b
    exact ⟨[], [], v, w, [], d, 0, n, rfl, rfl, rfl, by (first | lia | omega), .nil k, a⟩
  · obtain ⟨vs', ws', v', w', ds', d', n', m', e1, e2, e3, e4, q1, q2⟩ := ih hv
    exact ⟨v :: vs', w :: ws', v', w', d :: ds', d', n + n', m', by rw [e1]; rfl, by rw [e2]; rfl, by rw [e3]; rfl, by (first | lia | omega), .cons a q1, q2⟩
theorem TwAll.snoc {vs ws : List V} {ds : List PyData} {n k : Nat} (q : TwAll H vs ws ds n k) : vs ≠ [] → ∃ vs' ws' v w ds' d n' m', vs = vs' ++ [v] ∧ ws = ws' ++ [w] ∧ ds = ds' ++ [d] ∧ n = n' + m' ∧ TwAll H vs' ws' ds' n' k ∧ Tw H v w d m' k :=
  TwAll.rec (motive_1 := fun _ _ _ _ _ _ => True) (motive_2 := fun vs ws ds n k _ => vs ≠ [] → ∃ vs' ws' v w ds' d n' m', vs = vs' ++ [v] ∧ ws = ws' ++ [w] ∧ ds = ds' ++ [d] ∧ n = n' + m' ∧ TwAll H vs' ws' ds' n' k ∧ Tw H v w d m' k)
    (fun _ => trivial) (fun _ _ => trivial) (fun _ _ _ _ => trivial) (fun _ h => absurd rfl h) (fun a b _ ih _ => snoc_cons a b ih) q
theorem TwAll.shaped {vs ws : List V} {ds : List PyData} {n k : Nat} (q : TwAll H vs ws ds n k) (hk : k ≤ 60) : SeqAt.shaped (.list ds) = true := by
  have h := q.lay
  unfold SeqAt.shaped
  have h1 : PyData.canLay0 (.list ds) = true := by simpa [PyData.canLay0] using h.1
  have h2 : PyData.depth (.list ds) ≤ 64 := by simp only [PyData.depth]; (first | lia | omega)
  rw [h1, decide_eq_true h2]; rfl
end
theorem eqv_nil (ds : List PyData) : PyData.eqv (.list ds) (.list []) = ds.isEmpty := by cases ds <;> simp [PyData.eqv, PyData.eqvAll]
/-- isinstance(x, (list, tuple)) -/
inductive rIsin2 (K : PySem.W.Frag) : List V → Hp → VK → Prop
  | mk {xs : List V} {H : Hp} {Q : VK} (x : V) (t : Value) (tp : Addr) (cs : List String) (b : Bool) (z_0 : xs = [x, .ref tp]) (z_1 : (x = .non ∧ t = Value.type "NoneType") ∨ (∃ i, x = .int i ∧ t = Value.type "int") ∨ ∃ a ys, x = .ref a ∧ H a = some (.lst ys) ∧ t = Value.type "list")
    (z_2 : H tp = some (.tup (List.map V.ty cs))) (z_3 : PySem.W.kitAny K t (cs.map Value.type) = some b) (z_4 : Q (.bl b) H) : rIsin2 K xs H Q
theorem call_isinT2 {X : Cx} (K : PySem.W.Frag) (hK : X.K = K) : CallR X (.builtin "isinstance") (rIsin2 K) := by
  subst hK
  intro pins s σ H xs us Q I r h
  obtain ⟨x, t, tp, cs, b, rfl, hx, ht, e, q⟩ := h
  obtain ⟨u, c, rfl, rx, rc⟩ := vals2 r
  cases rc
  obtain ⟨_, its, rv, ⟨o, e1, e2, n, e3⟩⟩ := (show ObjOk X.prog X.w H s.heap tp (.tup (cs.map V.ty)) from I.hok tp _ ht)
  have ei := vals_ty rv
  subst ei
  obtain ⟨oc, dd, dt, sl⟩ := o
  cases e2
  cases e3
  have fin : ∀ tk, EP X pins σ Q (.bool b) { s with toks := tk } := fun tk => ⟨.bl b, H, I.tok _, rfl, q⟩
  rcases hx with ⟨rfl, rfl⟩ | ⟨i, rfl, rfl⟩ | ⟨a, ys, rfl, ha, rfl⟩
  · cases rx
    exact PySem.W.kia_tup PySem.W.kitx_none I.kIn True.intro e1 e (fun z => nomatch z) fin
  · obtain ⟨tk, rfl⟩ := rx
    exact PySem.W.kia_tup PySem.W.kitx_int I.kIn True.intro e1 e (fun z => nomatch z) fin
  · cases rx
    obtain ⟨_, _, m, _, h1⟩ := (show ObjOk X.prog X.w H s.heap a (.lst ys) from I.hok a _ ha)
    exact PySem.W.kia_tup PySem.W.kitx_list I.kIn ⟨_, h1, rfl⟩ e1 e (fun z => nomatch z) fin
inductive spStaysD : List V → Hp → VK → XK → Prop
  | mk {vs : List V} {H : Hp} {Q : VK} {E_ : XK} (v w : V) (d : PyData) (n k : Nat) (z_0 : vs = [v, w]) (z_1 : Tw H v w d n k) (z_2 : n ≤ 1000) (z_3 : k ≤ 50) (z_4 : ∀ H', Same H H' → Q (.bl true) H') : spStaysD  vs H Q E_
section
variable {P : Program} {w : World} {K : PySem.W.Frag} {mg : Str → Option Value} {base : Heap}
theorem sc_stays : FnScope ["_law_handed", "_law_own", "_law_left", "_law_right", "_law_one", "_law_two"] ["_law_handed", "_law_own"] (defScope (top 13)) := ⟨rfl, rfl, rfl, by decide +kernel, rfl, by decide +kernel, by decide +kernel⟩
theorem kit_ll (K : PySem.W.Frag) : PySem.W.kitOne K (.type "list") (.type "list") = some true := by rfl
theorem kit_lt (K : PySem.W.Frag) : PySem.W.kitOne K (.type "list") (.type "tuple") = some false := by rfl
theorem kit_is (K : PySem.W.Frag) : PySem.W.kitOne K (.type "int") (.type "str") = some false := by rfl
theorem kit_ns (K : PySem.W.Frag) : PySem.W.kitOne K (.type "NoneType") (.type "str") = some false := by rfl
theorem kit_ii (K : PySem.W.Frag) : PySem.W.kitOne K (.type "int") (.type "int") = some true := by rfl
theorem kit_ib (K : PySem.W.Frag) : PySem.W.kitOne K (.type "int") (.type "bool") = some false := by rfl
theorem kit_al (K : PySem.W.Frag) : PySem.W.kitAny K (.type "list") (["list", "tuple"].map Value.type) = some true := by rfl
theorem kit_ai (K : PySem.W.Frag) : PySem.W.kitAny K (.type "int") (["list", "tuple"].map Value.type) = some false := by rfl
theorem kit_an (K : PySem.W.Frag) : PySem.W.kitAny K (.type "NoneType") (["list", "tuple"].map Value.type) = some false := by rfl
theorem last_v {vs : List V} {v : V} : (vs ++ [v])[(vs ++ [v]).length - 1]? = some v := by simp
theorem drop_v {vs : List V} {v : V} : (vs ++ [v]).dropLast = vs := by simp
set_option maxHeartbeats 4000000 in
theorem ok_staysD (D : Def K mg "_law_stays_so" ["_law_handed", "_law_own"] (top 13)) (hi : mg "isinstance" = none) (hlist : mg "list" = none) (htup : mg "tuple" = none) (hlen : mg "len" = none) (hstr : mg "str" = none) (hint : mg "int" = none) (hbool : mg "bool" = none) :
    Has P w K mg base 1 "_law_stays_so" ["_law_handed", "_law_own"] spStaysD := by
  refine D.ok sc_stays (fun vs H Q E h => by obtain ⟨v, w, d, n, k, rfl, _⟩ := h; rfl) fun f cdv A outer s H vs Q E hr h => ?_
  obtain ⟨va, vb, d0, n0, k, rfl, tw, hn, hk, q⟩ := h
  refine ⟨_, pss_cons (ps_set (i := 2) sc_stays.nd rfl (Or.inl rfl) (pe_lst (pa_cons (pv 0) pa_nil))) (pss_cons (ps_set (i := 3) sc_stays.nd rfl (Or.inl rfl) (pe_lst (pa_cons (pv 1) pa_nil)))
    (pss_cons (ps_while PassesOwn.never (pt_cmpR (op_neD hr.units) (pv 3) (pe_lst pa_nil) (nomark _))
      (pss_cons (ps_set (i := 4) sc_stays.nd rfl (Or.inl rfl) (pe_bm0 PySem.F.plainAttrs_list PySem.F.slot_list_pop PySem.F.type_list_pop mt_pop (pv 2)))
      (pss_cons (ps_set (i := 5) sc_stays.nd rfl (Or.inl rfl) (pe_bm0 PySem.F.plainAttrs_list PySem.F.slot_list_pop PySem.F.type_list_pop mt_pop (pv 3)))
      (pss_one (ps_if (pt_val (pe_callB (call_isinT2 K rfl) rfl hi bt_isin (pa_cons (pv 5) (pa_cons (pe_tup (pa_cons (pe_bltn (v := .ty "list") (by exact rfl) (by exact hlist) bt_list (by exact rfl)) (pa_cons (pe_bltn (v := .ty "tuple") (by exact rfl) (by exact htup) bt_tuple (by exact rfl)) pa_nil))) pa_nil))))
        (pss_cons (ps_if (pt_cmpR op_ne (pe_callB (call_isinK K rfl) rfl hi bt_isin (pa_cons (pv 4) (pa_cons (pe_bltn (v := .ty "list") (by exact rfl) (by exact hlist) bt_list (by exact rfl)) pa_nil))) (pe_callB (call_isinK K rfl) rfl hi bt_isin (pa_cons (pv 5) (pa_cons (pe_bltn (v := .ty "list") (by exact rfl) (by exact hlist) bt_list (by exact rfl)) pa_nil))) (nomark _)) pss_never pss_nil)
        (pss_cons (ps_if (ptw (pw_or (pt_cmpR op_ne (pe_callB (call_isinK K rfl) rfl hi bt_isin (pa_cons (pv 4) (pa_cons (pe_bltn (v := .ty "tuple") (by exact rfl) (by exact htup) bt_tuple (by exact rfl)) pa_nil))) (pe_callB (call_isinK K rfl) rfl hi bt_isin (pa_cons (pv 5) (pa_cons (pe_bltn (v := .ty "tuple") (by exact rfl) (by exact htup) bt_tuple (by exact rfl)) pa_nil))) (nomark _))
            (pw_or1 (pt_cmpR op_ne (pe_callB (call_len_seqK K rfl) rfl hlen PySem.boot_len (pa_cons (pv 4) pa_nil)) (pe_callB (call_len_seqK K rfl) rfl hlen PySem.boot_len (pa_cons (pv 5) pa_nil)) (nomark _))))) pss_never pss_nil)
        (pss_cons (ps_expr (pe_bm PySem.F.plainAttrs_list PySem.F.slot_list_extend PySem.F.type_list_extend mt_extend (pv 2) (pa_cons (pe_callTy (call_list_ofK K rfl) rfl hlist bt_list (pa_cons (pv 4) pa_nil)) pa_nil)))
        (pss_one (ps_expr (pe_bm PySem.F.plainAttrs_list PySem.F.slot_list_extend PySem.F.type_list_extend mt_extend (pv 3) (pa_cons (pe_callTy (call_list_ofK K rfl) rfl hlist bt_list (pa_cons (pv 5) pa_nil)) pa_nil)))))))
        (pss_one (ps_if (pt_val (pe_callB (call_isinK K rfl) rfl hi bt_isin (pa_cons (pv 5) (pa_cons (pe_bltn (v := .ty "str") (by exact rfl) (by exact hstr) bt_str (by exact rfl)) pa_nil)))) pss_never
          (pss_one (ps_if (pt_cmp (pc_isN (pv 5))) (pss_one (ps_if (pt_cmp (pc_notN (pv 4))) pss_never pss_nil))
          (pss_one (ps_if (ptw (pw_or (pt_not (pt_val (pe_callB (call_isinK K rfl) rfl hi bt_isin (pa_cons (pv 4) (pa_cons (pe_bltn (v := .ty "int") (by exact rfl) (by exact hint) bt_int (by exact rfl)) pa_nil)))))
            (pw_or (pt_val (pe_callB (call_isinK K rfl) rfl hi bt_isin (pa_cons (pv 4) (pa_cons (pe_bltn (v := .ty "bool") (by exact rfl) (by exact hbool) bt_bool (by exact rfl)) pa_nil)))) (pw_or1 (pt_cmpR op_ne (pv 4) (pv 5) (nomark _)))))) pss_never pss_nil)))))))))))
    (pss_one (ps_ret pe_bl)))), ?_⟩
  refine ⟨_, rfl, by show 1 ≤ sizeLine; decide, fun l hl => ⟨_, rfl, by show 1 ≤ sizeLine; decide, fun r hr' => ?_⟩⟩
  have nlr : l ≠ r := ne_of_none (H := upd H l (.lst [va])) upd_same hr'
  have hrn : H r = none := (same_new hl _).free hr'
  have g0 : Same H (upd (upd H l (.lst [va])) r (.lst [vb])) := (same_new hl _).trans (same_new hr' _)
  have el : (upd (upd H l (.lst [va])) r (.lst [vb])) l = some (.lst [va]) := (same_new hr' _) _ _ upd_same
  have er : (upd (upd H l (.lst [va])) r (.lst [vb])) r = some (.lst [vb]) := upd_same
  generalize upd (upd H l (.lst [va])) r (.lst [vb]) = H0 at g0 el er ⊢
  refine ⟨fun m σ H' => Same H H' ∧ ∃ (o4 o5 : Option V) (vs ws : List V) (ds : List PyData), σ = [some va, some vb, some (.ref l), some (.ref r), o4, o5] ∧ m ≤ 1000 ∧
    TwAll H vs ws ds m k ∧ H' l = some (.lst vs) ∧ H' r = some (.lst ws), ⟨_, g0, none, none, [va], [vb], [d0], rfl, by (first | lia | omega), .cons tw (.nil k), el, er⟩, ?_⟩
  rintro m σ H1 ⟨g, o4, o5, vs, ws, ds, rfl, hm, ta, el, er⟩
  refine ⟨_, rfl, by show 0 ≤ sizeLine; decide, fun e he => ⟨.list ds, .list [], .lst (SqL.of ((same_new he _) _ _ er)) (ta.dp (g.trans (same_new he _))), .lst (SqL.of upd_same) .nil, ta.shaped (by (first | lia | omega)), by decide, _, rfl, ?_⟩⟩
  rw [eqv_nil]
  have g1 := g.trans (same_new he (.lst []))
  have el1 := (same_new he (.lst [])) _ _ el
  have er1 := (same_new he (.lst [])) _ _ er
  generalize upd H1 e (.lst []) = H2 at g1 el1 er1 ⊢
  by_cases hne : vs = []
  · subst hne
    cases ta
    exact iteF (q H2 g1)
  obtain ⟨vs', ws', v, w', ds', d, n', m', rfl, rfl, rfl, rfl, ta', tv⟩ := ta.snoc hne
  have hie : (ds' ++ [d]).isEmpty = false := by simp
  rw [hie]
  refine iteT ?_
  have hl' := ta'.len
  refine ⟨fun σ' H' => Same H H' ∧ ∃ (o4 o5 : Option V) (us zs : List V) (es : List PyData) (m2 : Nat), σ' = [some va, some vb, some (.ref l), some (.ref r), o4, o5] ∧ m2 < n' + m' ∧ TwAll H us zs es m2 k ∧ H' l = some (.lst us) ∧ H' r = some (.lst zs),
    fun σ' H' z => by obtain ⟨z0, o4, o5, us, zs, es, m2, z1, z2, z3, z4, z5⟩ := z; exact ⟨m2, z2, z0, o4, o5, us, zs, es, z1, by (first | lia | omega), z3, z4, z5⟩, ?_⟩
  refine hidD fun D' dn dr db dc => ?_
  refine ⟨_, rfl, .inl ⟨rfl, _, SqL.of el1⟩, l, _, _, rfl, rfl, el1, last_v, ?_⟩
  rw [drop_v]
  have er2 : (upd H2 l (.lst vs')) r = some (.lst (ws' ++ [w'])) := by rw [upd_ne (Ne.symm nlr)]; exact er1
  refine ⟨_, rfl, .inl ⟨rfl, _, SqL.of er2⟩, r, _, _, rfl, rfl, er2, last_v, ?_⟩
  rw [drop_v]
  have g3 : Same H (upd (upd H2 l (.lst vs')) r (.lst ws')) := same_upd (same_upd g1 hl) hrn
  have el3 : (upd (upd H2 l (.lst vs')) r (.lst ws')) l = some (.lst vs') := by rw [upd_ne nlr, upd_same]
  have er3 : (upd (upd H2 l (.lst vs')) r (.lst ws')) r = some (.lst ws') := upd_same
  generalize upd (upd H2 l (.lst vs')) r (.lst ws') = H3 at g3 el3 er3 ⊢
  refine ⟨_, rfl, by show 2 ≤ sizeLine; decide, fun t ht => ?_⟩
  have g4 := g3.trans (same_new ht (.tup [.ty "list", .ty "tuple"]))
  have el4 := (same_new ht (.tup [.ty "list", .ty "tuple"])) _ _ el3
  have er4 := (same_new ht (.tup [.ty "list", .ty "tuple"])) _ _ er3
  have et4 : (upd H3 t (.tup [.ty "list", .ty "tuple"])) t = some (.tup (["list", "tuple"].map V.ty)) := upd_same
  generalize upd H3 t (.tup [.ty "list", .ty "tuple"]) = H4 at g4 el4 er4 et4 ⊢
  cases tv with
  | non =>
    refine ⟨_, _, t, ["list", "tuple"], false, rfl, .inl ⟨rfl, rfl⟩, et4, kit_an K, _, rfl, iteF ?_⟩
    refine ⟨_, rfl, _, _, _, false, rfl, TyOf.non, kit_ns K, _, rfl, iteF ?_⟩
    refine ⟨_, rfl, _, rfl, iteT ?_⟩
    refine ⟨_, rfl, _, rfl, iteF ?_⟩
    exact dn _ _ ⟨g4, _, _, _, _, _, n', rfl, by (first | lia | omega), ta', el4, er4⟩
  | int x =>
    refine ⟨_, _, t, ["list", "tuple"], false, rfl, .inr (.inl ⟨x, rfl, rfl⟩), et4, kit_ai K, _, rfl, iteF ?_⟩
    refine ⟨_, rfl, _, _, _, false, rfl, TyOf.int x, kit_is K, _, rfl, iteF ?_⟩
    refine ⟨_, rfl, _, rfl, iteF ?_⟩
    refine ⟨_, rfl, _, _, _, true, rfl, TyOf.int x, kit_ii K, _, rfl, iteF ?_⟩
    refine ⟨_, rfl, _, _, _, false, rfl, TyOf.int x, kit_ib K, _, rfl, iteF ?_⟩
    refine ⟨_, rfl, _, rfl, rfl, _, rfl, iteNS rfl ?_⟩
    exact dn _ _ ⟨g4, _, _, _, _, _, n', rfl, by (first | lia | omega), ta', el4, er4⟩
  | @lst a b xs ys es nn kk ha hb tx =>
    have ha4 := g4 _ _ ha
    have hb4 := g4 _ _ hb
    have hlx := tx.len
    refine ⟨_, _, t, ["list", "tuple"], true, rfl, .inr (.inr ⟨b, _, rfl, hb4, rfl⟩), et4, kit_al K, _, rfl, iteT ?_⟩
    refine ⟨_, rfl, _, _, _, true, rfl, TyOf.lst ha4, kit_ll K, _, rfl, _, _, _, true, rfl, TyOf.lst hb4, kit_ll K, rfl, _, rfl, iteNS rfl ?_⟩
    refine ⟨_, rfl, _, _, _, false, rfl, TyOf.lst ha4, kit_lt K, _, rfl, _, _, _, false, rfl, TyOf.lst hb4, kit_lt K, rfl, _, rfl, iteNS rfl ?_⟩
    refine ⟨_, rfl, a, _, rfl, .inl (SqL.of ha4), _, rfl, b, _, rfl, .inl (SqL.of hb4), rfl, _, rfl, iteNS (by rw [hlx.1]) ?_⟩
    refine ⟨_, rfl, .inl ⟨rfl, _, SqL.of el4⟩, _, rfl, a, _, rfl, .inl (SqL.of ha4), fun c hc => ?_⟩
    refine ⟨l, c, _, _, rfl, rfl, (same_new hc _) _ _ el4, upd_same, small (by (first | lia | omega)), ?_⟩
    have g5 := g4.trans (same_new hc (.lst xs))
    have g6 : Same H (upd (upd H4 c (.lst xs)) l (.lst (vs' ++ xs))) := same_upd g5 hl
    have el6 : (upd (upd H4 c (.lst xs)) l (.lst (vs' ++ xs))) l = some (.lst (vs' ++ xs)) := upd_same
    have er6 : (upd (upd H4 c (.lst xs)) l (.lst (vs' ++ xs))) r = some (.lst ws') := by rw [upd_ne (Ne.symm nlr)]; exact (same_new hc _) _ _ er4
    generalize upd (upd H4 c (.lst xs)) l (.lst (vs' ++ xs)) = H6 at g6 el6 er6 ⊢
    refine ⟨_, rfl, .inl ⟨rfl, _, SqL.of er6⟩, _, rfl, b, _, rfl, .inl (SqL.of (g6 _ _ hb)), fun d hd => ?_⟩
    refine ⟨r, d, _, _, rfl, rfl, (same_new hd _) _ _ er6, upd_same, small (by (first | lia | omega)), ?_⟩
    refine dn _ _ ⟨same_upd (g6.trans (same_new hd _)) hrn, _, _, _, _, _, n' + nn, rfl, by (first | lia | omega), ta'.app (tx.mono (Nat.le_succ _)), ?_, upd_same⟩
    rw [upd_ne nlr]; exact (same_new hd _) _ _ el6
end
end Sy
namespace L3
open PySem PySem.Spec L2
open PyProof.Rows hiding St
section
variable {X : Cx}
end
end L3
namespace Sy
open PySem PySem.Spec L2 L3
open PyProof.Rows hiding St
seal L2.PSs L2.PS L2.PE L2.PT L2.PW L2.PA L2.PG L2.PGs L2.PI L3.PIf
section
variable {P : Program} {w : World} {K : PySem.W.Frag} {mg : Str → Option Value} {base : Heap}
end
end Sy
namespace Sy
open PySem PySem.Spec L2 L3
open PyProof.Rows hiding St
seal L2.PSs L2.PS L2.PE L2.PT L2.PW L2.PA L2.PG L2.PGs L2.PI L3.PIf
inductive spLaw (K : PySem.W.Frag) : List V → Hp → VK → XK → Prop
  | mk {vs : List V} {H : Hp} {Q : VK} {E_ : XK} (a : Addr) (ns : List Int) (z_0 : vs = [.ref a]) (z_1 : IL K H a ns) (z_2 : ns.length ≤ 63) (z_3 : ∀ H', Q (.bl true) H') : spLaw K vs H Q E_
theorem cut_all {xs : List V} {n : Nat} (h : xs.length ≤ n) : cutV xs none (some (n : Int)) = xs := by
  unfold cutV
  rw [HT.sIx_none, HT.sIx_nat, Nat.min_eq_right h, List.drop_zero, Nat.sub_zero, List.take_length]
theorem tw_opts {H : Hp} : ∀ (os : List (Option Int)) (k : Nat), ∃ ds, TwAll H (os.map vo) (os.map vo) ds os.length k
  | [], k => ⟨[], .nil k⟩
  | none :: os, k => by
    obtain ⟨ds, h⟩ := tw_opts (H := H) os k
    refine ⟨.none :: ds, ?_⟩
    rw [List.length_cons, Nat.add_comm]
    exact .cons (.non k) h
  | some i :: os, k => by
    obtain ⟨ds, h⟩ := tw_opts (H := H) os k
    refine ⟨.int i :: ds, ?_⟩
    rw [List.length_cons, Nat.add_comm]
    exact .cons (.int i k) h
end Sy
namespace L3
open PySem PySem.Spec L2
open PyProof.Rows hiding St
section
variable {P : Program} {w : World} {K : PySem.W.Frag} {mg : Str → Option Value} {base : Heap} {k : Nat} {x : Str} {ps : List Str}
/-- where it does not raise -/
theorem HasE.no {sp sp0 : Sp} (h : HasE P w K mg base k x ps sp) (imp : ∀ vs H Q E, sp0 vs H Q E → sp vs H Q fun _ _ _ => False) : Has P w K mg base k x ps sp0 := by
  obtain ⟨f, fd, F, b, kp, m⟩ := h
  refine ⟨f, fd, ⟨fun vs H Q E q => F.len vs H Q _ (imp _ _ _ _ q), fun A outer s H args us vs Q E hr he hb hv hs => ?_⟩, b, kp, m⟩
  refine codeAny_mono (F.run A outer s H args us vs Q _ hr he hb hv (imp _ _ _ _ hs)) fun r s' q => ?_
  cases r with
  | ok fl => cases fl <;> exact q
  | error e =>
    obtain ⟨_, _, _, _, _, _, _, _, _, _, _, _, z⟩ := q
    exact z.elim
end
end L3
namespace Sy
open PySem PySem.Spec L2 L3
open PyProof.Rows hiding St
end Sy
namespace Sy
open PySem PySem.Spec L2 L3
open PyProof.Rows hiding St
seal L2.PSs L2.PS L2.PE L2.PT L2.PW L2.PA L2.PG L2.PGs L2.PI L3.PIf
def Big (os : List (Option Int)) : Prop := ∀ s, some s ∈ os → 0 ≤ s ∧ s < 10 ^ 60
abbrev figS : Str := Str.ofString "0123456789"
/-- what a part of a line tells: a gap, a number, nothing -/
inductive Prt : Str → Option (Option Int) → Prop
  | gap : Prt Tx.gapS (some none)
  | num (n : Nat) : n < 10 ^ 60 → Prt (Tx.numS n) (some (some (n : Int)))
  | bad {p : Str} : p ≠ Tx.gapS → Tx.isNum p = false → p.length ≤ 50 → (∀ c ∈ p.cps.toList, c < 16 ^ 8) → Prt p none
def Prts (ps : List Str) (us : List (Option (Option Int))) : Prop := ps.length = us.length ∧ ∀ (i : Nat) (p : Str) (u : Option (Option Int)), ps[i]? = some p → us[i]? = some u → Prt p u
inductive spSignShown : List V → Hp → VK → XK → Prop
  | mk {vs : List V} {H : Hp} {Q : VK} {E_ : XK} (o : Option Int) (z_0 : vs = [vo o]) (z_1 : Big [o]) (z_2 : Q (.str (Tx.word o)) H) : spSignShown  vs H Q E_
inductive spShown (K : PySem.W.Frag) : List V → Hp → VK → XK → Prop
  | mk {vs : List V} {H : Hp} {Q : VK} {E_ : XK} (a : Addr) (os : List (Option Int)) (z_0 : vs = [.ref a]) (z_1 : OL K H a os) (z_2 : os.length ≤ 1000) (z_3 : Big os) (z_4 : ∀ H', Same H H' → Q (.str (Txt.join Tx.blank (os.map Tx.word))) H') : spShown K vs H Q E_
inductive spIsNumber : List V → Hp → VK → XK → Prop
  | mk {vs : List V} {H : Hp} {Q : VK} {E_ : XK} (p : Str) (z_0 : vs = [.str p]) (z_1 : p.length ≤ 1000) (z_2 : ∀ H', Same H H' → Q (.bl (Tx.isNum p)) H') : spIsNumber  vs H Q E_
inductive spPartE (C : Addr) : List V → Hp → VK → XK → Prop
  | mk {vs : List V} {H : Hp} {Q : VK} {E : XK} (p : Str) (u : Option (Option Int)) (z_0 : vs = [.str p]) (z_1 : Prt p u) (z_2 : (∀ o, u = some o → ∀ H', Same H H' → Q (vo o) H')) (z_3 : (u = none → ∀ H', Same H H' → E (.ref C) none H')) : spPartE C vs H Q E
inductive spLineE (C : Addr) : List V → Hp → VK → XK → Prop
  | mk {vs : List V} {H : Hp} {Q : VK} {E : XK} (x : Str) (us : List (Option (Option Int))) (z_0 : vs = [.str x]) (z_1 : x.length ≤ 100000) (z_2 : ((x = Str.ofString "" ∧ us = []) ∨ (x ≠ Str.ofString "" ∧ Prts (Txt.split x Tx.blank) us))) (z_3 : (∀ os : List (Option Int), us = os.map some → ∀ (r : Addr) (H' : Hp), Same H H' → H' r = some (.lst (os.map vo)) → Q (.ref r) H')) (z_4 : (none ∈ us → ∀ H', Same H H' → E (.ref C) none H')) : spLineE C vs H Q E
theorem bt_all : bootBuiltins "all" = some (.builtin "all") := by decide +kernel
theorem get_vo {os : List (Option Int)} {i : Nat} {v : V} (h : (os.map vo)[i]? = some v) : ∃ o, v = vo o ∧ os[i]? = some o := by
  rw [List.getElem?_map] at h
  cases e : os[i]? with
  | none => rw [e] at h; cases h
  | some o => rw [e] at h; exact ⟨o, (Option.some.inj h).symm, rfl⟩
theorem get_str {ps : List Str} {i : Nat} {v : V} (h : (ps.map V.str)[i]? = some v) : ∃ p, v = .str p ∧ ps[i]? = some p := by
  rw [List.getElem?_map] at h
  cases e : ps[i]? with
  | none => rw [e] at h; cases h
  | some p => rw [e] at h; exact ⟨p, (Option.some.inj h).symm, rfl⟩
theorem Big.one {os : List (Option Int)} {o : Option Int} {i : Nat} (hb : Big os) (h : os[i]? = some o) : Big [o] := fun s hs => by
  have e : o = some s := (List.mem_singleton.mp hs).symm
  subst e
  exact hb s (List.mem_of_getElem? h)
theorem word_len {o : Option Int} (hb : Big [o]) : (Tx.word o).length ≤ 61 := by
  cases o with
  | none => show Tx.gapS.length ≤ 61; decide +kernel
  | some n =>
    have h := hb n (List.mem_singleton.mpr rfl)
    rw [Tx.word_num h.1]
    exact Tx.num_len (by (first | lia | omega))
theorem word_prt {o : Option Int} (hb : Big [o]) : Prt (Tx.word o) (some o) := by
  cases o with
  | none => exact .gap
  | some n =>
    have h := hb n (List.mem_singleton.mpr rfl)
    rw [Tx.word_num h.1]
    have e : ((n.toNat : Nat) : Int) = n := Int.toNat_of_nonneg h.1
    have q := Prt.num n.toNat (by (first | lia | omega))
    rwa [e] at q
theorem word_free (o : Option Int) (hb : Big [o]) : 32 ∉ (Tx.word o).cps.toList := by
  cases o with
  | none => exact Tx.free_gap
  | some n =>
    have h := hb n (List.mem_singleton.mpr rfl)
    rw [Tx.word_num h.1]
    exact Tx.free_num _
theorem words_len {os : List (Option Int)} (hb : Big os) : ∀ p ∈ os.map Tx.word, p.length ≤ 61 := fun p hp => by
  obtain ⟨o, ho, rfl⟩ := List.mem_map.mp hp
  obtain ⟨i, hi, e⟩ := List.getElem_of_mem ho
  exact word_len (hb.one (i := i) (by rw [List.getElem?_eq_getElem hi, e]))
theorem Prt.len {p : Str} {u : Option (Option Int)} (h : Prt p u) : p.length ≤ 61 := by
  cases h with
  | gap => decide +kernel
  | num n hn => exact Tx.num_len hn
  | bad _ _ hl _ => (first | lia | omega)
theorem Prt.none_of {p : Str} {u : Option (Option Int)} (h : Prt p u) (h2 : Prt p none) : u = none := by
  cases h2 with
  | bad hg hn _ _ =>
    cases h with
    | gap => exact absurd rfl hg
    | num n _ => rw [Tx.num_is] at hn; cases hn
    | bad _ _ _ _ => rfl
theorem isNum_nil {p : Str} (h : p.cps.toList = []) : Tx.isNum p = false := by unfold Tx.isNum; rw [h]
theorem isNum_cons {p : Str} {c : Nat} {r : List Nat} (h : p.cps.toList = c :: r) : Tx.isNum p = (!(c == 48 && !r.isEmpty) && (c :: r).all fun d => decide (48 ≤ d ∧ d ≤ 57)) := by unfold Tx.isNum; rw [h]
theorem fig_in (d : Nat) : decide (d ∈ figS.cps.toList) = decide (48 ≤ d ∧ d ≤ 57) := by
  rw [show figS.cps.toList = [48, 49, 50, 51, 52, 53, 54, 55, 56, 57] by decide +kernel]
  refine decide_eq_decide.mpr ⟨fun h => ?_, fun h => ?_⟩
  · simp only [List.mem_cons, List.not_mem_nil, or_false] at h
    (first | lia | omega)
  · simp only [List.mem_cons, List.not_mem_nil, or_false]
    (first | lia | omega)
theorem str_ne {a b : Str} (h : a ≠ b) : decide (V.str a = V.str b) = false := decide_eq_false fun e => h (by injection e)
section
variable {P : Program} {w : World} {K : PySem.W.Frag} {mg : Str → Option Value} {base : Heap}
theorem sc_ss : FnScope ["sign"] ["sign"] (defScope (top 6)) := ⟨rfl, rfl, rfl, by decide +kernel, rfl, by decide +kernel, by decide +kernel⟩
theorem ok_sign_shown (D : Def K mg "sign_shown" ["sign"] (top 6)) (mP : ∃ t, mg "GAP" = some (.str Tx.gapS t)) (hstr : mg "str" = none) : Has P w K mg base 1 "sign_shown" ["sign"] spSignShown := by
  obtain ⟨t, mP⟩ := mP
  refine D.ok sc_ss (fun vs H Q E h => by obtain ⟨o, rfl, _⟩ := h; rfl) fun f cdv A outer s H vs Q E hr h => ?_
  obtain ⟨o, rfl, hb, q⟩ := h
  refine ⟨_, pss_one (ps_ret (pe_ifExp (pt_cmp (pc_isN (pv 0))) (pe_glob (v := .str Tx.gapS) rfl mP ⟨t, rfl⟩) (pe_callTy call_str_int rfl hstr bt_str (pa_cons (pv 0) pa_nil)))), ?_⟩
  cases o with
  | none => exact ⟨_, rfl, _, rfl, iteT q⟩
  | some n =>
    have h := hb n (List.mem_singleton.mpr rfl)
    exact ⟨_, rfl, _, rfl, iteF ⟨_, rfl, n, rfl, int_len ⟨by (first | lia | omega), by (first | lia | omega)⟩, q⟩⟩
theorem sc_shown : FnScope ["signs"] ["signs"] (defScope (top 7)) := ⟨rfl, rfl, rfl, by decide +kernel, rfl, by decide +kernel, by decide +kernel⟩
theorem ok_shown (D : Def K mg "shown" ["signs"] (top 7)) (SS : Has P w K mg base 1 "sign_shown" ["sign"] spSignShown) : Has P w K mg base 2 "shown" ["signs"] (spShown K) := by
  refine D.ok sc_shown (fun vs H Q E h => by obtain ⟨a, os, rfl, _⟩ := h; rfl) fun f cdv A outer s H vs Q E hr h => ?_
  obtain ⟨a, os, rfl, ha, hl, hb, q⟩ := h
  refine ⟨_, pss_one (ps_ret (pe_bm PySem.F.plainAttrs_str PySem.F.slot_str_join PySem.F.type_str_join (mt_joinK K rfl) pe_str (pa_cons (pe_comp (N' := ["sign"]) (ix := [none]) rfl
      ⟨rfl, by decide +kernel, by decide +kernel, by with_unfolding_all rfl, by exact trivial, by exact trivial, by exact trivial⟩
      (pi_listK K rfl (pv 0))
      fun C ex pn s H => ⟨pg_name (i := 0) (show (["sign"] : List Str).Nodup by decide +kernel) rfl (Or.inl rfl), pif_nil, pcall SS hr rfl (pa_cons (pv 0) pa_nil)⟩) pa_nil))), ?_⟩
  refine ⟨rfl, _, rfl, a, rfl, ⟨_, ha⟩, ?_⟩
  refine comp_list (xs := os.map vo) (fun i ys H' => H' = H ∧ ys = ((os.take i).map Tx.word).map V.str) ⟨rfl, rfl⟩ (fun i ys H' h => by rw [h.1]; exact ha) ?_ ?_
  · rintro i v ys H' hv ⟨rfl, rfl⟩
    obtain ⟨o, rfl, ho⟩ := get_vo hv
    refine ⟨small (by rw [List.length_map, List.length_map, List.length_take]; (first | lia | omega)), trivial, ⟨_, rfl, o, rfl, hb.one ho, rfl, ?_⟩⟩
    rw [take_snoc ho]; simp
  · rintro ys H' ⟨rfl, rfl⟩
    rw [show (os.map vo).length = os.length from List.length_map .., List.take_length]
    refine ⟨small (by rw [List.length_map, List.length_map]; (first | lia | omega)), fun r hr' => ?_⟩
    refine ⟨_, _, os.map Tx.word, rfl, rfl, SqL.of upd_same, ?_, q _ (same_new hr' _)⟩
    have h1 := Tx.sum_le (B := 61) (os.map Tx.word) (words_len hb)
    rw [List.length_map] at h1 ⊢
    have h2 : (Str.ofString " ").length = 1 := by decide +kernel
    rw [h2]
    (first | lia | omega)
theorem sc_num : FnScope ["part"] ["part"] (defScope (top 8)) := ⟨rfl, rfl, rfl, by decide +kernel, rfl, by decide +kernel, by decide +kernel⟩
theorem ok_is_number (D : Def K mg "is_number" ["part"] (top 8)) (mF : ∃ t, mg "FIGURES" = some (.str figS t)) (hall : mg "all" = none) : Has P w K mg base 1 "is_number" ["part"] spIsNumber := by
  obtain ⟨t, mF⟩ := mF
  refine D.ok sc_num (fun vs H Q E h => by obtain ⟨p, rfl, _⟩ := h; rfl) fun f cdv A outer s H vs Q E hr h => ?_
  obtain ⟨p, rfl, hl, q⟩ := h
  refine ⟨_, (pss_cons (ps_if (pt_cmpR op_eq (pv 0) pe_str (nomark _)) (pss_one (ps_ret pe_bl)) pss_nil)
    (pss_cons (ps_if (ptw (pw_and (pt_cmpR op_eq (pe_ix ix_str (pv 0) pe_int (fun _ _ => rfl)) pe_str (nomark _)) (pw_and1 (pt_cmpR op_ne (pv 0) pe_str (nomark _))))) (pss_one (ps_ret pe_bl)) pss_nil)
    (pss_one (ps_ret (pe_callB (call_allK K rfl rfl) rfl hall bt_all (pa_cons (pe_comp (N' := ["letter"]) (ix := [none]) rfl
      ⟨rfl, by decide +kernel, by decide +kernel, by with_unfolding_all rfl, by exact trivial, by exact trivial, by exact trivial⟩
      (pi_str (pv 0))
      fun C ex pn s H => ⟨pg_name (i := 0) (show (["letter"] : List Str).Nodup by decide +kernel) rfl (Or.inl rfl), pif_nil, pe_cmpR op_in_str (pv 0) (pe_glob (v := .str figS) rfl mF ⟨t, rfl⟩) rfl⟩) pa_nil)))))), ?_⟩
  refine ⟨_, rfl, rfl, _, rfl, ?_⟩
  have hsz : p.cps.toList.length = p.length := by show p.cps.toList.length = p.cps.size; simp
  cases hp : p.cps.toList with
  | nil =>
    have e : p = Str.ofString "" := Tx.str_eq (by rw [hp]; decide +kernel)
    have qq := q H (Same.refl H)
    rw [isNum_nil hp] at qq
    rw [e, decide_eq_true rfl]
    exact iteT qq
  | cons c r =>
    have hne : p ≠ Str.ofString "" := fun e => by
      rw [e, show (Str.ofString "").cps.toList = [] by decide +kernel] at hp
      cases hp
    rw [str_ne hne]
    refine iteF ?_
    have hat : atI p.cps.toList 0 = some c := by rw [hp]; exact atI_nat (j := 0) rfl
    refine if_nx (A := c = 48 ∧ p ≠ Str.ofString "0") ?_ (fun h1 H1 g1 => ?_) fun h1 H1 g1 => ?_
    · refine Tells.and (fun Q q => ⟨_, rfl, p, 0, c, rfl, rfl, small (by (first | lia | omega)), hat, rfl, _, rfl, q _ _ (Same.refl _) ?_⟩) fun H1 g1 => fun Q q => ⟨_, rfl, rfl, _, rfl, q _ _ (Same.refl _) ?_⟩
      · rw [decide_eq_true_iff]
        constructor
        · intro e
          have e2 : (⟨#[c]⟩ : Str) = Str.ofString "0" := by injection e
          have e3 := congrArg (fun s : Str => s.cps.toList) e2
          rw [show (Str.ofString "0") = ⟨#[48]⟩ by decide +kernel] at e3
          simpa using e3
        · intro e
          exact congrArg V.str (Tx.str_eq (by rw [e]; decide +kernel))
      · rw [Bool.not_eq_true', decide_eq_false_iff_not]
        exact ⟨fun z e => z (congrArg V.str e), fun z e => z (by injection e)⟩
    · have qq := q H1 g1
      have hr0 : r ≠ [] := fun e => h1.2 (Tx.str_eq (by rw [hp, h1.1, e]; decide +kernel))
      have en : Tx.isNum p = false := by
        rw [isNum_cons hp, h1.1]
        cases r with
        | nil => exact absurd rfl hr0
        | cons => rfl
      rw [en] at qq
      exact qq
    · have en : Tx.isNum p = p.cps.toList.all fun d => decide (48 ≤ d ∧ d ≤ 57) := by
        rw [isNum_cons hp, hp]
        have : (c == 48 && !r.isEmpty) = false := by
          by_cases hc : c = 48
          · have h0 : p = Str.ofString "0" := Classical.byContradiction fun z => h1 ⟨hc, z⟩
            rw [h0, show (Str.ofString "0").cps.toList = [48] by decide +kernel] at hp
            injection hp with _ e2
            rw [← e2]; simp
          · rw [beq_false_of_ne hc]; rfl
        rw [this]; rfl
      refine ⟨_, rfl, p, rfl, ?_⟩
      refine comp_str (fun i ys H' => H' = H1 ∧ ys = ((p.cps.toList.take i).map fun d => decide (48 ≤ d ∧ d ≤ 57)).map V.bl) ⟨rfl, rfl⟩ ?_ ?_
      · rintro i d ys H' hd ⟨rfl, rfl⟩
        have hd' : p.cps.toList[i]? = some d := by rw [Array.getElem?_toList]; exact hd
        refine ⟨small (by rw [List.length_map, List.length_map, List.length_take]; (first | lia | omega)), trivial, ⟨_, rfl, _, _, rfl, rfl, rfl, ?_⟩⟩
        rw [take_snoc hd', StrLaws.found_one, fig_in]; simp
      · rintro ys H' ⟨rfl, rfl⟩
        rw [List.take_of_length_le (by simp)]
        refine ⟨small (by rw [List.length_map, List.length_map]; (first | lia | omega)), fun r1 h2 => ?_⟩
        refine ⟨r1, _, rfl, SqL.of upd_same, ?_⟩
        have qq := q _ (g1.trans (same_new h2 (.lst ((p.cps.toList.map fun d => decide (48 ≤ d ∧ d ≤ 57)).map V.bl))))
        rw [en] at qq
        rw [List.all_map]
        exact qq
theorem sc_part : FnScope ["part"] ["part"] (defScope (top 9)) := ⟨rfl, rfl, rfl, by decide +kernel, rfl, by decide +kernel, by decide +kernel⟩
theorem ok_part {C : Addr} (D : Def K mg "part_read" ["part"] (top 9)) (hC : mg "NoLine" = some (.ref C)) (hq : PySem.W.excIn K C vbm "ValueError.__new__" = true) (mP : ∃ t, mg "GAP" = some (.str Tx.gapS t)) (hint : mg "int" = none)
    (IN : Has P w K mg base 1 "is_number" ["part"] spIsNumber) : HasE P w K mg base 2 "part_read" ["part"] (spPartE C) := by
  obtain ⟨t, mP⟩ := mP
  refine D.okE sc_part (fun vs H Q E h => by obtain ⟨p, u, rfl, _⟩ := h; rfl) fun f cdv A outer s H vs Q E hr h => ?_
  obtain ⟨p, u, rfl, hp, q1, q0⟩ := h
  refine ⟨_, (pss_cons (ps_if (pt_cmpR op_eq (pv 0) (pe_glob (v := .str Tx.gapS) rfl mP ⟨t, rfl⟩) (nomark _)) (pss_one (ps_ret pe_non)) pss_nil)
    (pss_cons (ps_if (pt_not (pt_val (pcall IN hr rfl (pa_cons (pv 0) pa_nil)))) (pss_one (ps_raise rfl hC hq (pa_cons (pe_fstr (pf_repr (pv 0) (pf_str (by decide) pf_nil))) pa_nil))) pss_nil)
    (pss_one (ps_ret (pe_callTy call_int_text rfl hint bt_int (pa_cons (pv 0) pa_nil)))))), ?_⟩
  have hl := hp.len
  refine ⟨_, rfl, rfl, _, rfl, ?_⟩
  cases hp with
  | gap => exact ite_yes rfl (q1 none rfl H (Same.refl H))
  | num n hn =>
    refine ite_no (fun e => Tx.num_gap n (by injection e)) ⟨_, rfl, _, rfl, by (first | lia | omega), fun H1 g1 => ?_⟩
    rw [Tx.num_is]
    refine ⟨_, rfl, iteF ⟨_, rfl, _, _, rfl, Tx.num_reads hn, by (first | lia | omega), q1 _ rfl H1 g1⟩⟩
  | bad hg hn hl5 hc =>
    refine ite_no (fun e => hg (by injection e)) ⟨_, rfl, _, rfl, by (first | lia | omega), fun H1 g1 => ?_⟩
    rw [hn]
    refine ⟨_, rfl, iteT ⟨_, rfl, _, rfl, hl5, hc, fun x => ⟨by show 1 ≤ 100; decide, q0 rfl H1 g1⟩⟩⟩
theorem sc_line : FnScope ["line"] ["line"] (defScope (top 10)) := ⟨rfl, rfl, rfl, by decide +kernel, rfl, by decide +kernel, by decide +kernel⟩
theorem ok_line {C : Addr} (D : Def K mg "line_read" ["line"] (top 10)) (PR : HasE P w K mg base 2 "part_read" ["part"] (spPartE C)) : HasE P w K mg base 3 "line_read" ["line"] (spLineE C) := by
  refine D.okE sc_line (fun vs H Q E h => by obtain ⟨x, us, rfl, _⟩ := h; rfl) fun f cdv A outer s H vs Q E hr h => ?_
  obtain ⟨x, us, rfl, hl, hx, q1, q0⟩ := h
  refine ⟨_, (pss_cons (ps_if (pt_cmpR op_eq (pv 0) pe_str (nomark _)) (pss_one (ps_ret (pe_lst pa_nil))) pss_nil)
    (pss_one (ps_ret (pe_compE rfl (N' := ["part"]) (ix := [none]) rfl
      ⟨rfl, by decide +kernel, by decide +kernel, by with_unfolding_all rfl, by exact trivial, by exact trivial, by exact trivial⟩
      (pi_listK K rfl (pe_bm PySem.F.plainAttrs_str PySem.F.slot_str_split PySem.F.type_str_split mt_split (pv 0) (pa_cons pe_str pa_nil)))
      fun C ex pn s H => ⟨pg_name (i := 0) (show (["part"] : List Str).Nodup by decide +kernel) rfl (Or.inl rfl), pif_nil, pr_call (fun _ _ z => z) PR hr rfl (pa_cons (pv 0) pa_nil)⟩)))), ?_⟩
  refine ⟨_, rfl, rfl, _, rfl, ?_⟩
  rcases hx with ⟨hx, rfl⟩ | ⟨hx, hp⟩
  · refine ite_yes (congrArg V.str hx) ⟨by show 0 ≤ sizeLine; decide, fun r hr' => ?_⟩
    exact q1 [] rfl r _ (same_new hr' _) upd_same
  · refine ite_no (fun e => hx (by injection e)) ?_
    have hsz : x.length + 2 ≤ sizeLine := Nat.le_trans (show x.length + 2 ≤ 100002 by (first | lia | omega)) (by decide)
    refine ⟨_, rfl, rfl, x, _, rfl, rfl, by decide +kernel, hsz, fun r hr' => ⟨r, rfl, ⟨_, SqL.of upd_same⟩, ?_⟩⟩
    have hsl := split_len x Tx.blank
    have g1 := same_new hr' (.lst ((Txt.split x Tx.blank).map V.str))
    have e1 : (upd H r (.lst ((Txt.split x Tx.blank).map V.str))) r = some (.lst ((Txt.split x Tx.blank).map V.str)) := upd_same
    generalize upd H r (.lst ((Txt.split x Tx.blank).map V.str)) = H1 at g1 e1 ⊢
    generalize Txt.split x Tx.blank = ps at hp hsl e1 ⊢
    refine compE_list (xs := ps.map V.str) (fun i ys H' => Same H1 H' ∧ ∃ os : List (Option Int), us.take i = os.map some ∧ ys = os.map vo) ⟨.refl _, [], rfl, rfl⟩ (fun i ys H' h => SqL.of (h.1 _ _ e1)) ?_ ?_
    · rintro i v ys H' hv ⟨g, os, ho, rfl⟩
      obtain ⟨p, rfl, hpi⟩ := get_str hv
      have hi := (List.getElem?_eq_some_iff.mp hpi).1
      have hiu : i < us.length := by rw [← hp.1]; exact hi
      have hui : us[i]? = some us[i] := List.getElem?_eq_getElem hiu
      have hpu := hp.2 i p _ hpi hui
      have hol : os.length ≤ 100002 := by
        have := congrArg List.length ho
        rw [List.length_map, List.length_take] at this
        (first | lia | omega)
      refine ⟨Nat.le_trans (show (os.map vo).length ≤ 100002 by rw [List.length_map]; exact hol) (by decide), trivial, ⟨_, rfl, p, us[i], rfl, hpu, fun o e H2 g2 => ?_, fun e H2 g2 => ?_⟩⟩
      · refine ⟨g.trans g2, os ++ [o], ?_, by simp⟩
        rw [e] at hui
        rw [take_snoc hui, ho]; simp
      · exact q0 (by rw [← e]; exact List.getElem_mem _) H2 (g1.trans (g.trans g2))
    · rintro ys H' ⟨g, os, ho, rfl⟩
      rw [List.length_map, hp.1, List.take_length] at ho
      have hol : os.length ≤ 100002 := by
        have h1 := congrArg List.length ho
        have h2 := hp.1
        rw [List.length_map] at h1
        (first | lia | omega)
      refine ⟨Nat.le_trans (show (os.map vo).length ≤ 100002 by rw [List.length_map]; exact hol) (by decide), fun r2 h2 => ?_⟩
      exact q1 os ho r2 _ (g1.trans (g.trans (same_new h2 _))) upd_same
end
end Sy
namespace Sy
open PySem PySem.Spec L2 L3
open PyProof.Rows hiding St
seal L2.PSs L2.PS L2.PE L2.PT L2.PW L2.PA L2.PG L2.PGs L2.PI L3.PIf
/-- line_read of a line of signs and gaps -/
inductive spLine : List V → Hp → VK → XK → Prop
  | mk {vs : List V} {H : Hp} {Q : VK} {E_ : XK} (os : List (Option Int)) (z_0 : vs = [.str (Txt.join Tx.blank (os.map Tx.word))]) (z_1 : os.length ≤ 1000) (z_2 : Big os) (z_3 : ∀ (r : Addr) (H' : Hp), Same H H' → H' r = some (.lst (os.map vo)) → Q (.ref r) H') : spLine  vs H Q E_
theorem join_short {ps : List Str} (hl : ps.length ≤ 1000) (h : ∀ p ∈ ps, p.length ≤ 61) : (Txt.join Tx.blank ps).length ≤ 100000 := by
  have e := Tx.join_len h
  rw [Tx.join_eq]
  (first | lia | omega)
theorem Big.mem {os : List (Option Int)} (hb : Big os) {o : Option Int} (h : o ∈ os) : Big [o] := fun s hs => by
  have e : o = some s := (List.mem_singleton.mp hs).symm
  subst e
  exact hb s h
theorem words_free {os : List (Option Int)} (hb : Big os) : ∀ p ∈ os.map Tx.word, 32 ∉ p.cps.toList := fun p hp => by
  obtain ⟨o, ho, rfl⟩ := List.mem_map.mp hp
  exact word_free o (hb.mem ho)
theorem line_good {os : List (Option Int)} (hb : Big os) : (Txt.join Tx.blank (os.map Tx.word) = Str.ofString "" ∧ os.map some = []) ∨ (Txt.join Tx.blank (os.map Tx.word) ≠ Str.ofString "" ∧ Prts (Txt.split (Txt.join Tx.blank (os.map Tx.word)) Tx.blank) (os.map some)) := by
  cases os with
  | nil => exact .inl ⟨by rw [Tx.join_eq]; rfl, rfl⟩
  | cons o r =>
    have hs : Txt.split (Txt.join Tx.blank ((o :: r).map Tx.word)) Tx.blank = (o :: r).map Tx.word := Tx.split_join (by simp) (words_free hb)
    refine .inr ⟨fun e => ?_, ?_⟩
    · rw [Tx.join_eq] at e
      have z := word_prt (hb.mem (List.mem_cons_self (a := o) (l := r)))
      rcases Tx.join_nil_only e with e2 | e2
      · cases e2
      · rw [List.map_cons] at e2
        injection e2 with e3 _
        rw [e3] at z
        have hn : Prt (Str.ofString "") none := .bad (by decide +kernel) (by decide +kernel) (by decide +kernel) (by decide +kernel)
        have := z.none_of hn
        cases this
    · rw [hs]
      refine ⟨by rw [List.length_map, List.length_map], fun i p u h1 h2 => ?_⟩
      rw [List.getElem?_map] at h1 h2
      cases e : (o :: r)[i]? with
      | none => rw [e] at h1; cases h1
      | some o' =>
        rw [e] at h1 h2
        cases h1
        cases h2
        exact word_prt (hb.one e)
theorem line_of {P : Program} {w : World} {K : PySem.W.Frag} {mg : Str → Option Value} {base : Heap} {k : Nat} {C : Addr} (h : HasE P w K mg base k "line_read" ["line"] (spLineE C)) : Has P w K mg base k "line_read" ["line"] spLine := by
  refine h.no fun vs H Q E q => ?_
  obtain ⟨os, rfl, hl, hb, q⟩ := q
  refine ⟨_, os.map some, rfl, join_short (by rw [List.length_map]; exact hl) (words_len hb), line_good hb, fun os' e => ?_, fun z => ?_⟩
  · have : os = os' := by
      have := congrArg (List.filterMap id) e
      simpa using this
    subst this
    exact q
  · obtain ⟨o, _, e⟩ := List.mem_map.mp z
    cases e
/-- words, not all of which are good -/
def BadPs (ps : List Str) : Prop := Txt.join Tx.blank ps ≠ Str.ofString "" ∧ (Txt.join Tx.blank ps).length ≤ 100000 ∧ ps.length ≤ 1000 ∧ (∀ p ∈ ps, p.length ≤ 61) ∧ ∃ us, Prts (Txt.split (Txt.join Tx.blank ps) Tx.blank) us ∧ none ∈ us
theorem prts_of : ∀ {ps : List Str}, (∀ p ∈ ps, ∃ u, Prt p u) → ∃ us, Prts ps us
  | [], _ => ⟨[], rfl, fun i p u h => by simp at h⟩
  | p :: r, h => by
    obtain ⟨us, e, hus⟩ := prts_of (ps := r) fun q hq => h q (List.mem_cons_of_mem _ hq)
    obtain ⟨u, hu⟩ := h p (List.mem_cons_self ..)
    refine ⟨u :: us, by rw [List.length_cons, List.length_cons, e], fun i q v h1 h2 => ?_⟩
    cases i with
    | zero =>
      have e1 : p = q := by simpa using h1
      have e2 : u = v := by simpa using h2
      subst e1; subst e2
      exact hu
    | succ i => exact hus i q v (by simpa using h1) (by simpa using h2)
theorem bad_line {ps : List Str} (hp : ∀ p ∈ ps, ∃ u, Prt p u) (hb : ∃ p ∈ ps, Prt p none) (hf : ∀ p ∈ ps, 32 ∉ p.cps.toList) (hn : ps ≠ [Str.ofString ""]) :
    Txt.join Tx.blank ps ≠ Str.ofString "" ∧ ∃ us, Prts (Txt.split (Txt.join Tx.blank ps) Tx.blank) us ∧ none ∈ us := by
  obtain ⟨b, hb1, hb2⟩ := hb
  have hne : ps ≠ [] := fun e => by rw [e] at hb1; cases hb1
  refine ⟨fun e => ?_, ?_⟩
  · rw [Tx.join_eq] at e
    rcases Tx.join_nil_only e with e | e
    · exact hne e
    · exact hn e
  · rw [Tx.split_join hne hf]
    obtain ⟨us, hl, hus⟩ := prts_of hp
    refine ⟨us, ⟨hl, hus⟩, ?_⟩
    obtain ⟨i, hi, e⟩ := List.getElem_of_mem hb1
    have hi2 : i < us.length := by (first | lia | omega)
    have q := hus i b us[i] (by rw [List.getElem?_eq_getElem hi, e]) (List.getElem?_eq_getElem hi2)
    have z := q.none_of hb2
    rw [← z]
    exact List.getElem_mem _
theorem nil_bad : Prt (Str.ofString "") none := .bad (by decide +kernel) (by decide +kernel) (by decide +kernel) (by decide +kernel)
theorem bad_words {A B : List Str} {b : Str} (hA : ∀ p ∈ A, ∃ o, Prt p (some o)) (hAf : ∀ p ∈ A, 32 ∉ p.cps.toList) (hB : ∀ p ∈ B, ∃ o, Prt p (some o)) (hBf : ∀ p ∈ B, 32 ∉ p.cps.toList) (hl : A.length + B.length ≤ 900)
    (hb : b = Tx.blank ∨ (Prt b none ∧ 32 ∉ b.cps.toList)) (hn : ¬ ((A ++ b :: B).length = 1 ∧ b = Str.ofString "")) : BadPs (A ++ b :: B) := by
  have hlen : ∀ p ∈ A ++ b :: B, p.length ≤ 61 := fun p hp => by
    rcases List.mem_append.mp hp with h | h
    · obtain ⟨o, q⟩ := hA p h; exact q.len
    · rcases List.mem_cons.mp h with h | h
      · rw [h]
        rcases hb with e | e
        · rw [e]; decide +kernel
        · exact e.1.len
      · obtain ⟨o, q⟩ := hB p h; exact q.len
  have hcount : (A ++ b :: B).length ≤ 1000 := by rw [List.length_append, List.length_cons]; (first | lia | omega)
  have hj := join_short hcount hlen
  rcases hb with e | ⟨e1, e2⟩
  · subst e
    have ej : Txt.join Tx.blank (A ++ Tx.blank :: B) = Txt.join Tx.blank (A ++ Str.ofString "" :: Str.ofString "" :: B) := by rw [Tx.join_eq, Tx.join_eq, Tx.join_blank]
    have q := bad_line (ps := A ++ Str.ofString "" :: Str.ofString "" :: B) (fun p hp => ?_) ⟨_, List.mem_append_right _ (List.mem_cons_self ..), nil_bad⟩ (fun p hp => ?_) (fun e => ?_)
    · rw [← ej] at q
      exact ⟨q.1, hj, hcount, hlen, q.2⟩
    · rcases List.mem_append.mp hp with h | h
      · obtain ⟨o, q⟩ := hA p h; exact ⟨_, q⟩
      · rcases List.mem_cons.mp h with h | h
        · rw [h]; exact ⟨_, nil_bad⟩
        · rcases List.mem_cons.mp h with h | h
          · rw [h]; exact ⟨_, nil_bad⟩
          · obtain ⟨o, q⟩ := hB p h; exact ⟨_, q⟩
    · rcases List.mem_append.mp hp with h | h
      · exact hAf p h
      · rcases List.mem_cons.mp h with h | h
        · rw [h]; decide +kernel
        · rcases List.mem_cons.mp h with h | h
          · rw [h]; decide +kernel
          · exact hBf p h
    · have := congrArg List.length e
      rw [List.length_append, List.length_cons, List.length_cons] at this
      simp only [List.length_cons, List.length_nil] at this
      (first | lia | omega)
  · have q := bad_line (ps := A ++ b :: B) (fun p hp => ?_) ⟨b, List.mem_append_right _ (List.mem_cons_self ..), e1⟩ (fun p hp => ?_) (fun e => ?_)
    · exact ⟨q.1, hj, hcount, hlen, q.2⟩
    · rcases List.mem_append.mp hp with h | h
      · obtain ⟨o, q⟩ := hA p h; exact ⟨_, q⟩
      · rcases List.mem_cons.mp h with h | h
        · rw [h]; exact ⟨_, e1⟩
        · obtain ⟨o, q⟩ := hB p h; exact ⟨_, q⟩
    · rcases List.mem_append.mp hp with h | h
      · exact hAf p h
      · rcases List.mem_cons.mp h with h | h
        · rw [h]; exact e2
        · exact hBf p h
    · have hl1 := congrArg List.length e
      refine hn ⟨by rw [hl1]; rfl, ?_⟩
      cases A with
      | nil =>
        rw [List.nil_append] at e
        injection e
      | cons a A' =>
        rw [List.cons_append] at e
        injection e with _ e3
        have := congrArg List.length e3
        rw [List.length_append, List.length_cons] at this
        simp only [List.length_nil] at this
        (first | lia | omega)
theorem bad_one : BadPs [Str.ofString "1", Str.ofString ""] := by
  have h1 : Prt (Str.ofString "1") (some (some ((1 : Nat) : Int))) := by
    have := Prt.num 1 (by decide)
    rwa [show Tx.numS 1 = Str.ofString "1" by decide +kernel] at this
  have q := bad_words (A := [Str.ofString "1"]) (B := []) (b := Str.ofString "") (fun p hp => ⟨some ((1 : Nat) : Int), by rw [List.mem_singleton.mp hp]; exact h1⟩) (fun p hp => by rw [List.mem_singleton.mp hp]; decide +kernel) (fun p hp => by cases hp) (fun p hp => by cases hp) (by decide)
    (.inr ⟨nil_bad, by decide +kernel⟩) (fun z => by have := z.1; simp at this)
  exact q
theorem bad14 (r : Int) (h0 : 0 ≤ r) (h1 : r < 14) : ∃ b : Str, (b = Tx.blank ∨ (Prt b none ∧ 32 ∉ b.cps.toList)) ∧
    atI ([.str "", .str "01", .str "00", .str "-1", .str "+1", .str "a", .str "??", .str "1?", .str "1.", .str "1,2", .str "0x", .str "-0", .str "1_0", .str " "] : List V) r = some (.str b) := by
  have c : r = 0 ∨ r = 1 ∨ r = 2 ∨ r = 3 ∨ r = 4 ∨ r = 5 ∨ r = 6 ∨ r = 7 ∨ r = 8 ∨ r = 9 ∨ r = 10 ∨ r = 11 ∨ r = 12 ∨ r = 13 := by (first | lia | omega)
  have mk : ∀ b : Str, b ≠ Tx.gapS → Tx.isNum b = false → b.length ≤ 50 → (∀ c ∈ b.cps.toList, c < 16 ^ 8) → 32 ∉ b.cps.toList → (b = Tx.blank ∨ (Prt b none ∧ 32 ∉ b.cps.toList)) := fun b e1 e2 e3 e4 e5 => .inr ⟨.bad e1 e2 e3 e4, e5⟩
  rcases c with rfl | rfl | rfl | rfl | rfl | rfl | rfl | rfl | rfl | rfl | rfl | rfl | rfl | rfl
  case inr.inr.inr.inr.inr.inr.inr.inr.inr.inr.inr.inr.inr => exact ⟨_, .inl rfl, rfl⟩
  all_goals exact ⟨_, mk _ (by decide +kernel) (by decide +kernel) (by decide +kernel) (by decide +kernel) (by decide +kernel), rfl⟩
theorem cut_ints' (ns : List Int) (lo hi : Option Int) : ∃ ms : List Int, cutV (ns.map V.int) lo hi = ms.map V.int ∧ ms.length ≤ ns.length := by
  unfold cutV
  exact ⟨_, by rw [← List.map_drop, ← List.map_take], by rw [List.length_take, List.length_drop]; (first | lia | omega)⟩
theorem cut_rest {xs : List V} {n : Nat} (h : n ≤ xs.length) : cutV xs (some (n : Int)) none = xs.drop n := by
  unfold cutV
  rw [HT.sIx_none, HT.sIx_nat, Nat.min_eq_left h, List.take_of_length_le (by rw [List.length_drop]; exact Nat.le_refl _)]
theorem pick5 (c : Int) : ∃ o : Option Int, Big [o] ∧ atI ([.int (c % 17), .non, .int (c % 1000), .int 0, .int (c / 5 % 10 ^ (60 : Int).toNat)] : List V) (c % 5) = some (vo o) := by
  have hc : c % 5 = 0 ∨ c % 5 = 1 ∨ c % 5 = 2 ∨ c % 5 = 3 ∨ c % 5 = 4 := by (first | lia | omega)
  have mk : ∀ n : Int, 0 ≤ n → n < 10 ^ 60 → Big [some n] := fun n h0 h1 s hs => by
    have e : s = n := by simpa using hs
    rw [e]; exact ⟨h0, h1⟩
  rcases hc with h | h | h | h | h
  · exact ⟨some (c % 17), mk _ (by (first | lia | omega)) (by (first | lia | omega)), by rw [h]; rfl⟩
  · exact ⟨none, fun s hs => by simp at hs, by rw [h]; rfl⟩
  · exact ⟨some (c % 1000), mk _ (by (first | lia | omega)) (by (first | lia | omega)), by rw [h]; rfl⟩
  · exact ⟨some 0, mk _ (by (first | lia | omega)) (by (first | lia | omega)), by rw [h]; rfl⟩
  · refine ⟨some (c / 5 % 10 ^ (60 : Int).toNat), mk _ (Int.emod_nonneg _ (by decide)) (Int.emod_lt_of_pos _ (by decide)), by rw [h]; rfl⟩
theorem Big.snoc {os : List (Option Int)} {o : Option Int} (hb : Big os) (h : Big [o]) : Big (os ++ [o]) := fun s hs => by
  rcases List.mem_append.mp hs with z | z
  · exact hb s z
  · exact h s z
theorem kit_ss (K : PySem.W.Frag) : PySem.W.kitOne K (.type "str") (.type "str") = some true := by rfl
section
variable {P : Program} {w : World} {K : PySem.W.Frag} {mg : Str → Option Value} {base : Heap}
theorem sc_law : FnScope ["_law_script", "_law_signs", "_law_cell", "_law_words", "_law_sign", "_law_due", "_law_handed", "_law_line", "_law_bad", "_law_spot", "_law_spoilt", "_law_refused"] ["_law_script"] (defScope (top 14)) := ⟨rfl, rfl, rfl, by decide +kernel, rfl, by decide +kernel, by decide +kernel⟩
inductive Jlaw0 (K : PySem.W.Frag) : St → Hp → Prop
  | mk {σ' : St} {H' : Hp} (a' r1 : Addr) (ns' : List Int) (os : List (Option Int)) (o2 : Option V) (z_0 : IL K H' a' ns') (z_1 : os.length ≤ 63) (z_2 : Big os) (z_3 : H' r1 = some (.lst (os.map vo))) (z_4 : σ' = [some (.ref a'), some (.ref r1), o2, none, none, none, none, none, none, none, none, none]) : Jlaw0 K σ' H'
inductive Jlaw1 (K : PySem.W.Frag) : St → Hp → Prop
  | mk {σ' : St} {H' : Hp} (a' r1 r3 : Addr) (ns' : List Int) (os : List (Option Int)) (o2 o4 : Option V) (z_0 : IL K H' a' ns') (z_1 : os.length ≤ 63) (z_2 : Big os) (z_3 : H' r1 = some (.lst (os.map vo))) (z_4 : H' r3 = some (.lst ((os.map Tx.word).map V.str))) (z_5 : σ' = [some (.ref a'), some (.ref r1), o2, some (.ref r3), o4, none, none, none, none, none, none, none]) : Jlaw1 K σ' H'
inductive Jlaw2 (K : PySem.W.Frag) : St → Hp → Prop
  | mk {σ' : St} {H' : Hp} (ps : List Str) (rs : Addr) (o0 o1 o2 o3 o4 o5 o6 o7 o8 o9 : Option V) (z_0 : BadPs ps) (z_1 : H' rs = some (.lst (ps.map V.str))) (z_2 : σ' = [o0, o1, o2, o3, o4, o5, o6, o7, o8, o9, some (.ref rs), none]) : Jlaw2 K σ' H'
set_option maxHeartbeats 4000000 in
theorem fn_law {fl C : Addr} {fdl : FuncData} (F : Fun K "law" "law" (top 14) fl fdl) (hC : mg "NoLine" = some (.ref C)) (hCm : PySem.W.exmOne K (.ref C) (.ref C) = some true) (hi : mg "isinstance" = none) (hlist : mg "list" = none) (hlen : mg "len" = none) (hstr : mg "str" = none)
    (AT : Has P w K mg base 1 "_law_at" ["_law_script", "_law_k"] (spAt K)) (SY : Has P w K mg base 1 "_law_stays_so" ["_law_handed", "_law_own"] spStaysD)
    (SH : Has P w K mg base 20 "shown" ["signs"] (spShown K)) (LR : Has P w K mg base 20 "line_read" ["line"] spLine) (LE : HasE P w K mg base 20 "line_read" ["line"] (spLineE C)) : FnOk P w K mg base CX0 21 fl fdl ["_law_script"] (spLaw K) := by
  refine F.ok sc_law (fun vs H Q E h => by obtain ⟨a, ns, rfl, _⟩ := h; rfl) fun cdv A outer s H vs Q E hr h => ?_
  obtain ⟨a, ns, rfl, ha, hn63, q⟩ := h
  refine ⟨_, (pss_cons (ps_set (i := 0) sc_law.nd rfl (Or.inl rfl) (pe_slice (sl_listK K rfl) (pv 0) po_none (po_some pe_int)))
    (pss_cons (ps_set (i := 1) sc_law.nd rfl (Or.inl rfl) (pe_lst pa_nil))
    (pss_cut (Jlaw0 K)
      (ps_for PassesOwn.never rfl (pi_listK K rfl (pe_slice (sl_listK K rfl) (pv 0) (po_some pe_int) po_none)) (pg_name (i := 2) sc_law.nd rfl (Or.inl rfl))
        (pss_one (ps_expr (pe_bm PySem.F.plainAttrs_list PySem.F.slot_list_append PySem.F.type_list_append mt_append (pv 1) (pa_cons (pe_ix (ix_listK K rfl) (pe_lst (pa_cons (pe_op op_mod (pv 2) pe_int) (pa_cons pe_non (pa_cons (pe_op op_mod (pv 2) pe_int) (pa_cons pe_int (pa_cons (pe_op op_mod (pe_op op_fdiv (pv 2) pe_int) (pe_op op_pow pe_int pe_int)) pa_nil)))))) (pe_op op_mod (pv 2) pe_int) (fun _ _ => rfl)) pa_nil)))))
    (pss_cons (ps_set (i := 3) sc_law.nd rfl (Or.inl rfl) (pe_lst pa_nil))
    (pss_cut (Jlaw1 K)
      (ps_for PassesOwn.never rfl (pi_listK K rfl (pv 1)) (pg_name (i := 4) sc_law.nd rfl (Or.inl rfl))
        (pss_one (ps_if (pt_cmp (pc_isN (pv 4))) (pss_one (ps_expr (pe_bm PySem.F.plainAttrs_list PySem.F.slot_list_append PySem.F.type_list_append mt_append (pv 3) (pa_cons pe_str pa_nil))))
          (pss_one (ps_expr (pe_bm PySem.F.plainAttrs_list PySem.F.slot_list_append PySem.F.type_list_append mt_append (pv 3) (pa_cons (pe_callTy call_str_int rfl hstr bt_str (pa_cons (pv 4) pa_nil)) pa_nil)))))))
    (pss_cons (ps_set (i := 5) sc_law.nd rfl (Or.inl rfl) (pe_bm PySem.F.plainAttrs_str PySem.F.slot_str_join PySem.F.type_str_join (mt_joinK K rfl) pe_str (pa_cons (pv 3) pa_nil)))
    (pss_cons (ps_set (i := 6) sc_law.nd rfl (Or.inl rfl) (pe_callTy (call_list_ofK K rfl) rfl hlist bt_list (pa_cons (pv 1) pa_nil)))
    (pss_cons (ps_set (i := 7) sc_law.nd rfl (Or.inl rfl) (pcall SH hr rfl (pa_cons (pv 6) pa_nil)))
    (pss_cons (ps_if (ptw (pw_or (pt_not (pt_val (pcall SY hr rfl (pa_cons (pv 6) (pa_cons (pv 1) pa_nil))))) (pw_or (pt_not (pt_val (pe_callB (call_isinK K rfl) rfl hi bt_isin (pa_cons (pv 7) (pa_cons (pe_bltn (v := .ty "str") (by exact rfl) (by exact hstr) bt_str (by exact rfl)) pa_nil))))) (pw_or1 (pt_cmpR op_ne (pv 7) (pv 5) (nomark _)))))) pss_never pss_nil)
    (pss_cons (ps_if (pt_not (pt_val (pcall SY hr rfl (pa_cons (pcall LR hr rfl (pa_cons (pv 5) pa_nil)) (pa_cons (pv 1) pa_nil))))) pss_never pss_nil)
    (pss_cons (ps_set (i := 8) sc_law.nd rfl (Or.inl rfl) (pe_lst (pa_cons pe_str (pa_cons pe_str (pa_cons pe_str (pa_cons pe_str (pa_cons pe_str (pa_cons pe_str (pa_cons pe_str (pa_cons pe_str (pa_cons pe_str (pa_cons pe_str (pa_cons pe_str (pa_cons pe_str (pa_cons pe_str (pa_cons pe_str pa_nil))))))))))))))))
    (pss_cons (ps_set (i := 8) sc_law.nd rfl (Or.inl rfl) (pe_ix (ix_listK K rfl) (pv 8) (pe_op op_mod (pcall AT hr rfl (pa_cons (pv 0) (pa_cons pe_int pa_nil))) pe_int) (fun _ _ => rfl)))
    (pss_cons (ps_set (i := 9) sc_law.nd rfl (Or.inl rfl) (pe_op op_mod (pcall AT hr rfl (pa_cons (pv 0) (pa_cons pe_int pa_nil))) (pe_op op_add (pe_callB (call_len_seqK K rfl) rfl hlen PySem.boot_len (pa_cons (pv 3) pa_nil)) pe_int)))
    (pss_cons (ps_set (i := 10) sc_law.nd rfl (Or.inl rfl) (pe_op op_cat (pe_op op_cat (pe_slice (sl_listK K rfl) (pv 3) po_none (po_some (pv 9))) (pe_lst (pa_cons (pv 8) pa_nil))) (pe_slice (sl_listK K rfl) (pv 3) (po_some (pv 9)) po_none)))
    (pss_cut (Jlaw2 K)
      (ps_if (ptw (pw_and (pt_cmpR op_eq (pe_callB (call_len_seqK K rfl) rfl hlen PySem.boot_len (pa_cons (pv 10) pa_nil)) pe_int (nomark _)) (pw_and1 (pt_cmpR op_eq (pv 8) pe_str (nomark _))))) (pss_one (ps_set (i := 10) sc_law.nd rfl (Or.inl rfl) (pe_lst (pa_cons pe_str (pa_cons pe_str pa_nil))))) pss_nil)
    (pss_cons (ps_set (i := 11) sc_law.nd rfl (Or.inl rfl) pe_bl)
    (pss_cons (ps_try (fun _ _ z => z) ⟨rfl, rfl⟩ (pssr_one (psr_expr (pr_call (fun _ _ z => z) LE hr rfl (pa_cons (pe_bm PySem.F.plainAttrs_str PySem.F.slot_str_join PySem.F.type_str_join (mt_joinK K rfl) pe_str (pa_cons (pv 10) pa_nil)) pa_nil))))
      (.cons rfl hC (by decide) (fun ea => pss_one (ps_set (i := 11) sc_law.nd rfl (Or.inl rfl) pe_bl)) .nil))
    (pss_one (ps_ret (pv 11)))))))))))))))))))), ?_⟩
  have hz : ∀ l : List Int, (l.map V.int).length = l.length := fun l => List.length_map ..
  refine ⟨_, rfl, 500, rfl, a, _, rfl, ha, fun r0 h0 => ?_⟩
  rw [show (500 : Int) = ((500 : Nat) : Int) from rfl, cut_all (n := 500) (by rw [hz]; (first | lia | omega))]
  have e0 : (upd H r0 (.lst (ns.map V.int))) r0 = some (.lst (ns.map V.int)) := upd_same
  generalize upd H r0 (.lst (ns.map V.int)) = H0 at e0 ⊢
  refine ⟨by show 0 ≤ sizeLine; decide, fun r1 h1 => ?_⟩
  have n01 : r0 ≠ r1 := ne_of_none e0 h1
  have e01 := (same_new h1 (.lst ([] : List V))) _ _ e0
  have e1 : (upd H0 r1 (.lst ([] : List V))) r1 = some (.lst (([] : List (Option Int)).map vo)) := upd_same
  generalize upd H0 r1 (.lst ([] : List V)) = H1 at e01 e1 ⊢
  refine ⟨?_, ?_⟩
  · refine ⟨_, rfl, 3, rfl, r0, _, rfl, SqL.of e01, fun r2 h2 => ?_⟩
    obtain ⟨ms, ems, hms⟩ := cut_ints' ns (some 3) none
    rw [ems]
    refine ⟨r2, rfl, ⟨_, SqL.of upd_same⟩, ?_⟩
    have n21 : r2 ≠ r1 := (ne_of_none e1 h2).symm
    have e02 := (same_new h2 (.lst (ms.map V.int))) _ _ e01
    have e12 := (same_new h2 (.lst (ms.map V.int))) _ _ e1
    have e22 : (upd H1 r2 (.lst (ms.map V.int))) r2 = some (.lst (ms.map V.int)) := upd_same
    generalize upd H1 r2 (.lst (ms.map V.int)) = H2 at e02 e12 e22 ⊢
    refine for_list (xs := ms.map V.int) (fun i σ H' => ∃ (os : List (Option Int)) (o2 : Option V), os.length = i ∧ i ≤ ms.length ∧ Big os ∧ H' r0 = some (.lst (ns.map V.int)) ∧ H' r2 = some (.lst (ms.map V.int)) ∧ H' r1 = some (.lst (os.map vo)) ∧ σ = [some (.ref r0), some (.ref r1), o2, none, none, none, none, none, none, none, none, none])
      ⟨[], none, rfl, Nat.zero_le _, fun s hs => absurd hs (by simp), e02, e22, e12, rfl⟩ (fun i σ H' _ h => by obtain ⟨_, _, _, _, _, _, h, _⟩ := h; exact SqL.of h) ?_ ?_
    · rintro i x σ H3 hx ⟨os, o2, hol, hle, hb, f0, f2, f1, rfl⟩
      obtain ⟨c, rfl, hci⟩ := get_int hx
      have hi' := (List.getElem?_eq_some_iff.mp hci).1
      refine ⟨_, rfl, .inl ⟨rfl, _, SqL.of f1⟩, _, rfl, _, _, rfl, rfl, (show (0 : Int) < 17 by decide), _, rfl, _, _, rfl, rfl, (show (0 : Int) < 1000 by decide), _, rfl, _, _, rfl, rfl, ⟨by decide, by decide⟩, _, _, rfl, rfl, ⟨by decide, by decide, by decide⟩, _, _, rfl, rfl, (by decide), by show 5 ≤ sizeLine; decide, fun r4 h4 => ?_⟩
      obtain ⟨o, ho, hat⟩ := pick5 c
      have g4 := same_new h4 (.lst [.int (c % 17), .non, .int (c % 1000), .int 0, .int (c / 5 % 10 ^ (60 : Int).toNat)])
      have hlt : (os.map vo).length < sizeLine := Nat.lt_of_le_of_lt (show (os.map vo).length ≤ 999 by rw [List.length_map]; (first | lia | omega)) (small1000 (n := 999) (by decide))
      refine ⟨_, rfl, _, _, rfl, rfl, (show (0 : Int) < 5 by decide), r4, _, _, _, rfl, rfl, SqL.of upd_same, hat, r1, _, _, rfl, rfl, g4 _ _ f1, hlt, ?_⟩
      refine ⟨os ++ [o], _, by simp [hol], hi', hb.snoc ho, ?_, ?_, ?_, rfl⟩
      · rw [upd_ne n01]; exact g4 _ _ f0
      · rw [upd_ne n21]; exact g4 _ _ f2
      · rw [upd_same, List.map_append]; rfl
    · rintro σ H3 ⟨os, o2, hol, hle, hb, f0, f2, f1, rfl⟩
      exact ⟨r0, r1, ns, os, o2, SqL.of f0, by (first | lia | omega), hb, f1, rfl⟩
  clear e1 e01 n01 h1 r1 e0 h0 r0 H0 H1 ha
  rintro σ1 H1 ⟨a1, r1, ns1, os, o2, ha1, hl, hb, f1, rfl⟩
  refine ⟨by show 0 ≤ sizeLine; decide, fun r3 h3 => ?_⟩
  have n13 : r1 ≠ r3 := ne_of_none f1 h3
  have ha2 := (same_new h3 (.lst ([] : List V))).seq ha1
  have f2 := (same_new h3 (.lst ([] : List V))) _ _ f1
  have g2 : Same H1 (upd H1 r3 (.lst ([] : List V))) := same_new h3 _
  have e3 : (upd H1 r3 (.lst ([] : List V))) r3 = some (.lst (([] : List Str).map V.str)) := upd_same
  generalize upd H1 r3 (.lst ([] : List V)) = H2 at ha2 f2 e3 g2 ⊢
  refine ⟨?_, ?_⟩
  · refine ⟨_, rfl, r1, rfl, ⟨_, SqL.of f2⟩, ?_⟩
    refine for_list (xs := os.map vo) (fun i σ H' => Same H1 H' ∧ i ≤ os.length ∧ ∃ (o4 : Option V), H' r3 = some (.lst (((os.take i).map Tx.word).map V.str)) ∧ σ = [some (.ref a1), some (.ref r1), o2, some (.ref r3), o4, none, none, none, none, none, none, none])
      ⟨g2, Nat.zero_le _, none, e3, rfl⟩ (fun i σ H' _ h => SqL.of (h.1 _ _ f1)) ?_ ?_
    · rintro i x σ H3 hx ⟨g3, hle, o4, f3, rfl⟩
      obtain ⟨o, rfl, hoi⟩ := get_vo hx
      have hi' := (List.getElem?_eq_some_iff.mp hoi).1
      have hlt : (((os.take i).map Tx.word).map V.str).length < sizeLine := Nat.lt_of_le_of_lt (show (((os.take i).map Tx.word).map V.str).length ≤ 999 by rw [List.length_map, List.length_map, List.length_take]; (first | lia | omega)) (small1000 (n := 999) (by decide))
      have hnext : (upd H3 r3 (.lst (((os.take i).map Tx.word).map V.str ++ [.str (Tx.word o)]))) r3 = some (.lst (((os.take (i + 1)).map Tx.word).map V.str)) := by
        rw [upd_same, take_snoc hoi, List.map_append, List.map_append]; rfl
      have hw := hb.one hoi
      cases o with
      | none => exact ⟨_, rfl, _, rfl, iteT ⟨_, rfl, .inl ⟨rfl, _, SqL.of f3⟩, r3, _, _, rfl, rfl, f3, hlt, same_upd g3 h3, hi', _, hnext, rfl⟩⟩
      | some n =>
        have hnb := hw n (List.mem_singleton.mpr rfl)
        exact ⟨_, rfl, _, rfl, iteF ⟨_, rfl, .inl ⟨rfl, _, SqL.of f3⟩, _, rfl, n, rfl, int_len ⟨by (first | lia | omega), by (first | lia | omega)⟩, r3, _, _, rfl, rfl, f3, hlt, same_upd g3 h3, hi', _, hnext, rfl⟩⟩
    · rintro σ H3 ⟨g3, hle, o4, f3, rfl⟩
      rw [List.length_map, List.take_length] at f3
      exact ⟨a1, r1, r3, ns1, os, o2, o4, g3.seq ha1, hl, hb, g3 _ _ f1, f3, rfl⟩
  clear e3 g2 f2 ha2 n13 h3 r3 H2 f1 hb hl ha1 os ns1 r1 a1 H1
  rintro σ2 H2 ⟨a1, r1, r3, ns1, os, o2, o4, ha2, hl, hb, f1, f3, rfl⟩
  have hwl := words_len hb
  have hsum := Tx.sum_le (B := 61) (os.map Tx.word) hwl
  have hwn : (os.map Tx.word).length = os.length := List.length_map ..
  have hb1 : (Str.ofString " ").length = 1 := by decide +kernel
  refine ⟨rfl, _, rfl, _, r3, os.map Tx.word, rfl, rfl, SqL.of f3, by rw [hb1]; (first | lia | omega), ?_⟩
  refine ⟨_, rfl, r1, _, rfl, .inl (SqL.of f1), fun r6 h6 => ?_⟩
  have g3 := same_new h6 (.lst (os.map vo))
  have f6 : (upd H2 r6 (.lst (os.map vo))) r6 = some (.lst (os.map vo)) := upd_same
  generalize upd H2 r6 (.lst (os.map vo)) = H3 at g3 f6 ⊢
  refine ⟨_, rfl, r6, os, rfl, SqL.of f6, by (first | lia | omega), hb, fun H4 g4 => ?_⟩
  obtain ⟨ds, tw⟩ := tw_opts (H := H4) os 10
  have G4 := g3.trans g4
  refine ⟨_, rfl, _, rfl, .ref r6, .ref r1, _, _, _, rfl, .lst (g4 _ _ f6) (G4 _ _ f1) tw, by (first | lia | omega), by (first | lia | omega), fun H5 g5 => ?_⟩
  refine ⟨_, rfl, iteF ⟨_, rfl, _, _, _, true, rfl, TyOf.str _, kit_ss K, _, rfl, iteF ⟨_, rfl, _, rfl, rfl, _, rfl, iteNS rfl ?_⟩⟩⟩
  have G5 := G4.trans g5
  refine ⟨_, rfl, os, rfl, by (first | lia | omega), hb, fun r9 H6 g6 e9 => ?_⟩
  have G6 := G5.trans g6
  obtain ⟨ds2, tw2⟩ := tw_opts (H := H6) os 10
  refine ⟨_, rfl, .ref r9, .ref r1, _, _, _, rfl, .lst e9 (G6 _ _ f1) tw2, by (first | lia | omega), by (first | lia | omega), fun H7 g7 => ⟨_, rfl, iteF ?_⟩⟩
  have G7 := G6.trans g7
  have ha7 := G7.seq ha2
  have f37 := G7 _ _ f3
  clear tw2 ds2 tw ds G7 G6 G5 G4 g7 e9 g6 g5 g4 f6 g3 h6 f3 f1 ha2
  refine ⟨by show 14 ≤ sizeLine; decide, fun r10 h10 => ?_⟩
  have g8 : Same H7 (upd H7 r10 (.lst [.str "", .str "01", .str "00", .str "-1", .str "+1", .str "a", .str "??", .str "1?", .str "1.", .str "1,2", .str "0x", .str "-0", .str "1_0", .str " "])) := same_new h10 _
  have e10 : (upd H7 r10 (.lst [.str "", .str "01", .str "00", .str "-1", .str "+1", .str "a", .str "??", .str "1?", .str "1.", .str "1,2", .str "0x", .str "-0", .str "1_0", .str " "])) r10 = some (.lst [.str "", .str "01", .str "00", .str "-1", .str "+1", .str "a", .str "??", .str "1?", .str "1.", .str "1,2", .str "0x", .str "-0", .str "1_0", .str " "]) := upd_same
  have ha8 := g8.seq ha7
  have f38 := g8 _ _ f37
  generalize upd H7 r10 (.lst [.str "", .str "01", .str "00", .str "-1", .str "+1", .str "a", .str "??", .str "1?", .str "1.", .str "1,2", .str "0x", .str "-0", .str "1_0", .str " "]) = H8 at e10 ha8 f38 ⊢
  refine ⟨_, rfl, _, rfl, a1, 0, ns1, rfl, ha8, by decide, fun v1 => ⟨_, _, rfl, rfl, (show (0 : Int) < 14 by decide), ?_⟩⟩
  obtain ⟨b, hbb, hat⟩ := bad14 (v1 % 14) (by (first | lia | omega)) (by (first | lia | omega))
  refine ⟨r10, _, _, _, rfl, rfl, SqL.of e10, hat, ?_⟩
  refine ⟨_, rfl, a1, 1, ns1, rfl, ha8, by decide, fun v2 => ⟨_, rfl, r3, _, rfl, .inl (SqL.of f38), _, _, rfl, rfl, ?_⟩⟩
  have hsl : ((os.map Tx.word).map V.str).length = os.length := by rw [List.length_map, List.length_map]
  have hm : (0 : Int) < (((os.map Tx.word).map V.str).length : Int) + 1 := by (first | lia | omega)
  refine ⟨_, _, rfl, rfl, hm, ?_⟩
  have m2 := md (a := v2) hm
  obtain ⟨k, ek⟩ : ∃ k : Nat, v2 % ((((os.map Tx.word).map V.str).length : Int) + 1) = (k : Int) := ⟨(v2 % ((((os.map Tx.word).map V.str).length : Int) + 1)).toNat, by (first | lia | omega)⟩
  have hk : k ≤ os.length := by (first | lia | omega)
  dsimp only
  rw [ek]
  refine ⟨_, rfl, _, rfl, (k : Int), rfl, r3, _, rfl, SqL.of f38, fun r11 h11 => ?_⟩
  rw [cut_take (by rw [hsl]; exact hk), ← List.map_take, ← List.map_take]
  have g9 := same_new h11 (.lst (((os.take k).map Tx.word).map V.str))
  have e11 : (upd H8 r11 (.lst (((os.take k).map Tx.word).map V.str))) r11 = some (.lst (((os.take k).map Tx.word).map V.str)) := upd_same
  have f39 := g9 _ _ f38
  generalize upd H8 r11 (.lst (((os.take k).map Tx.word).map V.str)) = H9 at g9 e11 f39 ⊢
  refine ⟨_, rfl, by show 1 ≤ sizeLine; decide, fun r12 h12 => ?_⟩
  have g10 := same_new h12 (.lst [.str b])
  have e12 : (upd H9 r12 (.lst [.str b])) r12 = some (.lst [.str b]) := upd_same
  have e11' := g10 _ _ e11
  have f310 := g10 _ _ f39
  generalize upd H9 r12 (.lst [.str b]) = H10 at e12 e11' f310 ⊢
  have l1 : (((os.take k).map Tx.word).map V.str).length ≤ 63 := by rw [List.length_map, List.length_map, List.length_take]; (first | lia | omega)
  have l2 : (((os.drop k).map Tx.word).map V.str).length ≤ 63 := by rw [List.length_map, List.length_map, List.length_drop]; (first | lia | omega)
  refine ⟨r11, r12, _, _, rfl, rfl, e11', e12, Nat.le_trans (show _ ≤ 64 by show _ + 1 ≤ 64; (first | lia | omega)) (by decide), fun r13 h13 => ?_⟩
  have g11 := same_new h13 (.lst (((os.take k).map Tx.word).map V.str ++ [.str b]))
  have e13 : (upd H10 r13 (.lst (((os.take k).map Tx.word).map V.str ++ [.str b]))) r13 = some (.lst (((os.take k).map Tx.word).map V.str ++ [.str b])) := upd_same
  have f311 := g11 _ _ f310
  generalize upd H10 r13 (.lst (((os.take k).map Tx.word).map V.str ++ [.str b])) = H11 at e13 f311 ⊢
  refine ⟨_, rfl, _, rfl, (k : Int), rfl, r3, _, rfl, SqL.of f311, fun r14 h14 => ?_⟩
  rw [cut_rest (by rw [hsl]; exact hk), ← List.map_drop, ← List.map_drop]
  have g12 := same_new h14 (.lst (((os.drop k).map Tx.word).map V.str))
  have e14 : (upd H11 r14 (.lst (((os.drop k).map Tx.word).map V.str))) r14 = some (.lst (((os.drop k).map Tx.word).map V.str)) := upd_same
  have e13' := g12 _ _ e13
  generalize upd H11 r14 (.lst (((os.drop k).map Tx.word).map V.str)) = H12 at e14 e13' ⊢
  refine ⟨r13, r14, _, _, rfl, rfl, e13', e14, Nat.le_trans (show _ ≤ 127 by rw [List.length_append]; show _ + 1 + _ ≤ 127; (first | lia | omega)) (by decide), fun r15 h15 => ?_⟩
  have hcat : ((os.take k).map Tx.word).map V.str ++ [.str b] ++ ((os.drop k).map Tx.word).map V.str = ((os.take k).map Tx.word ++ b :: (os.drop k).map Tx.word).map V.str := by simp
  rw [hcat]
  have e15 : (upd H12 r15 (.lst (((os.take k).map Tx.word ++ b :: (os.drop k).map Tx.word).map V.str))) r15 = some (.lst (((os.take k).map Tx.word ++ b :: (os.drop k).map Tx.word).map V.str)) := upd_same
  generalize upd H12 r15 (.lst (((os.take k).map Tx.word ++ b :: (os.drop k).map Tx.word).map V.str)) = H13 at e15 ⊢
  have hbad : ¬ (((os.take k).map Tx.word ++ b :: (os.drop k).map Tx.word).length = 1 ∧ b = Str.ofString "") → BadPs ((os.take k).map Tx.word ++ b :: (os.drop k).map Tx.word) := by
    refine bad_words (fun p hp => ?_) (fun p hp => ?_) (fun p hp => ?_) (fun p hp => ?_) ?_ hbb
    · obtain ⟨o, ho, rfl⟩ := List.mem_map.mp hp
      exact ⟨_, word_prt (hb.mem (List.mem_of_mem_take ho))⟩
    · obtain ⟨o, ho, rfl⟩ := List.mem_map.mp hp
      exact word_free o (hb.mem (List.mem_of_mem_take ho))
    · obtain ⟨o, ho, rfl⟩ := List.mem_map.mp hp
      exact ⟨_, word_prt (hb.mem (List.mem_of_mem_drop ho))⟩
    · obtain ⟨o, ho, rfl⟩ := List.mem_map.mp hp
      exact word_free o (hb.mem (List.mem_of_mem_drop ho))
    · rw [List.length_map] at l1 l2; (first | lia | omega)
  refine ⟨?_, ?_⟩
  · refine ⟨_, rfl, r15, _, rfl, .inl (SqL.of e15), rfl, _, rfl, ?_⟩
    by_cases h1 : ((os.take k).map Tx.word ++ b :: (os.drop k).map Tx.word).length = 1
    · refine ite_yes (congrArg V.int (by rw [List.length_map, h1]; rfl)) ⟨_, rfl, rfl, _, rfl, ?_⟩
      by_cases h2 : b = Str.ofString ""
      · refine ite_yes (congrArg V.str h2) ⟨by show 2 ≤ sizeLine; decide, fun r16 h16 => ?_⟩
        exact ⟨[Str.ofString "1", Str.ofString ""], r16, _, _, _, _, _, _, _, _, _, _, bad_one, upd_same, rfl⟩
      · refine ite_no (fun e => h2 (by injection e)) ?_
        exact ⟨_, r15, _, _, _, _, _, _, _, _, _, _, hbad (fun z => h2 z.2), e15, rfl⟩
    · refine ite_no (fun e => h1 ?_) (iteF ?_)
      · have e2 : (((((os.take k).map Tx.word ++ b :: (os.drop k).map Tx.word).map V.str).length : Nat) : Int) = 1 := by injection e
        rw [List.length_map] at e2
        (first | lia | omega)
      · exact ⟨_, r15, _, _, _, _, _, _, _, _, _, _, hbad (fun z => h1 z.1), e15, rfl⟩
  clear hbad e15 H13 hcat
  rintro σ3 H3 ⟨ps, rs, p0, p1, p2, p3, p4, p5, p6, p7, p8, p9, ⟨hne, hjl, hpl, hpe, us, hus, hbad⟩, es, rfl⟩
  have hps := Tx.sum_le (B := 61) ps hpe
  refine ⟨rfl, _, rfl, _, rs, ps, rfl, rfl, SqL.of es, by rw [hb1]; (first | lia | omega), ?_⟩
  refine ⟨_, us, rfl, hjl, .inr ⟨hne, hus⟩, fun os' e => ?_, fun _ H4 g4 => ?_⟩
  · exfalso
    rw [e] at hbad
    obtain ⟨o, _, e2⟩ := List.mem_map.mp hbad
    cases e2
  · exact ⟨true, hCm, iteT ⟨_, rfl, q _⟩⟩
end
end Sy
namespace L3
section
variable {α : Type} {P : List α → Prop}
theorem len1 (h : ∀ a, P [a]) : ∀ us : List α, us.length = 1 → P us := by
  intro us hl
  match us, hl with
  | [a], _ => exact h a
theorem len2 (h : ∀ a b, P [a, b]) : ∀ us : List α, us.length = 2 → P us := by
  intro us hl
  match us, hl with
  | [a, b], _ => exact h a b
end
end L3
namespace Sy
open PySem PySem.Spec L2 L3
open PyProof.Rows hiding St
/-- all defs of the text keep their promises -/
theorem fin_mk {l : PySem.W.OpenLaw} {w : World} {K : PySem.W.Frag} {h : Heap} {mg : Str → Option Value} {fa f3 : Addr} (X : K.In h) (G : h.Ns mainGlobals mg) (hfa : mg "law" = some (.ref fa))
    {od3 an3 : Option Addr} {sl3 : Array (Option Value)} {oc3 kV3 dc3 pm3 cd3 ct3 : Value}
    (a3 : PySem.W.nsIn K mainGlobals "law" = some (some (.ref f3))) (l3 : K.lookup f3 = some ⟨oc3, od3, .func (PySem.W.fnOf "law" "law" (defArgs (top 14)) (defBody (top 14)) (defScope (top 14)) .none kV3 dc3 pm3 an3 cd3 ct3), sl3⟩) (c3 : PySem.W.codeIn K cd3 "law" = true) (k3 : PySem.W.keepIn K (.ref f3) = true)
    (d_sign_shown : Def K mg "sign_shown" ["sign"] (top 6))
    (d_shown : Def K mg "shown" ["signs"] (top 7))
    (d_is_number : Def K mg "is_number" ["part"] (top 8))
    (d_part_read : Def K mg "part_read" ["part"] (top 9))
    (d_line_read : Def K mg "line_read" ["line"] (top 10))
    (d__law_at : Def K mg "_law_at" ["_law_script", "_law_k"] (top 12))
    (d__law_stays_so : Def K mg "_law_stays_so" ["_law_handed", "_law_own"] (top 13))
    {tmP : Tok} (zmP : PySem.W.nsIn K mainGlobals "GAP" = some (some (.str (Str.ofString "?") tmP)))
    {tmF : Tok} (zmF : PySem.W.nsIn K mainGlobals "FIGURES" = some (some (.str (Str.ofString "0123456789") tmF)))
    (z_all : PySem.W.nsIn K mainGlobals "all" = some none)
    (z_bool : PySem.W.nsIn K mainGlobals "bool" = some none)
    (z_int : PySem.W.nsIn K mainGlobals "int" = some none)
    (z_isinstance : PySem.W.nsIn K mainGlobals "isinstance" = some none)
    (z_len : PySem.W.nsIn K mainGlobals "len" = some none)
    (z_list : PySem.W.nsIn K mainGlobals "list" = some none)
    (z_str : PySem.W.nsIn K mainGlobals "str" = some none)
    (z_tuple : PySem.W.nsIn K mainGlobals "tuple" = some none)
    {A_NoLine : Addr} (zc_NoLine : PySem.W.nsIn K mainGlobals "NoLine" = some (some (.ref A_NoLine))) (q_NoLine : PySem.W.excIn K A_NoLine vbm "ValueError.__new__" = true) (x_NoLine : PySem.W.exmOne K (.ref A_NoLine) (.ref A_NoLine) = some true)
    : ∃ fd : FuncData, (∀ (s : Shared) (v : Value), BindsTo s fd ⟨[v], []⟩ [("_law_script", v)]) ∧ ∀ base : Heap, K.In base → base.Ns mainGlobals mg → FnOk l.prog w K mg base CX0 21 fa fd ["_law_script"] (spLaw K) := by
  have e := hfa.symm.trans (PySem.W.mg_of X G a3)
  cases e
  have m_all := PySem.W.mg_none_of X G z_all
  have m_bool := PySem.W.mg_none_of X G z_bool
  have m_int := PySem.W.mg_none_of X G z_int
  have m_isinstance := PySem.W.mg_none_of X G z_isinstance
  have m_len := PySem.W.mg_none_of X G z_len
  have m_list := PySem.W.mg_none_of X G z_list
  have m_str := PySem.W.mg_none_of X G z_str
  have m_tuple := PySem.W.mg_none_of X G z_tuple
  have C_NoLine := PySem.W.mg_of X G zc_NoLine
  have mP : ∃ t, mg "GAP" = some (.str (Str.ofString "?") t) := ⟨tmP, PySem.W.mg_of X G zmP⟩
  have mF : ∃ t, mg "FIGURES" = some (.str (Str.ofString "0123456789") t) := ⟨tmF, PySem.W.mg_of X G zmF⟩
  refine ⟨PySem.W.fnOf "law" "law" (defArgs (top 14)) (defBody (top 14)) (defScope (top 14)) .none kV3 dc3 pm3 an3 cd3 ct3, fun s v => .of_eq rfl, fun base _ _ => ?_⟩
  have AT1 := ok_at (P := l.prog) (w := w) (base := base) d__law_at m_len
  have SY1 := ok_staysD (P := l.prog) (w := w) (base := base) d__law_stays_so m_isinstance m_list m_tuple m_len m_str m_int m_bool
  have SG1 := ok_sign_shown (P := l.prog) (w := w) (base := base) d_sign_shown mP m_str
  have SH2 := ok_shown d_shown SG1
  have IN1 := ok_is_number (P := l.prog) (w := w) (base := base) d_is_number mF m_all
  have PR2 := ok_part d_part_read C_NoLine q_NoLine mP m_int IN1
  have LR3 := ok_line d_line_read PR2
  exact fn_law (fun_mk l3 c3 k3) C_NoLine x_NoLine m_isinstance m_list m_len m_str AT1 SY1 SH2.up (line_of LR3).up LR3.up
end Sy
open PySem PySem.W PyProof.Rows
set_option maxRecDepth 100000 in
set_option maxHeartbeats 0 in
theorem PySem.Challenge.cw_straysign_k08_lines_holds : PySem.Challenge.rw_straysign_k08_lines.Holds := by
  w_on; o_law; k_head; (case hw => w_witness2)
  k_fill
  refine L2.walk_ofK (l := PySem.Challenge.rw_straysign_k08_lines) (n := 63) (k := 21) (x := "_law_script") (CX := L2.CX0) (sp := Sy.spLaw) rfl (by decide) rfl ⟨rfl, by decide, by decide⟩ (fun w h Y => PySem.W.kIn_of Y) ?F ?S ?C
  case F =>
    intro w mg fa h KX G hmg
    refine' Sy.fin_mk KX G hmg ?a ?l ?c ?k ?d_sign_shown ?d_shown ?d_is_number ?d_part_read ?d_line_read ?d__law_at ?d__law_stays_so  ?zmP ?zmF ?z_all ?z_bool ?z_int ?z_isinstance ?z_len ?z_list ?z_str ?z_tuple ?zc_NoLine ?q_NoLine ?x_NoLine
    (case a => k_is); (case l => k_is); (case c => k_is); (case k => k_is)
    case d_sign_shown =>
      refine' L3.def_mk KX G ?a ?l ?c ?k ?b
      (case a => k_is); (case l => k_is); (case c => k_is); (case k => k_is)
      (case b => exact fun _ _ _ _ _ _ => L3.len1 fun _ => rfl)
    case d_shown =>
      refine' L3.def_mk KX G ?a ?l ?c ?k ?b
      (case a => k_is); (case l => k_is); (case c => k_is); (case k => k_is)
      (case b => exact fun _ _ _ _ _ _ => L3.len1 fun _ => rfl)
    case d_is_number =>
      refine' L3.def_mk KX G ?a ?l ?c ?k ?b
      (case a => k_is); (case l => k_is); (case c => k_is); (case k => k_is)
      (case b => exact fun _ _ _ _ _ _ => L3.len1 fun _ => rfl)
    case d_part_read =>
      refine' L3.def_mk KX G ?a ?l ?c ?k ?b
      (case a => k_is); (case l => k_is); (case c => k_is); (case k => k_is)
      (case b => exact fun _ _ _ _ _ _ => L3.len1 fun _ => rfl)
    case d_line_read =>
      refine' L3.def_mk KX G ?a ?l ?c ?k ?b
      (case a => k_is); (case l => k_is); (case c => k_is); (case k => k_is)
      (case b => exact fun _ _ _ _ _ _ => L3.len1 fun _ => rfl)
    case d__law_at =>
      refine' L3.def_mk KX G ?a ?l ?c ?k ?b
      (case a => k_is); (case l => k_is); (case c => k_is); (case k => k_is)
      (case b => exact fun _ _ _ _ _ _ => L3.len2 fun _ _ => rfl)
    case d__law_stays_so =>
      refine' L3.def_mk KX G ?a ?l ?c ?k ?b
      (case a => k_is); (case l => k_is); (case c => k_is); (case k => k_is)
      (case b => exact fun _ _ _ _ _ _ => L3.len2 fun _ _ => rfl)
    (case zmP => k_is)
    (case zmF => k_is)
    (case z_all => k_is)
    (case z_bool => k_is)
    (case z_int => k_is)
    (case z_isinstance => k_is)
    (case z_len => k_is)
    (case z_list => k_is)
    (case z_str => k_is)
    (case z_tuple => k_is)
    (case zc_NoLine => k_is)
    (case q_NoLine => first | k_is | k_exc)
    (case x_NoLine => first | kts_exm | k_is)
  case S => exact fun K H a ns hl hO hS => ⟨a, ns, rfl, hS, hl, fun _ => rfl⟩
  case C => exact fun _ _ _ _ z => z
#print axioms PySem.Challenge.cw_straysign_k08_lines_holds
