import PyProof.Rows.All
import Wide.All
import OpenK.AllK
import Wide.FinOn
import PyProof.EqAt
import PyProof.EqKinds
import PyProof.TupleCall
import KE.BitLaws
import Open.SpecLaws
import KE.OsHead
import KE.OsGo
import PySem.Challenge.RW_roundway_s01_answers
section
set_option Elab.async false
set_option linter.all false
set_option maxRecDepth 100000
namespace L2
open PySem PySem.Spec PyProof.Rows

abbrev Key := Sum Int Str
def keyIs : Key → Value → Bool
  | .inl k, v => Value.isInt k v
  | .inr x, v => Value.isStrOf x v
def keyH (w : World) : Key → Int
  | .inl k => hashInt k
  | .inr x => hashStr w x
theorem keyIs_shape : ∀ {k : Key} {v : Value}, keyIs k v = true → (∃ i t, k = Sum.inl i ∧ v = Value.int i t) ∨ (∃ x t, k = Sum.inr x ∧ v = Value.str x t)
  | .inl i, v, h => by
    obtain ⟨t, e⟩ := Value.isInt_shape (k := i) (v := v) h
    exact .inl ⟨i, t, rfl, e⟩
  | .inr x, v, h => by
    obtain ⟨t, e⟩ := Value.isStrOf_shape (x := x) (v := v) h
    exact .inr ⟨x, t, rfl, e⟩
theorem key_ll (a b : Int) : decide ((Sum.inl a : Key) = Sum.inl b) = (a == b) := by
  by_cases e : a = b
  · subst e; simp
  · have h : ¬ (Sum.inl a : Key) = Sum.inl b := fun q => e (Sum.inl.inj q)
    rw [decide_eq_false h]
    exact (beq_eq_false_iff_ne.mpr e).symm
theorem key_rr (a b : Str) : decide ((Sum.inr a : Key) = Sum.inr b) = decide (a = b) := by
  by_cases e : a = b
  · subst e; simp
  · have h : ¬ (Sum.inr a : Key) = Sum.inr b := fun q => e (Sum.inr.inj q)
    rw [decide_eq_false h, decide_eq_false e]
theorem key_lr (a : Int) (b : Str) : decide ((Sum.inl a : Key) = Sum.inr b) = false := decide_eq_false (fun q => nomatch q)
theorem key_rl (a : Str) (b : Int) : decide ((Sum.inr a : Key) = Sum.inl b) = false := decide_eq_false (fun q => nomatch q)

def mixKind (prog : Program) (w : World) : PySem.KeyKind prog w Key where
  is := keyIs
  hash := keyH w
  inj := fun v a b ha hb => by
    rcases keyIs_shape ha with ⟨i, t, rfl, rfl⟩ | ⟨x, t, rfl, rfl⟩
    · rcases keyIs_shape hb with ⟨j, u, rfl, e⟩ | ⟨y, u, rfl, e⟩
      · injection e with e1 _; rw [e1]
      · exact nomatch e
    · rcases keyIs_shape hb with ⟨j, u, rfl, e⟩ | ⟨y, u, rfl, e⟩
      · exact nomatch e
      · injection e with e1 _; rw [e1]
  byValue := fun k v h => by
    rcases keyIs_shape h with ⟨i, t, rfl, rfl⟩ | ⟨x, t, rfl, rfl⟩ <;> rfl
  pyHash := fun hv h => by
    rcases keyIs_shape hv with ⟨i, t, rfl, rfl⟩ | ⟨x, t, rfl, rfl⟩
    · exact wpAny_pyHash_int h
    · exact wpAny_pyHash_str h
  eqBool := fun hu hv h => by
    rcases keyIs_shape hu with ⟨i, t, rfl, rfl⟩ | ⟨x, t, rfl, rfl⟩
    · rcases keyIs_shape hv with ⟨j, u, rfl, rfl⟩ | ⟨y, u, rfl, rfl⟩
      · rw [key_ll] at h; exact wpAny_eqBool_int h
      · rw [key_lr] at h; exact SeqAt.EqAt.int_str i t y u _ _ _ _ h
    · rcases keyIs_shape hv with ⟨j, u, rfl, rfl⟩ | ⟨y, u, rfl, rfl⟩
      · rw [key_rl] at h; exact SeqAt.EqAt.str_int x t j u _ _ _ _ h
      · rw [key_rr] at h; exact wpAny_eqBool_str h
  «strs» := fun k x t v h => by
    rcases keyIs_shape h with ⟨i, u, rfl, e⟩ | ⟨y, u, rfl, e⟩
    · exact nomatch e
    · injection e with e1 _
      subst e1
      cases v <;> rfl

end L2

namespace L2
open PySem PySem.Spec PyProof.Rows

inductive V where
  | non | bl (b : Bool) | int (i : Int) | str (x : Str) | byt (b : Array UInt8) | flt (b : UInt64) | ref (a : Addr) | ty (n : String)
  deriving DecidableEq

def RelV : V → Value → Prop
  | .non, u => u = Value.none
  | .bl b, u => u = Value.bool b
  | .int i, u => ∃ t, u = Value.int i t
  | .str x, u => ∃ t, u = Value.str x t
  | .byt b, u => ∃ t, u = Value.bytes b t
  | .flt b, u => ∃ t, u = Value.float b t
  | .ref a, u => u = Value.ref a
  | .ty n, u => u = Value.type n

abbrev Vals : List V → List Value → Prop := Paired RelV
theorem Vals.length {xs : List V} {us : List Value} (r : Vals xs us) : xs.length = us.length := Paired.length r
theorem Vals.get : ∀ {xs : List V} {us : List Value} {i : Nat} {x : V}, Vals xs us → xs[i]? = some x → ∃ u, us[i]? = some u ∧ RelV x u
  | _, _, _, _, .nil, e => by simp at e
  | _, _, 0, _, .cons r _, e => by simp at e; subst e; exact ⟨_, rfl, r⟩
  | _, _, i + 1, x, .cons _ t, e => by
    obtain ⟨u, h1, h2⟩ := Vals.get (i := i) (x := x) t (by simpa using e)
    exact ⟨u, by simpa using h1, h2⟩
theorem Vals.set {x : V} {u : Value} (r : RelV x u) : ∀ {xs : List V} {us : List Value} (i : Nat), Vals xs us → Vals (xs.set i x) (us.set i u)
  | _, _, _, .nil => .nil
  | _, _, 0, .cons _ t => .cons r t
  | _, _, i + 1, .cons q t => .cons q (Vals.set r i t)
theorem Vals.append : ∀ {xs ys : List V} {us ws : List Value}, Vals xs us → Vals ys ws → Vals (xs ++ ys) (us ++ ws)
  | _, _, _, _, .nil, s => s
  | _, _, _, _, .cons r t, s => .cons r (Vals.append t s)
theorem Vals.take : ∀ {xs : List V} {us : List Value} (n : Nat), Vals xs us → Vals (xs.take n) (us.take n)
  | _, _, 0, _ => .nil
  | _, _, _ + 1, .nil => .nil
  | _, _, n + 1, .cons r t => .cons r (Vals.take n t)
theorem Vals.drop : ∀ {xs : List V} {us : List Value} (n : Nat), Vals xs us → Vals (xs.drop n) (us.drop n)
  | _, _, 0, r => r
  | _, _, _ + 1, .nil => .nil
  | _, _, n + 1, .cons _ t => Vals.drop n t
theorem Vals.none_of : ∀ {xs : List V} {us : List Value} {i : Nat}, Vals xs us → xs[i]? = none → us[i]? = none := fun {xs us i} r e => by
  have h1 := r.length
  have h2 : xs.length ≤ i := List.getElem?_eq_none_iff.mp e
  exact List.getElem?_eq_none_iff.mpr (by omega)

def RelO : Option V → Option Value → Prop
  | some v, some u => RelV v u
  | none, none => True
  | _, _ => False
def KV {κ : Type} : List (κ × V) → List (κ × Value) → Prop := Paired fun (p : κ × V) (q : κ × Value) => p.1 = q.1 ∧ RelV p.2 q.2

def kV : Key → V
  | .inl i => .int i
  | .inr x => .str x

inductive HO where
  /-- a list -/
  | lst (xs : List V)
  /-- a tuple (never changes) -/
  | tup (xs : List V)
  /-- a dict whose keys are ints and texts; one whose keys are tuples of ints and texts (the empty one is both) -/
  | dK (kvs : List (Key × V)) | dT (kvs : List (List Key × V))
  /-- a set of ints: its members, its size -/
  | set (S : Int → Bool) (n : Nat)
  /-- an instance of the class at C, its dict at dx, its attributes -/
  | ins (C dx : Addr) (fs : List (Str × V))
  /-- the dict of the instance at x -/
  | own (x : Addr)
  /-- the dict of an exception -/
  | xd (fs : List (Str × V))
  /-- a bound method, f of x -/
  | met (f x : Addr)
  /-- a range object lo, lo + 1, .. below hi -/
  | rng (lo hi : Int)
  /-- a thing that is known to the object (the script; a dict while a loop walks it): read, never written while it is so -/
  | frz (o : Obj) (u : HO)
  /-- a code object's table -/
  | tbl (ps : Array Value)
  /-- any other thing, by what is true of its one object (a def of one's own: SetO a S n := HO.ext fun h => ..) -/
  | ext (φ : Heap → Prop)

abbrev Hp := Addr → Option HO
def upd (H : Hp) (a : Addr) (o : HO) : Hp := fun b => if b = a then some o else H b
theorem upd_same {H : Hp} {a : Addr} {o : HO} : upd H a o a = some o := by unfold upd; rw [if_pos rfl]
theorem upd_ne {H : Hp} {a b : Addr} {o : HO} (h : b ≠ a) : upd H a o b = H b := by unfold upd; rw [if_neg h]
theorem ne_of {H : Hp} {a b : Addr} {o u : HO} (h : H a = some o) (h' : H b = some u) (d : o ≠ u) : a ≠ b := by
  intro e; subst e; rw [h] at h'; exact d (Option.some.inj h')
theorem ne_of_none {H : Hp} {a b : Addr} {o : HO} (h : H a = some o) (h' : H b = none) : a ≠ b := by
  intro e; subst e; rw [h] at h'; cases h'

section
variable (P : Program) (w : World)
def ObjOk (H : Hp) (h : Heap) (a : Addr) : HO → Prop
  | .lst xs => xs.length ≤ sizeLine ∧ ∃ (its : List Value) (n : Nat), Vals xs its ∧ h.get? a = some { cls := .type "list", data := .seq its.toArray n }
  | .tup xs => xs.length ≤ sizeLine ∧ ∃ its : List Value, Vals xs its ∧ IsTup h a its.toArray
  | .dK kvs => kvs.length ≤ sizeLine ∧ (a == sysModules) = false ∧ ∃ vs, KV kvs vs ∧ h.DictOf (mixKind P w) a vs
  | .dT kvs => kvs.length ≤ sizeLine ∧ (a == sysModules) = false ∧ ∃ xs : List (List Key × Addr × Value),
      Paired (fun (p : List Key × V) (q : List Key × Addr × Value) => p.1 = q.1 ∧ H q.2.1 = some (.tup (p.1.map kV)) ∧ RelV p.2 q.2.2) kvs xs ∧
      ∃ o es ep, h.get? a = some o ∧ o.ExactDict ∧ o.data = .dict es ep ∧ es.toList = xs.map (entryOfKey (tupleKind (mixKind P w))) ∧ (xs.map (·.1)).Nodup
  | .set S n => h.SetOf (intKind P w) a S n
  | .ins C dx fs => H dx = some (.own a) ∧ fs.length ≤ 1000 ∧ dx ≠ a ∧ h.get? a = some (PySem.W.instObj C dx) ∧
      ∃ mA, h.Ns1 dx mA ∧ (∀ f, RelO (fs.lookup f) (mA f)) ∧ PySem.Within mA (fs.map (·.1))
  | .own _ => ∃ o, h.get? a = some o
  | .xd fs => ∃ mA, h.Ns1 a mA ∧ ∀ f, RelO (fs.lookup f) (mA f)
  | .rng lo hi => ∃ t u v, h.get? a = some { cls := .type "range", data := .fields #[.int lo t, .int hi u, .int 1 v] }
  | .frz o u => h.get? a = some o ∧ ObjOk H h a u
  | .tbl ps => h.get? a = some { cls := .none, data := .fields ps }
  | .met f x => h.get? a = some (PySem.W.methodObj (.ref f) (.ref x))
  | .ext φ => φ h ∧ (∃ o, h.get? a = some o) ∧ ∀ h1 h2 : Heap, φ h1 → (∀ o, h1.get? a = some o → h2.get? a = some o) → φ h2
def HOk (H : Hp) (h : Heap) : Prop := ∀ a o, H a = some o → ObjOk P w H h a o
end

section
variable {P : Program} {w : World} {H H' : Hp} {h h' : Heap} {a : Addr} {o : HO}
theorem ObjOk.lt (x : ObjOk P w H h a o) : a < h.objs.size := by
  cases o with
  | lst xs => obtain ⟨_, _, _, _, e⟩ := x; exact Heap.lt_size e
  | tup xs => obtain ⟨_, _, _, p⟩ := x; exact p.lt
  | dK kvs => obtain ⟨_, _, _, _, o, _, _, e, _⟩ := x; exact Heap.lt_size e
  | dT kvs => obtain ⟨_, _, _, _, o, _, _, e, _⟩ := x; exact Heap.lt_size e
  | set S n => obtain ⟨o, _, _, _, e, _⟩ := x; exact Heap.lt_size e
  | ins C dx fs => obtain ⟨_, _, _, e, _⟩ := x; exact Heap.lt_size e
  | own y => obtain ⟨_, e⟩ := x; exact Heap.lt_size e
  | xd fs => obtain ⟨_, ⟨_, _, _, e, _⟩, _⟩ := x; exact Heap.lt_size e
  | rng lo hi => obtain ⟨_, _, _, e⟩ := x; exact Heap.lt_size e
  | frz ob u => obtain ⟨e, _⟩ := x; exact Heap.lt_size e
  | tbl ps => exact Heap.lt_size (show h.get? a = some _ from x)
  | met f y => exact Heap.lt_size (show h.get? a = some _ from x)
  | ext φ => obtain ⟨_, ⟨_, e⟩, _⟩ := x; exact Heap.lt_size e
theorem Paired.mapP {α β : Type} {F G : α → β → Prop} : ∀ {l₁ : List α} {l₂ : List β}, Paired F l₁ l₂ → (∀ a b, F a b → G a b) → Paired G l₁ l₂
  | _, _, .nil, _ => .nil
  | _, _, .cons r t, f => .cons (f _ _ r) (Paired.mapP t f)
theorem ObjOk.stay (x : ObjOk P w H h a o) (k : ∀ b u, (b = a ∨ H b = some (.own a)) → h.get? b = some u → h'.get? b = some u)
    (ho : ∀ b, H b = some (.own a) → H' b = some (.own a)) (ht : ∀ b xs, H b = some (.tup xs) → H' b = some (.tup xs)) : ObjOk P w H' h' a o := by
  induction o with
  | lst xs => obtain ⟨z, its, n, r, e⟩ := x; exact ⟨z, its, n, r, k _ _ (.inl rfl) e⟩
  | tup xs => obtain ⟨z, its, r, ob, e, c⟩ := x; exact ⟨z, its, r, ob, k _ _ (.inl rfl) e, c⟩
  | dK kvs => obtain ⟨z, y, vs, r, ob, es, ep, e, c⟩ := x; exact ⟨z, y, vs, r, ob, es, ep, k _ _ (.inl rfl) e, c⟩
  | dT kvs =>
    obtain ⟨z, y, xs, r, ob, es, ep, e, c⟩ := x
    exact ⟨z, y, xs, Paired.mapP r fun p q z => ⟨z.1, ht _ _ z.2.1, z.2.2⟩, ob, es, ep, k _ _ (.inl rfl) e, c⟩
  | set S n => obtain ⟨ob, es, ep, t, e, c⟩ := x; exact ⟨ob, es, ep, t, k _ _ (.inl rfl) e, c⟩
  | ins C dx fs =>
    obtain ⟨d, z, ne, e, mA, ⟨od, es, ep, e2, c⟩, r⟩ := x
    exact ⟨ho _ d, z, ne, k _ _ (.inl rfl) e, mA, ⟨od, es, ep, k _ _ (.inr d) e2, c⟩, r⟩
  | own y => obtain ⟨ob, e⟩ := x; exact ⟨ob, k _ _ (.inl rfl) e⟩
  | xd fs => obtain ⟨mA, ⟨od, es, ep, e, c⟩, r⟩ := x; exact ⟨mA, ⟨od, es, ep, k _ _ (.inl rfl) e, c⟩, r⟩
  | rng lo hi => obtain ⟨t, u, v, e⟩ := x; exact ⟨t, u, v, k _ _ (.inl rfl) e⟩
  | frz ob u ih => obtain ⟨e, q⟩ := x; exact ⟨k _ _ (.inl rfl) e, ih q⟩
  | tbl ps =>
    have e : h.get? a = some { cls := .none, data := .fields ps } := x
    show h'.get? a = some { cls := .none, data := .fields ps }
    exact k a _ (.inl rfl) e
  | met f y =>
    have e : h.get? a = some (PySem.W.methodObj (.ref f) (.ref y)) := x
    show h'.get? a = some (PySem.W.methodObj (.ref f) (.ref y))
    exact k a _ (.inl rfl) e
  | ext φ => obtain ⟨p, ⟨o, e⟩, st⟩ := x; exact ⟨st _ _ p fun o q => k _ _ (.inl rfl) q, ⟨o, k _ _ (.inl rfl) e⟩, st⟩
theorem HOk.lt (x : HOk P w H h) (e : H a = some o) : a < h.objs.size := (x a o e).lt
theorem HOk.fresh (x : HOk P w H h) (e : h.objs.size ≤ a) : H a = none := by
  cases q : H a with
  | none => rfl
  | some u => exact absurd (Nat.lt_of_lt_of_le (x.lt q) e) (Nat.lt_irrefl _)
theorem HOk.kept (x : HOk P w H h) (k : ∀ b u, h.get? b = some u → h'.get? b = some u) : HOk P w H h' := fun a o e =>
  (x a o e).stay (fun b u _ q => k b u q) (fun _ q => q) fun _ _ q => q
theorem HOk.laid (x : HOk P w H h) (k : ∀ b u, h.get? b = some u → h'.get? b = some u) (hp : h.objs.size ≤ a) (new : ObjOk P w (upd H a o) h' a o) : HOk P w (upd H a o) h' := fun b u e => by
  have hn := x.fresh hp
  by_cases hb : b = a
  · subst hb; rw [upd_same] at e; cases e; exact new
  · rw [upd_ne hb] at e
    exact (x b u e).stay (fun c v _ q => k c v q) (fun c q => by rw [upd_ne (ne_of_none q hn)]; exact q) fun c xs q => by rw [upd_ne (ne_of_none q hn)]; exact q
end

def Rd (H : Hp) (a : Addr) (u : HO) : Prop := H a = some u ∨ ∃ o, H a = some (.frz o u)
theorem Rd.of {H : Hp} {a : Addr} {u : HO} (h : H a = some u) : Rd H a u := .inl h
theorem Rd.ok {P : Program} {w : World} {H : Hp} {h : Heap} {a : Addr} {u : HO} (r : Rd H a u) (x : HOk P w H h) : ObjOk P w H h a u := by
  rcases r with r | ⟨o, r⟩
  · exact x a u r
  · obtain ⟨_, q⟩ := x a _ r
    exact q
def Mut : Option HO → Prop
  | some (.lst _) => True
  | some (.dK _) => True
  | some (.dT _) => True
  | some (.set _ _) => True
  | some (.ins _ _ _) => True
  | some (.ext _) => True
  | _ => False
section
variable {P : Program} {w : World} {H : Hp} {h h' : Heap} {x e : Addr} {o' : HO}
theorem HOk.write (ok : HOk P w H h) (mu : Mut (H x)) (he : e = x ∨ H e = some (.own x)) (k : ∀ b u, b ≠ e → h.get? b = some u → h'.get? b = some u) (heo : ∃ u, h'.get? e = some u)
    (new : ObjOk P w (upd H x o') h' x o') : HOk P w (upd H x o') h' := fun b u q => by
  have nown : ∀ c y, H c = some (.own y) → c ≠ x := fun c y r z => by subst z; rw [r] at mu; exact mu
  have ntup : ∀ c xs, H c = some (.tup xs) → c ≠ x := fun c xs r z => by subst z; rw [r] at mu; exact mu
  by_cases hb : b = x
  · subst hb; rw [upd_same] at q; cases q; exact new
  · rw [upd_ne hb] at q
    by_cases hbe : b = e
    · have q' : H b = some (.own x) := by
        rcases he with z | z
        · exact absurd (hbe.trans z) hb
        · rw [hbe]; exact z
      rw [q] at q'; cases q'
      obtain ⟨v, hv⟩ := heo
      exact ⟨v, by rw [hbe]; exact hv⟩
    · refine (ok b u q).stay (fun c v hc r => k c v ?_ r) (fun c r => by rw [upd_ne (nown c b r)]; exact r) fun c xs r => by rw [upd_ne (ntup c xs r)]; exact r
      rcases hc with rfl | hc
      · exact hbe
      · rintro rfl
        rcases he with z | z
        · exact nown c b hc z
        · rw [hc] at z; cases z; exact hb rfl
end

structure Un (fs ex : List Addr) (H H' : Hp) (h h' : Heap) : Prop where
  keep : ∀ b o, h.get? b = some o → H b = none → b ∉ fs → b ∉ ex → h'.get? b = some o
  slot : ∀ b o, h.get? b = some o → H b = none → b ∈ fs → b ∉ ex → ∃ sl, h'.get? b = some { o with slots := sl }
  free : ∀ b o, h.get? b = some o → H b = none → b ∉ ex → H' b = none
  there : ∀ b o, h.get? b = some o → b ∉ ex → ∃ o', h'.get? b = some o'
  tups : ∀ b xs, H b = some (.tup xs) → H' b = some (.tup xs)
  frzs : ∀ b o u, H b = some (.frz o u) → H' b = some (.frz o u)
  tbls : ∀ b ps, H b = some (.tbl ps) → ∃ more, H' b = some (.tbl (ps ++ more))
section
variable {fs fs' ex ex' : List Addr} {H H1 H2 : Hp} {h h1 h2 h' : Heap} {a x e : Addr} {o : HO}
theorem Un.any (u : Un fs ex H H1 h h1) {b : Addr} {ob : Obj} (q : h.get? b = some ob) (n : H b = none) (hx : b ∉ ex) : ∃ sl, h1.get? b = some { ob with slots := sl } := by
  by_cases hb : b ∈ fs
  · exact u.slot b ob q n hb hx
  · exact ⟨ob.slots, u.keep b ob q n hb hx⟩
theorem Un.trans (a : Un fs ex H H1 h h1) (b : Un fs ex H1 H2 h1 h2) : Un fs ex H H2 h h2 where
  keep := fun c ob q n hc hx => b.keep c ob (a.keep c ob q n hc hx) (a.free c ob q n hx) hc hx
  slot := fun c ob q n hc hx => by
    obtain ⟨sl, e1⟩ := a.slot c ob q n hc hx
    obtain ⟨sl', e2⟩ := b.slot c _ e1 (a.free c ob q n hx) hc hx
    exact ⟨sl', e2⟩
  free := fun c ob q n hx => by
    obtain ⟨o', e1⟩ := a.there c ob q hx
    exact b.free c o' e1 (a.free c ob q n hx) hx
  there := fun c ob q hx => by
    obtain ⟨o', e1⟩ := a.there c ob q hx
    exact b.there c o' e1 hx
  tups := fun c xs q => b.tups c xs (a.tups c xs q)
  frzs := fun c ob xs q => b.frzs c ob xs (a.frzs c ob xs q)
  tbls := fun c ps q => by
    obtain ⟨m1, e1⟩ := a.tbls c ps q
    obtain ⟨m2, e2⟩ := b.tbls c _ e1
    exact ⟨m1 ++ m2, by rw [e2, Array.append_assoc]⟩
theorem Un.kept (k : ∀ b u, h.get? b = some u → h'.get? b = some u) : Un fs ex H H h h' :=
  ⟨fun b ob q _ _ _ => k b ob q, fun b ob q _ _ _ => ⟨ob.slots, k b ob q⟩, fun _ _ _ n _ => n, fun b ob q _ => ⟨ob, k b ob q⟩, fun _ _ q => q, fun _ _ _ q => q, fun _ ps q => ⟨#[], by rw [q]; simp⟩⟩
theorem Un.refl : Un fs ex H H h h := Un.kept fun _ _ q => q
theorem Un.laid (k : ∀ b u, h.get? b = some u → h'.get? b = some u) (hp : h.objs.size ≤ a) (hn : H a = none) : Un fs ex H (upd H a o) h h' where
  keep := fun b u q _ _ _ => k b u q
  slot := fun b u q _ _ _ => ⟨u.slots, k b u q⟩
  free := fun b u q n _ => by rw [upd_ne (Nat.ne_of_lt (Nat.lt_of_lt_of_le (Heap.lt_size q) hp))]; exact n
  there := fun b u q _ => ⟨u, k b u q⟩
  tups := fun b xs q => by rw [upd_ne (ne_of_none q hn)]; exact q
  frzs := fun b u xs q => by rw [upd_ne (ne_of_none q hn)]; exact q
  tbls := fun b ps q => ⟨#[], by rw [upd_ne (ne_of_none q hn), q]; simp⟩
theorem Un.write (mu : Mut (H x)) (he : e = x ∨ H e = some (.own x)) (k : ∀ b u, b ≠ e → h.get? b = some u → h'.get? b = some u) (heo : ∃ u, h'.get? e = some u) : Un fs ex H (upd H x o) h h' := by
  have hx : ∀ b, H b = none → b ≠ x := fun b n z => by subst z; rw [n] at mu; exact mu
  have hb : ∀ b, H b = none → b ≠ e := fun b n z => by
    subst z
    rcases he with r | r
    · exact hx b n r
    · rw [n] at r; cases r
  have hm : ∀ b u, H b = some u → ¬ Mut (some u) → b ≠ x := fun b u q nm z => by subst z; rw [q] at mu; exact nm mu
  refine ⟨fun b u q n _ _ => k b u (hb b n) q, fun b u q n _ _ => ⟨u.slots, k b u (hb b n) q⟩, fun b u q n _ => by rw [upd_ne (hx b n)]; exact n, fun b u q _ => ?_,
    fun b xs q => by rw [upd_ne (hm b _ q fun z => z)]; exact q, fun b u xs q => by rw [upd_ne (hm b _ q fun z => z)]; exact q, fun b ps q => ⟨#[], by rw [upd_ne (hm b _ q fun z => z), q]; simp⟩⟩
  by_cases hbe : b = e
  · subst hbe; exact heo
  · exact ⟨u, k b u hbe q⟩
theorem Un.mono (u : Un fs ex H H1 h h1) (hs : ∀ b ∈ fs, b ∈ fs') (hx : ∀ b ∈ ex, b ∈ ex') : Un fs' ex' H H1 h h1 :=
  ⟨fun b ob q n hb he => u.keep b ob q n (fun z => hb (hs b z)) fun z => he (hx b z), fun _ _ q n _ he => u.any q n fun z => he (hx _ z), fun b ob q n he => u.free b ob q n fun z => he (hx b z), fun b ob q he => u.there b ob q fun z => he (hx b z), u.tups, u.frzs, u.tbls⟩
end

def trk (h : Heap) (H : Hp) : List Addr := (List.range h.objs.size).filter fun a => (H a).isSome
def hidT (h : Heap) (H : Hp) : Heap := PySem.W.hideAll h (trk h H)
theorem hidT_size (h : Heap) (H : Hp) : (hidT h H).objs.size = h.objs.size := PySem.W.hideAll_size _ _
theorem hidT_get {h : Heap} {H : Hp} {b : Addr} {o : Obj} (e : h.get? b = some o) (n : H b = none) : (hidT h H).get? b = some o :=
  PySem.W.hideAll_get _ e fun hm => by
    have q : (H b).isSome = true := (List.mem_filter.mp hm).2
    rw [n] at q; simp at q
theorem of_hidT {h : Heap} {H : Hp} {b : Addr} {o : Obj} (e : (hidT h H).get? b = some o) : h.get? b = some o ∧ H b = none := by
  have e' : h.get? b = some o := PySem.W.of_hideAll (trk h H) e
  refine ⟨e', ?_⟩
  cases q : H b with
  | none => rfl
  | some x =>
    have hm : b ∈ trk h H := List.mem_filter.mpr ⟨List.mem_range.mpr (Heap.lt_size e'), by simp [q]⟩
    have z : (hidT h H).get? b = none := PySem.W.hideAll_none (trk h H) hm
    rw [z] at e; cases e

def allNews (g h : Heap) (L : Addr) : List (Addr × Obj) := (List.range h.objs.size).filterMap fun a => if a = L ∨ (g.get? a).isSome = true then none else (h.get? a).map fun o => (a, o)
def rest (g h : Heap) (L d : Addr) : List (Addr × Obj) := (allNews g h L).filter fun p => decide (p.1 ≠ d)
end L2

namespace L2
open PySem PySem.Spec PyProof.Rows

structure Mod (K : PySem.W.Frag) (mg : Str → Option Value) (base : Heap) : Prop where
  kin : K.In base
  glob : base.Ns mainGlobals mg
  blt : ∃ mb, base.Ns builtinsNs mb ∧ ∀ x : Str, x ≠ "__name__" → mb x = bootBuiltins x
  nolimit : base.NoLimit

structure Cx where
  prog : Program
  w : World
  K : PySem.W.Frag
  mg : Str → Option Value
  base : Heap
  A : Around
  N : List Str
  s_0 : Shared
  H_0 : Hp
  env : Env
  outer : List Env
  stack : List Env
  ex : List Addr
  fn : Str → Bool
  calm : Bool
  pn : List (Addr × Obj)
  xe : Value → Shared → Prop
def frs (l : List Env) : List Addr := l.filterMap (·.frame)
abbrev Cx.fs (X : Cx) : List Addr := frs X.outer

def Vis (sc : Scope) (x : Str) : Prop := sc.names.lookup x = some .local ∨ sc.names.lookup x = some .cell ∨ sc.names.lookup x = some .free
def Loc (sc : Scope) (x : Str) : Prop := sc.names.lookup x = some .local ∨ sc.names.lookup x = some .cell
def Look (env : Env) (h : Heap) (m : Str → Option Value) (x : Str) (u : Value) : Prop :=
  (env.kindOf x = some .local ∧ m x = some u) ∨ ((env.kindOf x = some .cell ∨ env.kindOf x = some .free) ∧ ∃ c, env.cells.lookup x = some c ∧ h.IsCell c (some u))

structure Cx.Ok (X : Cx) : Prop where
  mod : Mod X.K X.mg X.base
  kind : X.env.scope.kind = .function
  glob : X.env.globals = mainGlobals
  blt : X.env.builtins = builtinsNs
  above : X.s_0.heap.objs.size ≤ X.env.locals
  inj : ∀ x y c, X.env.cells.lookup x = some c → X.env.cells.lookup y = some c → x = y
  has : ∀ x, (X.env.kindOf x = some .cell ∨ X.env.kindOf x = some .free) → ∃ c, X.env.cells.lookup x = some c
  cab : ∀ x c, X.fn x = true → X.env.cells.lookup x = some c → X.s_0.heap.objs.size ≤ c
  hd : X.calm = true → X.A.handled = none
  frames : X.A.frames = some X.stack
  stk : X.stack = X.outer ∨ (X.stack = X.env :: X.outer ∧ X.env.frame = some X.env.locals)
  exf : ∀ b ∈ X.ex, b ≠ X.env.locals ∧ ∀ x c, X.env.cells.lookup x = some c → c ≠ b
  bs : ∀ b o, X.base.get? b = some o → X.s_0.heap.get? b = some o ∧ X.H_0 b = none
  bsz : X.base.objs.size ≤ X.s_0.heap.objs.size
  noex : ∀ b o, X.base.get? b = some o → b ∉ X.ex
  exfs : ∀ b ∈ X.ex, b ∉ X.fs
  funs : X.s_0.heap.FunFrames X.base X.outer
  frf : ∀ b ∈ X.fs, X.H_0 b = none

structure Inv (X : Cx) (pins : List (Addr × Obj)) (σ : List (Option V)) (H : Hp) (s : Shared) : Prop where
  ok : X.Ok
  os : s.os = X.s_0.os
  bare : AllBare s.gens
  base : Un X.fs X.ex X.H_0 H X.s_0.heap s.heap
  loc : ∃ m, s.heap.Ns X.env.locals m ∧ ∀ (i : Nat) (x : Str) (v : V), X.N[i]? = some x → σ[i]? = some (some v) → Vis X.env.scope x → ∃ u, RelV v u ∧ Look X.env s.heap m x u
  cell : ∀ x c, X.env.cells.lookup x = some c → ∃ v, s.heap.IsCell c v
  free : H X.env.locals = none
  freeC : ∀ x c, X.env.cells.lookup x = some c → H c = none
  pin : ∀ p ∈ X.pn ++ pins, s.heap.get? p.1 = some p.2 ∧ H p.1 = none ∧ p.1 ≠ X.env.locals ∧ p.1 ∉ X.fs ∧ ∀ v, p.2.data ≠ .cell v
  hok : HOk X.prog X.w H s.heap
  len : σ.length = X.N.length

section
variable {X : Cx} {pins : List (Addr × Obj)} {σ : List (Option V)} {H H' : Hp} {s : Shared} {h' : Heap}

theorem Cx.Ok.nofr (ok : X.Ok) {b : Addr} {o : Obj} (e : X.base.get? b = some o) : b ∉ X.fs := fun hb => by
  have := (ok.funs.mem hb).1
  rw [e] at this; cases this
theorem Inv.bs (I : Inv X pins σ H s) : ∀ b o, X.base.get? b = some o → s.heap.get? b = some o ∧ H b = none := fun b o e =>
  ⟨I.base.keep b o (I.ok.bs b o e).1 (I.ok.bs b o e).2 (I.ok.nofr e) (I.ok.noex b o e), I.base.free b o (I.ok.bs b o e).1 (I.ok.bs b o e).2 (I.ok.noex b o e)⟩
theorem Inv.bk (I : Inv X pins σ H s) : ∀ b o, X.base.get? b = some o → s.heap.get? b = some o := fun b o e => (I.bs b o e).1
theorem Inv.mod (I : Inv X pins σ H s) : Mod X.K X.mg X.base := I.ok.mod
theorem Inv.kIn (I : Inv X pins σ H s) : X.K.In s.heap := I.ok.mod.kin.keeps I.bk
theorem Inv.nolimit (I : Inv X pins σ H s) : s.heap.NoLimit := I.ok.mod.nolimit.keeps I.bk
theorem Inv.lt (I : Inv X pins σ H s) : X.env.locals < s.heap.objs.size := let ⟨_, hn, _⟩ := I.loc; hn.lt
theorem Inv.sz (I : Inv X pins σ H s) : X.s_0.heap.objs.size ≤ s.heap.objs.size := Nat.le_trans I.ok.above (Nat.le_of_lt I.lt)
theorem Inv.nofs (I : Inv X pins σ H s) {a : Addr} (h : s.heap.objs.size ≤ a) : a ∉ X.fs := fun hb => by
  obtain ⟨_, o, ho, _⟩ := I.ok.funs.mem hb
  exact absurd (Nat.lt_of_lt_of_le (Heap.lt_size ho) (Nat.le_trans I.sz h)) (Nat.lt_irrefl _)
theorem Inv.cne (I : Inv X pins σ H s) : ∀ x c, X.env.cells.lookup x = some c → c ≠ X.env.locals := fun x c e z => by
  obtain ⟨v, o, ho, hd⟩ := I.cell x c e
  obtain ⟨m, ⟨o', es, ep, ho', hd', _⟩, _⟩ := I.loc
  rw [z, ho'] at ho; cases ho; rw [hd'] at hd; cases hd
theorem Inv.funs (I : Inv X pins σ H s) : s.heap.FunFrames X.base X.outer := by
  have all : ∀ (l : List Env), (∀ b ∈ frs l, b ∈ X.fs) → X.s_0.heap.FunFrames X.base l → s.heap.FunFrames X.base l := by
    intro l
    induction l with
    | nil => intro _ _; trivial
    | cons env r ih =>
      intro hs hl
      obtain ⟨hk, ⟨L, o, hf, hn, ho, hd⟩, hr⟩ := hl
      have hL : L ∈ X.fs := hs L (by unfold frs; rw [List.filterMap_cons, hf]; exact List.mem_cons_self)
      obtain ⟨sl, e⟩ := I.base.slot L o ho (I.ok.frf L hL) hL fun z => I.ok.exfs L z hL
      exact ⟨hk, ⟨L, _, hf, hn, e, hd⟩, ih (fun b hb => hs b (by unfold frs; rw [List.filterMap_cons, hf]; exact List.mem_cons_of_mem _ hb)) hr⟩
  exact all X.outer (fun _ hb => hb) I.ok.funs

theorem Inv.stack (I : Inv X pins σ H s) : s.heap.FunFrames X.base X.stack := by
  rcases I.ok.stk with e | ⟨e, hf⟩
  · rw [e]; exact I.funs
  · rw [e]
    obtain ⟨m, hn, _⟩ := I.loc
    refine .cons (by rw [I.ok.kind]; decide) hf hn ?_ I.funs
    exact Heap.get?_none_of_le (Nat.le_trans I.ok.bsz I.ok.above)
theorem Inv.stkSub (I : Inv X pins σ H s) : ∀ b ∈ frs X.stack, b ∈ X.env.locals :: X.fs := fun b hb => by
  rcases I.ok.stk with e | ⟨e, hf⟩
  · rw [e] at hb; exact List.mem_cons_of_mem _ hb
  · rw [e] at hb
    unfold frs at hb
    rw [List.filterMap_cons, hf] at hb
    exact hb
theorem Inv.stkFree (I : Inv X pins σ H s) : ∀ b ∈ frs X.stack, H b = none := fun b hb => by
  rcases List.mem_cons.mp (I.stkSub b hb) with e | hb
  · rw [e]; exact I.free
  · obtain ⟨_, o, ho, _⟩ := I.ok.funs.mem hb
    exact I.base.free b o ho (I.ok.frf b hb) fun z => I.ok.exfs b z hb

theorem Inv.step {g' : Array GenState} {t' : Nat} {d' : Drawn} {ch : List Addr} (I : Inv X pins σ H s)
    (hch : ∀ b ∈ ch, (b ∈ X.ex ∨ X.s_0.heap.objs.size ≤ b) ∧ b ≠ X.env.locals ∧ (∀ x c, X.env.cells.lookup x = some c → c ≠ b) ∧ ∀ p ∈ X.pn ++ pins, p.1 ≠ b)
    (keep : ∀ b o, b ≠ X.env.locals → b ∉ X.fs → b ∉ ch → s.heap.get? b = some o → H b = none → h'.get? b = some o)
    (slot : ∀ b o, b ≠ X.env.locals → b ∈ X.fs → b ∉ ch → s.heap.get? b = some o → H b = none → ∃ sl, h'.get? b = some { o with slots := sl }) (free : ∀ b o, b ∉ ch → s.heap.get? b = some o → H b = none → H' b = none)
    (there : ∀ b o, b ∉ ch → s.heap.get? b = some o → ∃ o', h'.get? b = some o')
    (tups : ∀ b xs, H b = some (.tup xs) → H' b = some (.tup xs)) (frzs : ∀ b o u, H b = some (.frz o u) → H' b = some (.frz o u)) (tbls : ∀ b ps, H b = some (.tbl ps) → ∃ more, H' b = some (.tbl (ps ++ more)))
    (ns : ∀ m, s.heap.Ns X.env.locals m → h'.Ns X.env.locals m) (hok : HOk X.prog X.w H' h') (hg : AllBare g') :
    Inv X pins σ H' { s with heap := h', gens := g', drawn := d', toks := t' } := by
  have neL : ∀ b o, X.s_0.heap.get? b = some o → b ≠ X.env.locals := fun b o e => Nat.ne_of_lt (Nat.lt_of_lt_of_le (Heap.lt_size e) I.ok.above)
  have neC : ∀ b o, X.s_0.heap.get? b = some o → b ∉ X.ex → b ∉ ch := fun b o e hx hb => by
    rcases (hch b hb).1 with z | z
    · exact hx z
    · exact absurd (Nat.lt_of_lt_of_le (Heap.lt_size e) z) (Nat.lt_irrefl _)
  have cellK : ∀ x c, X.env.cells.lookup x = some c → ∀ v, s.heap.IsCell c v → h'.IsCell c v := fun x c e v ⟨o, ho, hd⟩ => by
    have nch : c ∉ ch := fun z => (hch c z).2.2.1 x c e rfl
    by_cases hc : c ∈ X.fs
    · obtain ⟨sl, q⟩ := slot c o (I.cne x c e) hc nch ho (I.freeC x c e)
      exact ⟨_, q, hd⟩
    · exact ⟨o, keep c o (I.cne x c e) hc nch ho (I.freeC x c e), hd⟩
  refine ⟨I.ok, I.os, hg, ⟨fun b o e n hb hx => ?_, fun b o e n hb hx => ?_, fun b o e n hx => ?_, fun b o e hx => ?_, fun b xs e => tups b xs (I.base.tups b xs e), fun b o xs e => frzs b o xs (I.base.frzs b o xs e), fun b ps e => ?_⟩, ?_, fun x c e => ?_, ?_, fun x c e => ?_, fun p hp => ?_, hok, I.len⟩
  · exact keep b o (neL b o e) hb (neC b o e hx) (I.base.keep b o e n hb hx) (I.base.free b o e n hx)
  · obtain ⟨sl, e1⟩ := I.base.slot b o e n hb hx
    obtain ⟨sl', e2⟩ := slot b _ (neL b o e) hb (neC b o e hx) e1 (I.base.free b o e n hx)
    exact ⟨sl', e2⟩
  · obtain ⟨o', e1⟩ := I.base.there b o e hx
    exact free b o' (neC b o e hx) e1 (I.base.free b o e n hx)
  · obtain ⟨o', e1⟩ := I.base.there b o e hx
    exact there b o' (neC b o e hx) e1
  · obtain ⟨m1, e1⟩ := I.base.tbls b ps e
    obtain ⟨m2, e2⟩ := tbls b _ e1
    exact ⟨m1 ++ m2, by rw [e2, Array.append_assoc]⟩
  · obtain ⟨m, hn, hl⟩ := I.loc
    refine ⟨m, ns m hn, fun i x v e1 e2 e3 => ?_⟩
    obtain ⟨u, r, l⟩ := hl i x v e1 e2 e3
    refine ⟨u, r, ?_⟩
    rcases l with l | ⟨k, c, e, z⟩
    · exact .inl l
    · exact .inr ⟨k, c, e, cellK x c e _ z⟩
  · obtain ⟨v, z⟩ := I.cell x c e
    exact ⟨v, cellK x c e v z⟩
  · obtain ⟨m, ⟨o, _, _, ho, _⟩, _⟩ := I.loc
    exact free _ o (fun z => (hch _ z).2.1 rfl) ho I.free
  · obtain ⟨v, o, ho, hd⟩ := I.cell x c e
    exact free c o (fun z => (hch c z).2.2.1 x c e rfl) ho (I.freeC x c e)
  · obtain ⟨e, n, ne, nf, d⟩ := I.pin p hp
    have nch : p.1 ∉ ch := fun z => (hch p.1 z).2.2.2 p hp rfl
    exact ⟨keep p.1 p.2 ne nf nch e n, free p.1 p.2 nch e n, ne, nf, d⟩
theorem Inv.un {t' : Nat} (I : Inv X pins σ H s) (u : Un X.fs [] H H' s.heap h') (hok : HOk X.prog X.w H' h') : Inv X pins σ H' { s with heap := h', toks := t' } := by
  obtain ⟨m, ⟨o, es, ep, ho, r⟩, _⟩ := id I.loc
  obtain ⟨sl, hL⟩ := u.any ho I.free (by simp)
  exact I.step (g' := s.gens) (d' := s.drawn) (ch := []) (fun _ z => nomatch z) (fun b o _ hb _ e n => u.keep b o e n hb (by simp)) (fun b o _ hb _ e n => u.slot b o e n hb (by simp)) (fun b o _ e n => u.free b o e n (by simp)) (fun b o _ e => u.there b o e (by simp)) u.tups u.frzs u.tbls (fun m' hm => by
    obtain ⟨o', es', ep', ho', r'⟩ := hm
    rw [ho] at ho'; cases ho'
    exact ⟨_, es', ep', hL, r'⟩) hok I.bare
theorem Inv.call {g' : Array GenState} {t' : Nat} {d' : Drawn} {ch : List Addr} (I : Inv X pins σ H s) (u : Un (frs X.stack) ch H H' s.heap h') (hok : HOk X.prog X.w H' h') (hg : AllBare g')
    (hch : ∀ b ∈ ch, (b ∈ X.ex ∨ X.s_0.heap.objs.size ≤ b) ∧ b ≠ X.env.locals ∧ (∀ x c, X.env.cells.lookup x = some c → c ≠ b) ∧ ∀ p ∈ X.pn ++ pins, p.1 ≠ b) :
    Inv X pins σ H' { s with heap := h', gens := g', drawn := d', toks := t' } := by
  obtain ⟨m, ⟨o, es, ep, ho, r⟩, _⟩ := id I.loc
  obtain ⟨sl, hL⟩ := u.any ho I.free fun z => (hch _ z).2.1 rfl
  exact I.step (ch := ch) hch (fun b o hL hb hc e n => u.keep b o e n (fun z => (List.mem_cons.mp (I.stkSub b z)).elim hL hb) hc) (fun b o _ _ hc e n => u.any e n hc) (fun b o hc e n => u.free b o e n hc) (fun b o hc e => u.there b o e hc) u.tups u.frzs u.tbls (fun m' hm => by
    obtain ⟨o', es', ep', ho', r'⟩ := hm
    rw [ho] at ho'; cases ho'
    exact ⟨_, es', ep', hL, r'⟩) hok hg
theorem Inv.turned {t' : Nat} {it : Addr} (I : Inv X pins σ H s) (k : ∀ b o, b ≠ it → s.heap.get? b = some o → h'.get? b = some o) (hn : H it = none) (hL : it ≠ X.env.locals)
    (h1 : it ∈ X.ex ∨ X.s_0.heap.objs.size ≤ it) (h2 : ∀ x c, X.env.cells.lookup x = some c → c ≠ it) (h3 : ∀ p ∈ X.pn ++ pins, p.1 ≠ it) : Inv X pins σ H { s with heap := h', toks := t' } := by
  have nit : ∀ b u, H b = some u → b ≠ it := fun b u e z => by rw [z, hn] at e; cases e
  refine I.step (g' := s.gens) (d' := s.drawn) (ch := [it]) (fun b hb => ?_) (fun b o _ _ hc e _ => k b o (fun z => hc (by simp [z])) e) (fun b o _ _ hc e _ => ⟨o.slots, k b o (fun z => hc (by simp [z])) e⟩) (fun _ _ _ _ n => n)
    (fun b o hc e => ⟨o, k b o (fun z => hc (by simp [z])) e⟩) (fun _ _ e => e) (fun _ _ _ e => e) (fun b ps e => ⟨#[], by rw [e]; simp⟩) (fun m hm => ?_) (fun b u e => ?_) I.bare
  · have e : b = it := by simpa using hb
    subst e
    exact ⟨h1, hL, h2, h3⟩
  · obtain ⟨o, es, ep, ho, r⟩ := hm
    exact ⟨o, es, ep, k _ o (Ne.symm hL) ho, r⟩
  · refine (I.hok b u e).stay (fun c v hc q => k c v ?_ q) (fun _ q => q) fun _ _ q => q
    rcases hc with z | z
    · rw [z]; exact nit b u e
    · exact nit c _ z
theorem Inv.tok (I : Inv X pins σ H s) (t : Nat) : Inv X pins σ H { s with toks := t } := I.un (h' := s.heap) (t' := t) Un.refl I.hok
theorem Inv.kept {t' : Nat} (I : Inv X pins σ H s) (k : ∀ b u, s.heap.get? b = some u → h'.get? b = some u) : Inv X pins σ H { s with heap := h', toks := t' } := I.un (Un.kept k) (I.hok.kept k)
theorem Inv.laid {a : Addr} {o : HO} {t' : Nat} (I : Inv X pins σ H s) (k : ∀ b u, s.heap.get? b = some u → h'.get? b = some u) (hp : s.heap.objs.size ≤ a) (new : ObjOk X.prog X.w (upd H a o) h' a o) :
    Inv X pins σ (upd H a o) { s with heap := h', toks := t' } := I.un (Un.laid k hp (I.hok.fresh hp)) (I.hok.laid k hp new)
theorem Inv.write {x e : Addr} {o : HO} {t' : Nat} (I : Inv X pins σ H s) (mu : Mut (H x)) (he : e = x ∨ H e = some (.own x)) (k : ∀ b u, b ≠ e → s.heap.get? b = some u → h'.get? b = some u) (heo : ∃ u, h'.get? e = some u)
    (new : ObjOk X.prog X.w (upd H x o) h' x o) : Inv X pins σ (upd H x o) { s with heap := h', toks := t' } := I.un (Un.write mu he k heo) (I.hok.write mu he k heo new)
theorem Inv.weak {σ' : List (Option V)} (I : Inv X pins σ H s) (hl : σ'.length = σ.length) (w : ∀ (i : Nat) v, σ'[i]? = some (some v) → σ[i]? = some (some v)) : Inv X pins σ' H s :=
  ⟨I.ok, I.os, I.bare, I.base, let ⟨m, hn, hl'⟩ := I.loc; ⟨m, hn, fun i x v e1 e2 e3 => hl' i x v e1 (w i v e2) e3⟩, I.cell, I.free, I.freeC, I.pin, I.hok, hl.trans I.len⟩
theorem Inv.pins_of {pins' : List (Addr × Obj)} (I : Inv X pins σ H s) (h : ∀ p ∈ pins', s.heap.get? p.1 = some p.2 ∧ H p.1 = none ∧ p.1 ≠ X.env.locals ∧ p.1 ∉ X.fs ∧ ∀ v, p.2.data ≠ .cell v) : Inv X pins' σ H s :=
  ⟨I.ok, I.os, I.bare, I.base, I.loc, I.cell, I.free, I.freeC, fun p hp => (List.mem_append.mp hp).elim (fun z => I.pin p (List.mem_append_left _ z)) (h p), I.hok, I.len⟩

theorem nodup_ix {N : List Str} (hN : N.Nodup) {i j : Nat} {x : Str} (a : N[i]? = some x) (b : N[j]? = some x) : i = j := by
  obtain ⟨h1, e1⟩ := List.getElem?_eq_some_iff.mp a
  obtain ⟨h2, e2⟩ := List.getElem?_eq_some_iff.mp b
  exact (List.getElem_inj hN).mp (e1.trans e2.symm)

theorem store_ok2 {M : Model} {A : Around} {E : Value → Shared → Prop} {i : Nat} {x : Str} {v : V} {u : Value} {Q : Unit → Shared → Prop} (I : Inv X pins σ H s) (hN : X.N.Nodup) (hi : X.N[i]? = some x) (hx : Loc X.env.scope x) (r : RelV v u)
    (h : ∀ s', Inv X pins (σ.set i (some v)) H s' → (∃ a, Heap.SameBut a s.heap s'.heap ∧ (a = X.env.locals ∨ X.env.cells.lookup x = some a)) → Q () s') (hf : X.fn x = true ∨ X.env.scope.names.lookup x = some .local := by first | exact .inl rfl | exact .inr rfl | assumption) : wpAny M A (storeName X.env x u) Q E s := by
  obtain ⟨m, hn, hl⟩ := id I.loc
  have hcls : (X.env.scope.kind == .class || (X.env.scope.kind == .module && X.env.locals != X.env.globals)) = false := by rw [I.ok.kind]; rfl
  have hiσ : i < σ.length := by rw [I.len]; exact (List.getElem?_eq_some_iff.mp hi).1
  have cne := I.cne
  have tracked : ∀ {a : Addr} {h' : Heap}, (∃ o, s.heap.get? a = some o ∧ H a = none) → Heap.SameBut a s.heap h' → HOk X.prog X.w H h' := fun {a h'} ha hs b ob e => by
    obtain ⟨_, _, hfree⟩ := ha
    refine (I.hok b ob e).stay (fun c w' hc q => (hs.2 c ?_).trans q) (fun _ q => q) fun _ _ q => q
    rintro rfl
    rcases hc with rfl | hc
    · rw [hfree] at e; cases e
    · rw [hfree] at hc; cases hc
  rcases hx with hk | hk
  · refine wpAny_storeName_local hk hn (fun h' hn' hs => ?_) hcls
    obtain ⟨oL, _, _, hoL, _⟩ := id hn
    refine h _ ⟨I.ok, I.os, I.bare, ⟨fun b o e n hb hx => ?_, fun b o e n hb hx => ?_, I.base.free, fun b o e hx => ?_, I.base.tups, I.base.frzs, I.base.tbls⟩, ⟨_, hn', fun j y v' e1 e2 e3 => ?_⟩, fun y c e => ?_, I.free, I.freeC, fun p hp => ?_, tracked ⟨oL, hoL, I.free⟩ hs, by simpa using I.len⟩ ⟨_, hs, .inl rfl⟩
    · exact (hs.2 b (Nat.ne_of_lt (Nat.lt_of_lt_of_le (Heap.lt_size e) I.ok.above))).trans (I.base.keep b o e n hb hx)
    · obtain ⟨sl, e1⟩ := I.base.slot b o e n hb hx
      exact ⟨sl, (hs.2 b (Nat.ne_of_lt (Nat.lt_of_lt_of_le (Heap.lt_size e) I.ok.above))).trans e1⟩
    · obtain ⟨o', e1⟩ := I.base.there b o e hx
      exact ⟨o', (hs.2 b (Nat.ne_of_lt (Nat.lt_of_lt_of_le (Heap.lt_size e) I.ok.above))).trans e1⟩
    · by_cases hj : j = i
      · subst hj
        rw [hi] at e1; cases e1
        rw [List.getElem?_set_self hiσ] at e2
        cases e2
        exact ⟨u, r, .inl ⟨hk, by simp⟩⟩
      · rw [List.getElem?_set_ne (Ne.symm hj)] at e2
        obtain ⟨u', r', q⟩ := hl j y v' e1 e2 e3
        refine ⟨u', r', ?_⟩
        rcases q with ⟨k, e⟩ | ⟨k, c, e, z⟩
        · refine .inl ⟨k, ?_⟩
          have : y ≠ x := fun e => hj (nodup_ix hN e1 (e ▸ hi))
          simp [this, e]
        · exact .inr ⟨k, c, e, z.sameBut hs (cne y c e)⟩
    · obtain ⟨w', z⟩ := I.cell y c e
      exact ⟨w', z.sameBut hs (cne y c e)⟩
    · obtain ⟨e, n, ne, nf, d⟩ := I.pin p hp
      exact ⟨(hs.2 p.1 ne).trans e, n, ne, nf, d⟩
  · have hfn : X.fn x = true := by
      rcases hf with z | z
      · exact z
      · rw [z] at hk; cases hk
    obtain ⟨c, hc⟩ := I.ok.has x (.inl hk)
    obtain ⟨w', z⟩ := I.cell x c hc
    refine wpAny_storeName_cell I.ok.kind hk hc z (fun h' hc' hs => ?_)
    obtain ⟨oc, hoc, hocd⟩ := id z
    refine h { s with heap := h' } ⟨I.ok, I.os, I.bare, ⟨fun b o e n hb hx => ?_, fun b o e n hb hx => ?_, I.base.free, fun b o e hx => ?_, I.base.tups, I.base.frzs, I.base.tbls⟩, ⟨m, hn.sameBut hs (Ne.symm (cne x c hc)), fun j y v' e1 e2 e3 => ?_⟩, fun y c' e => ?_, I.free, I.freeC, fun p hp => ?_, tracked ⟨oc, hoc, I.freeC x c hc⟩ hs, by simpa using I.len⟩ ⟨c, hs, .inr hc⟩
    · exact (hs.2 b (Nat.ne_of_lt (Nat.lt_of_lt_of_le (Heap.lt_size e) (I.ok.cab x c hfn hc)))).trans (I.base.keep b o e n hb hx)
    · obtain ⟨sl, e1⟩ := I.base.slot b o e n hb hx
      exact ⟨sl, (hs.2 b (Nat.ne_of_lt (Nat.lt_of_lt_of_le (Heap.lt_size e) (I.ok.cab x c hfn hc)))).trans e1⟩
    · obtain ⟨o', e1⟩ := I.base.there b o e hx
      exact ⟨o', (hs.2 b (Nat.ne_of_lt (Nat.lt_of_lt_of_le (Heap.lt_size e) (I.ok.cab x c hfn hc)))).trans e1⟩
    · by_cases hj : j = i
      · subst hj
        rw [hi] at e1; cases e1
        rw [List.getElem?_set_self hiσ] at e2
        cases e2
        exact ⟨u, r, .inr ⟨.inl hk, c, hc, hc'⟩⟩
      · rw [List.getElem?_set_ne (Ne.symm hj)] at e2
        obtain ⟨u', r', q⟩ := hl j y v' e1 e2 e3
        refine ⟨u', r', ?_⟩
        rcases q with q | ⟨k, c', e, z'⟩
        · exact .inl q
        · refine .inr ⟨k, c', e, z'.sameBut hs ?_⟩
          rintro rfl
          exact hj (nodup_ix hN e1 (I.ok.inj _ _ _ e hc ▸ hi))
    · by_cases hcc : c' = c
      · subst hcc; exact ⟨_, hc'⟩
      · obtain ⟨w2, z2⟩ := I.cell y c' e
        exact ⟨w2, z2.sameBut hs hcc⟩
    · obtain ⟨e, n, ne, nf, d⟩ := I.pin p hp
      refine ⟨(hs.2 p.1 ?_).trans e, n, ne, nf, d⟩
      intro q
      rw [q, hoc] at e
      have q' : oc = p.2 := Option.some.inj e
      exact d w' (by rw [← q']; exact hocd)
theorem store_ok {M : Model} {A : Around} {E : Value → Shared → Prop} {i : Nat} {x : Str} {v : V} {u : Value} {Q : Unit → Shared → Prop} (I : Inv X pins σ H s) (hN : X.N.Nodup) (hi : X.N[i]? = some x) (hx : Loc X.env.scope x) (r : RelV v u)
    (h : ∀ s', Inv X pins (σ.set i (some v)) H s' → Q () s') (hf : X.fn x = true ∨ X.env.scope.names.lookup x = some .local := by first | exact .inl rfl | exact .inr rfl | assumption) : wpAny M A (storeName X.env x u) Q E s :=
  store_ok2 I hN hi hx r (fun s' I' _ => h s' I') hf
theorem Inv.call' {s' : Shared} {ch : List Addr} (I : Inv X pins σ H s) (ho : s'.os = s.os) (u : Un (frs X.stack) ch H H' s.heap s'.heap) (hok : HOk X.prog X.w H' s'.heap) (hg : AllBare s'.gens)
    (hch : ∀ b ∈ ch, (b ∈ X.ex ∨ X.s_0.heap.objs.size ≤ b) ∧ b ≠ X.env.locals ∧ (∀ x c, X.env.cells.lookup x = some c → c ≠ b) ∧ ∀ p ∈ X.pn ++ pins, p.1 ≠ b) : Inv X pins σ H' s' := by
  obtain ⟨h', g', d', t', o'⟩ := s'
  have e : o' = s.os := ho
  subst e
  exact I.call (g' := g') (t' := t') (d' := d') u hok hg hch
end

abbrev XK := Value → Option Addr → Hp → Prop
abbrev St := List (Option V)
abbrev VK := V → Hp → Prop
abbrev TE := St → Hp → VK → Prop
abbrev TT := St → Hp → (Bool → Hp → Prop) → Prop
abbrev TA := St → Hp → (List V → Hp → Prop) → Prop
structure Ends where
  nx : St → Hp → Prop
  rt : VK
  bk : St → Hp → Prop := fun _ _ => False
  ct : St → Hp → Prop := fun _ _ => False
abbrev TS := Ends → St → Hp → Prop

def EP (X : Cx) (pins : List (Addr × Obj)) (σ : St) (Q : VK) (u : Value) (s' : Shared) : Prop := ∃ v H', Inv X pins σ H' s' ∧ RelV v u ∧ Q v H'
def TP (X : Cx) (pins : List (Addr × Obj)) (σ : St) (Q : Bool → Hp → Prop) (b : Bool) (s' : Shared) : Prop := ∃ H', Inv X pins σ H' s' ∧ Q b H'
def AP (X : Cx) (pins : List (Addr × Obj)) (σ : St) (Q : List V → Hp → Prop) (us : List Value) (s' : Shared) : Prop := ∃ vs H', Inv X pins σ H' s' ∧ Vals vs us ∧ Q vs H'
def SP (X : Cx) (pins : List (Addr × Obj)) (D : Ends) (f : Flow) (s' : Shared) : Prop :=
  match f with
  | .next => ∃ σ' H', Inv X pins σ' H' s' ∧ D.nx σ' H'
  | .brk => ∃ σ' H', Inv X pins σ' H' s' ∧ D.bk σ' H'
  | .cont => ∃ σ' H', Inv X pins σ' H' s' ∧ D.ct σ' H'
  | .ret u => ∃ v σ' H', Inv X pins σ' H' s' ∧ RelV v u ∧ D.rt v H'

def PE (X : Cx) (e : Expr) (t : TE) : Prop :=
  ∀ (pins : List (Addr × Obj)) (s : Shared) (σ : St) (H : Hp) (Q : VK), Inv X pins σ H s → t σ H Q → wpAny (model X.prog X.w) X.A (eval e X.env) (EP X pins σ Q) X.xe s
def PT (X : Cx) (e : Expr) (t : TT) : Prop :=
  ∀ (pins : List (Addr × Obj)) (s : Shared) (σ : St) (H : Hp) (Q : Bool → Hp → Prop), Inv X pins σ H s → t σ H Q → wpAny (model X.prog X.w) X.A (isTrue e X.env (eval e X.env)) (TP X pins σ Q) X.xe s
def PW (X : Cx) (e : Expr) (t : TT) : Prop :=
  ∀ (whole : Sem Value) (pins : List (Addr × Obj)) (s : Shared) (σ : St) (H : Hp) (Q : Bool → Hp → Prop), Inv X pins σ H s → t σ H Q → wpAny (model X.prog X.w) X.A (isTrue e X.env whole) (TP X pins σ Q) X.xe s
theorem PW.pt {X : Cx} {e : Expr} {t : TT} (h : PW X e t) : PT X e t := h _
def PA (X : Cx) (es : List Expr) (t : TA) : Prop :=
  ∀ (pos : Pos) (pins : List (Addr × Obj)) (s : Shared) (σ : St) (H : Hp) (Q : List V → Hp → Prop), Inv X pins σ H s → t σ H Q → wpAny (model X.prog X.w) X.A (spliced (backTo pos (starEach es X.env))) (AP X pins σ Q) X.xe s
def PS (X : Cx) (st : Stmt) (t : TS) : Prop :=
  ∀ (pins : List (Addr × Obj)) (s : Shared) (σ : St) (H : Hp) (D : Ends), Inv X pins σ H s → t D σ H → wpAny (model X.prog X.w) X.A (exec st X.env) (SP X pins D) X.xe s
def PSs (X : Cx) (st : List Stmt) (t : TS) : Prop :=
  ∀ (pins : List (Addr × Obj)) (s : Shared) (σ : St) (H : Hp) (D : Ends), Inv X pins σ H s → t D σ H → wpAny (model X.prog X.w) X.A (execs st X.env) (SP X pins D) X.xe s
theorem thn {α : Type} {t : Sem α} {Q Q' : α → Shared → Prop} {M : Model} {A : Around} {E : Value → Shared → Prop} {s : Shared} (h : wpAny M A t Q E s) (hQ : ∀ a s, Q a s → Q' a s) : wpAny M A t Q' E s := wpAny_mono h hQ fun _ _ x => x
end L2

namespace L2
open PySem PySem.Spec PyProof.Rows
section
variable {X : Cx}

def tVar (i : Nat) : TE := fun σ H Q => ∃ v, σ[i]? = some (some v) ∧ Q v H
def tC (v : V) : TE := fun _ H Q => Q v H
theorem pe_var {i : Nat} {x : Str} {pos : Pos} (hN : X.N[i]? = some x) (hv : Vis X.env.scope x) (hd : (x == ("__debug__" : Str)) = false := by decide) (hcd : (x == ("__classdict__" : Str)) = false := by decide) : PE X (.Name x pos) (tVar i) := by
  intro pins s σ H Q I h
  obtain ⟨v, e, h⟩ := h
  obtain ⟨m, hn, hl⟩ := I.loc
  obtain ⟨u, r, l⟩ := hl i x v hN e hv
  have fin : EP X pins σ Q u s := ⟨v, H, I, r, h⟩
  rcases l with ⟨hk, hm⟩ | ⟨hk, c, hc, hcell⟩
  · exact wpAny_Name (wpAny_loadName_local I.ok.kind hk hn hm fin) hd
  · rcases hk with hk | hk
    · exact wpAny_Name (wpAny_loadName_cell I.ok.kind hk hc hcell fin) hd
    · exact wpAny_Name (wpAny_loadName_free I.ok.kind hk hc hcell fin hcd) hd
theorem pe_int {i j pos} : PE X (.Constant (.int i) j pos) (tC (.int i)) := fun _ _ _ H _ I h => wpAny_Constant_int ⟨.int i, H, I.tok _, ⟨_, rfl⟩, h⟩
theorem pe_non {j pos} : PE X (.Constant .none j pos) (tC .non) := fun _ _ _ H _ I h => Constant_none ⟨.non, H, I, rfl, h⟩
def Gl (X : Cx) (x : Str) : Prop := X.env.kindOf x = some .globalImplicit
theorem ld_glob {E : Value → Shared → Prop} {pins : List (Addr × Obj)} {s : Shared} {σ : St} {H : Hp} {x : Str} {u : Value} {pos : Pos} {Q : Value → Shared → Prop} (I : Inv X pins σ H s) (hg : Gl X x) (hm : X.mg x = some u) (h : Q u s)
    (hd : (x == ("__debug__" : Str)) = false := by decide) : wpAny (model X.prog X.w) X.A (eval (.Name x pos) X.env) Q E s :=
  Calls.Name_function_global I.ok.kind hg (Calls.loadGlobal_global (by rw [I.ok.glob]; exact I.mod.glob.keeps I.bk) hm h) hd
theorem ld_blt {E : Value → Shared → Prop} {pins : List (Addr × Obj)} {s : Shared} {σ : St} {H : Hp} {x : Str} {u : Value} {pos : Pos} {Q : Value → Shared → Prop} (I : Inv X pins σ H s) (hg : Gl X x) (hm : X.mg x = none) (hv : bootBuiltins x = some u) (h : Q u s)
    (hn : x ≠ "__name__" := by decide) (hd : (x == ("__debug__" : Str)) = false := by decide) : wpAny (model X.prog X.w) X.A (eval (.Name x pos) X.env) Q E s := by
  obtain ⟨mb, h1, h2⟩ := I.mod.blt
  exact Calls.Name_function_global I.ok.kind hg (Calls.loadGlobal_builtin (by rw [I.ok.glob]; exact I.mod.glob.keeps I.bk) hm (by rw [I.ok.blt]; exact h1.keeps I.bk) ((h2 x hn).trans hv) h) hd
theorem pe_glob {x : Str} {v : V} {u : Value} {pos : Pos} (hg : Gl X x) (hm : X.mg x = some u) (r : RelV v u) (hd : (x == ("__debug__" : Str)) = false := by decide) : PE X (.Name x pos) (tC v) :=
  fun _ _ _ H _ I h => ld_glob I hg hm ⟨v, H, I, r, h⟩ hd
variable {a b : Expr} {ta tb : TE} {pos : Pos}
def tB (t : TE) : TT := fun σ H Q => t σ H fun x H1 => ∃ c, x = .bl c ∧ Q c H1
theorem pt_val {e : Expr} {t : TE} (h : PE X e t) (he : ∀ whole, isTrue e X.env whole = (do let v ← whole; standAt e.pos; holding [v] (truthy v)) := by intro _; rfl) : PT X e (tB t) := by
  intro pins s σ H Q I hw
  refine isTrue_plain (thn (h pins s σ H _ I hw) fun v s1 ⟨x, H1, I1, r1, q1⟩ => ?_) (he _)
  obtain ⟨d, rfl, q⟩ := q1
  cases r1
  exact wpAny_truthy_bool ⟨H1, I1, q⟩

variable {tA tB' : TT} {rest : List Expr}
def tOr (t u : TT) : TT := fun σ H Q => t σ H fun c H1 => if c = true then Q true H1 else u σ H1 Q
def tNot (t : TT) : TT := fun σ H Q => t σ H fun c H1 => Q (!c) H1
theorem pw_or1 (ha : PT X a tA) : PW X (.BoolOp .Or [a] pos) tA := by
  intro wh pins s σ H Q I h
  refine isTrue_or (thn (ha pins s σ H Q I h) fun c s1 e => ?_)
  cases c with
  | false => exact isTrue_or_nil e
  | true => exact e
theorem pw_or (ha : PT X a tA) (hb : PW X (.BoolOp .Or (b :: rest) pos) tB') : PW X (.BoolOp .Or (a :: b :: rest) pos) (tOr tA tB') := by
  intro wh pins s σ H Q I h
  refine isTrue_or (thn (ha pins s σ H _ I h) fun c s1 ⟨H1, I1, q1⟩ => ?_)
  cases c with
  | true => exact ⟨H1, I1, q1⟩
  | false => exact hb wh pins s1 σ H1 Q I1 q1
theorem pt_not (ha : PT X a tA) : PT X (.UnaryOp .Not a pos) (tNot tA) := by
  intro pins s σ H Q I h
  exact isTrue_not (ha pins s σ H (fun c H1 => Q (!c) H1) I h)
def tAndV (ta tb : TE) : TE := fun σ H Q => ta σ H fun x H1 => ∃ c, x = .bl c ∧ if c = true then tb σ H1 Q else Q (.bl false) H1
def tNotV (ta : TE) : TE := fun σ H Q => ta σ H fun x H1 => ∃ c, x = .bl c ∧ Q (.bl (!c)) H1
theorem pe_one {op} {t : TE} (h : PE X a t) : PE X (.BoolOp op [a] pos) t := fun pins s σ H Q I hw => BoolOp_one (h pins s σ H Q I hw)
theorem pe_and (ha : PE X a ta) (hb : PE X (.BoolOp .And (b :: rest) pos) tb) : PE X (.BoolOp .And (a :: b :: rest) pos) (tAndV ta tb) := by
  intro pins s σ H Q I h
  refine BoolOp_and (thn (ha pins s σ H _ I h) fun v s1 ⟨x, H1, I1, r1, q1⟩ => ?_)
  obtain ⟨c, rfl, q1⟩ := q1
  cases r1
  refine wpAny_truthy_bool ?_
  cases c with
  | true => exact hb pins s1 σ H1 Q I1 q1
  | false => exact ⟨.bl false, H1, I1, rfl, q1⟩
theorem pe_not (ha : PE X a ta) : PE X (.UnaryOp .Not a pos) (tNotV ta) := by
  intro pins s σ H Q I h
  refine UnaryOp_ (thn (ha pins s σ H _ I h) fun v s1 ⟨x, H1, I1, r1, q1⟩ => ?_)
  obtain ⟨c, rfl, q1⟩ := q1
  cases r1
  exact not_of (wpAny_truthy_bool ⟨.bl (!c), H1, I1, rfl, q1⟩)
def tIf (t : TT) (ta tb : TE) : TE := fun σ H Q => t σ H fun c H1 => if c = true then ta σ H1 Q else tb σ H1 Q
theorem pe_ifExp {c : Expr} (hc : PT X c tA) (ha : PE X a ta) (hb : PE X b tb) : PE X (.IfExp c a b pos) (tIf tA ta tb) := by
  intro pins s σ H Q I h
  refine wpAny_IfExp (thn (hc pins s σ H _ I h) fun d s1 ⟨H1, I1, q1⟩ => ?_)
  cases d with
  | true => exact ha pins s1 σ H1 Q I1 q1
  | false => exact hb pins s1 σ H1 Q I1 q1
end
end L2

namespace L2
open PySem PySem.Spec PyProof.Rows

def SqL (K : PySem.W.Frag) (H : Hp) (a : Addr) (xs : List V) : Prop :=
  Rd H a (.lst xs) ∨
    ∃ (o : Obj) (its : Array Value) (n : Nat), K.lookup a = some o ∧ o.cls = .type "list" ∧ o.dict = none ∧ o.data = .seq its n ∧ its.size ≤ sizeLine ∧ Vals xs its.toList
def SqT (K : PySem.W.Frag) (H : Hp) (a : Addr) (xs : List V) : Prop :=
  Rd H a (.tup xs) ∨
    ∃ (o : Obj) (its : Array Value) (n : Nat), K.lookup a = some o ∧ o.cls = .type "tuple" ∧ o.data = .seq its n ∧ its.size ≤ sizeLine ∧ Vals xs its.toList
def absV : Value → Option V
  | .none => some .non
  | .bool b => some (.bl b)
  | .int i _ => some (.int i)
  | .str x _ => some (.str x)
  | .bytes b _ => some (.byt b)
  | .float b _ => some (.flt b)
  | .ref a => some (.ref a)
  | .type n => some (.ty n)
  | _ => none
theorem RelV.abs {x : V} {u : Value} (r : RelV x u) : absV u = some x := by
  cases x with
  | non => cases r; rfl
  | bl _ => cases r; rfl
  | int _ => obtain ⟨t, rfl⟩ := r; rfl
  | str _ => obtain ⟨t, rfl⟩ := r; rfl
  | byt _ => obtain ⟨t, rfl⟩ := r; rfl
  | flt _ => obtain ⟨t, rfl⟩ := r; rfl
  | ref _ => cases r; rfl
  | ty _ => cases r; rfl
theorem RelV.inj {x y : V} {u : Value} (r : RelV x u) (q : RelV y u) : x = y := Option.some.inj (r.abs.symm.trans q.abs)
theorem Vals.inj : ∀ {xs ys : List V} {us : List Value}, Vals xs us → Vals ys us → xs = ys
  | _, _, _, .nil, .nil => rfl
  | _, _, _, .cons r t, .cons r' t' => by rw [r.inj r', Vals.inj t t']
section
variable {X : Cx} {pins : List (Addr × Obj)} {σ : St} {H : Hp} {s : Shared} {a : Addr} {xs ys : List V}
theorem SqL.of {K : PySem.W.Frag} (h : H a = some (.lst xs)) : SqL K H a xs := .inl (.inl h)
theorem SqT.of {K : PySem.W.Frag} (h : H a = some (.tup xs)) : SqT K H a xs := .inl (.inl h)
theorem Inv.list (I : Inv X pins σ H s) (h : SqL X.K H a xs) : ∃ its : List Value, Vals xs its ∧ PlainL s.heap a its.toArray ∧ xs.length ≤ sizeLine := by
  rcases h with h | ⟨o, its, n, hk, hc, hd, hs, hz, r⟩
  · obtain ⟨z, its, n, r, e⟩ := h.ok I.hok
    exact ⟨its, r, ⟨_, n, e, rfl, rfl, rfl⟩, z⟩
  · refine ⟨its.toList, r, ⟨o, n, I.kIn a o hk, hc, hd, by simpa using hs⟩, ?_⟩
    have e := r.length
    simp only [Array.length_toList] at e
    omega
theorem Inv.tuple (I : Inv X pins σ H s) (h : SqT X.K H a xs) : ∃ its : List Value, Vals xs its ∧ IsTup s.heap a its.toArray ∧ xs.length ≤ sizeLine := by
  rcases h with h | ⟨o, its, n, hk, hc, hs, hz, r⟩
  · obtain ⟨z, its, r, p⟩ := h.ok I.hok
    exact ⟨its, r, p, z⟩
  · refine ⟨its.toList, r, ⟨o, I.kIn a o hk, hc, n, by simpa using hs⟩, ?_⟩
    have e := r.length
    simp only [Array.length_toList] at e
    omega
theorem Inv.list_inj (I : Inv X pins σ H s) (h : SqL X.K H a xs) (h' : SqL X.K H a ys) : xs = ys := by
  obtain ⟨its, r, ⟨o, n, e, _, _, d⟩, _⟩ := I.list h
  obtain ⟨its', r', ⟨o', n', e', _, _, d'⟩, _⟩ := I.list h'
  rw [e] at e'; cases e'
  rw [d] at d'
  injection d' with d1 _
  have : its = its' := by simpa using congrArg Array.toList d1
  subst this
  exact r.inj r'
end

abbrev Cx.wish (X : Cx) (E : Value → Shared → Prop) : Cx := { X with xe := E }
abbrev Cx.nox (X : Cx) : Cx := X.wish fun _ _ => False
theorem Cx.Ok.wish {X : Cx} (ok : X.Ok) (E : Value → Shared → Prop) : (X.wish E).Ok :=
  ⟨ok.mod, ok.kind, ok.glob, ok.blt, ok.above, ok.inj, ok.has, ok.cab, ok.hd, ok.frames, ok.stk, ok.exf, ok.bs, ok.bsz, ok.noex, ok.exfs, ok.funs, ok.frf⟩
theorem Cx.Ok.unwish {X : Cx} {E : Value → Shared → Prop} (ok : (X.wish E).Ok) : X.Ok :=
  ⟨ok.mod, ok.kind, ok.glob, ok.blt, ok.above, ok.inj, ok.has, ok.cab, ok.hd, ok.frames, ok.stk, ok.exf, ok.bs, ok.bsz, ok.noex, ok.exfs, ok.funs, ok.frf⟩
section
variable {X : Cx} {pins : List (Addr × Obj)} {σ : St} {H : Hp} {s : Shared} {E : Value → Shared → Prop}
theorem Inv.wish (I : Inv X pins σ H s) (E : Value → Shared → Prop) : Inv (X.wish E) pins σ H s := ⟨I.ok.wish E, I.os, I.bare, I.base, I.loc, I.cell, I.free, I.freeC, I.pin, I.hok, I.len⟩
theorem Inv.unwish (I : Inv (X.wish E) pins σ H s) : Inv X pins σ H s := ⟨I.ok.unwish, I.os, I.bare, I.base, I.loc, I.cell, I.free, I.freeC, I.pin, I.hok, I.len⟩
theorem SP.unwish {D : Ends} {f : Flow} {s' : Shared} (h : SP (X.wish E) pins D f s') : SP X pins D f s' := by
  cases f with
  | next => obtain ⟨σ', H', I, q⟩ := h; exact ⟨σ', H', I.unwish, q⟩
  | brk => obtain ⟨σ', H', I, q⟩ := h; exact ⟨σ', H', I.unwish, q⟩
  | cont => obtain ⟨σ', H', I, q⟩ := h; exact ⟨σ', H', I.unwish, q⟩
  | ret u => obtain ⟨v, σ', H', I, r, q⟩ := h; exact ⟨v, σ', H', I.unwish, r, q⟩
theorem PE.nox {e : Expr} {t : TE} (h : PE X.nox e t) : PE X e t := fun pins s σ H Q I hw =>
  wpAny_mono (h pins s σ H Q (I.wish _) hw) (fun _ _ ⟨v, H', I', r, q⟩ => ⟨v, H', I'.unwish, r, q⟩) fun _ _ z => False.elim z
theorem PT.nox {e : Expr} {t : TT} (h : PT X.nox e t) : PT X e t := fun pins s σ H Q I hw =>
  wpAny_mono (h pins s σ H Q (I.wish _) hw) (fun _ _ ⟨H', I', q⟩ => ⟨H', I'.unwish, q⟩) fun _ _ z => False.elim z
theorem PSs.nox {st : List Stmt} {t : TS} (h : PSs X.nox st t) : PSs X st t := fun pins s σ H D I hw =>
  wpAny_mono (h pins s σ H D (I.wish _) hw) (fun _ _ q => q.unwish) fun _ _ z => False.elim z
end

section
variable {X : Cx} {st : Stmt} {rest : List Stmt} {t u : TS} {e : Expr} {te : TE} {pos : Pos}
def tNext : TS := fun D σ H => D.nx σ H
def tSeq (t u : TS) : TS := fun D σ H => t { D with nx := u D } σ H
theorem pss_nil : PSs X [] tNext := fun _ _ σ H _ I h => wpAny_execs_nil ⟨σ, H, I, h⟩
theorem pss_cons (h1 : PS X st t) (h2 : PSs X rest u) : PSs X (st :: rest) (tSeq t u) := by
  intro pins s σ H D I h
  refine wpAny_execs_cons (thn (h1 pins s σ H { D with nx := u D } I h) fun f s1 q => ?_)
  cases f with
  | next =>
    obtain ⟨σ', H', I', q⟩ := q
    exact h2 pins s1 σ' H' D I' q
  | ret v => exact q
  | brk => exact q
  | cont => exact q
theorem pss_one (h1 : PS X st t) : PSs X [st] t := by
  intro pins s σ H D I h
  refine wpAny_execs_cons (thn (h1 pins s σ H D I h) fun f s1 q => ?_)
  cases f with
  | next => exact wpAny_execs_nil q
  | ret v => exact q
  | brk => exact q
  | cont => exact q
theorem Inv.quiet {pins : List (Addr × Obj)} {σ : St} {H : Hp} {s : Shared} (I : Inv X pins σ H s) : interactive X.env = false := by simp [interactive, I.ok.kind]
def tDrop (te : TE) : TS := fun D σ H => te σ H fun _ H1 => D.nx σ H1
theorem ps_expr (he : PE X e te) (hs : swapsWith e none pos.line X.env = pure false := by rfl) : PS X (.Expr e pos) (tDrop te) := by
  intro pins s σ H D I h
  exact wpAny_Expr_any (thn (he pins s σ H _ I h) fun v s1 ⟨x, H1, I1, r1, q1⟩ => ⟨σ, H1, I1, q1⟩) I.quiet hs
def tRet (te : TE) : TS := fun D σ H => te σ H D.rt
theorem ps_ret (he : PE X e te) : PS X (.Return (some e) pos) (tRet te) := by
  intro pins s σ H D I h
  exact wpAny_Return_some (thn (he pins s σ H _ I h) fun v s1 ⟨x, H1, I1, r1, q1⟩ => ⟨x, σ, H1, I1, r1, q1⟩)
def tIfS (c : TT) (t u : TS) : TS := fun D σ H => c σ H fun b H1 => if b = true then t D σ H1 else u D σ H1
theorem ps_if {c : Expr} {a b : List Stmt} {tc : TT} (hc : PT X c tc) (ha : PSs X a t) (hb : PSs X b u) : PS X (.If c a b pos) (tIfS tc t u) := by
  intro pins s σ H D I h
  refine wpAny_If (thn (hc pins s σ H _ I h) fun d s1 ⟨H1, I1, q1⟩ => ?_)
  cases d with
  | true => exact ha pins s1 σ H1 D I1 q1
  | false => exact hb pins s1 σ H1 D I1 q1
def tNever : TS := fun _ _ _ => False
theorem ps_never : PS X st tNever := fun _ _ _ _ _ _ h => h.elim
end

abbrev TG := V → St → Hp → (St → Hp → Prop) → Prop
def PG (X : Cx) (target : Expr) (t : TG) : Prop :=
  ∀ (pins : List (Addr × Obj)) (s : Shared) (σ : St) (H : Hp) (v : V) (u : Value) (Q : St → Hp → Prop), Inv X pins σ H s → RelV v u → t v σ H Q →
    wpAny (model X.prog X.w) X.A (assign target X.env u) (fun _ s' => ∃ σ' H', Inv X pins σ' H' s' ∧ Q σ' H') X.xe s
abbrev TIp := V → V → Hp → VK → Prop
def PIp (X : Cx) (op : Operator) (t : TIp) : Prop :=
  ∀ (pins : List (Addr × Obj)) (s : Shared) (σ : St) (H : Hp) (x y : V) (v u : Value) (Q : VK), Inv X pins σ H s → RelV x v → RelV y u → t x y H Q →
    wpAny (model X.prog X.w) X.A (inplaceOp op v u) (EP X pins σ Q) X.xe s
section
variable {X : Cx} {pos : Pos}
def gName (i : Nat) : TG := fun v σ H Q => Q (σ.set i (some v)) H
theorem pg_name {i : Nat} {x : Str} (hN : X.N.Nodup) (hi : X.N[i]? = some x) (hx : Loc X.env.scope x) (hf : X.fn x = true ∨ X.env.scope.names.lookup x = some .local := by first | exact .inl rfl | exact .inr rfl | assumption) : PG X (.Name x pos) (gName i) := by
  intro pins s σ H v u Q I r h
  exact wpAny_assign_Name (store_ok I hN hi hx r (fun s' I' => ⟨_, H, I', h⟩) hf)
def tAsg (te : TE) (g : TG) : TS := fun D σ H => te σ H fun x H1 => g x σ H1 D.nx
theorem ps_set {i : Nat} {x : Str} {e : Expr} {te : TE} {pos' : Pos} (hN : X.N.Nodup) (hi : X.N[i]? = some x) (hx : Loc X.env.scope x) (he : PE X e te) (hs : swapsWith e (some (.Name x pos')) pos.line X.env = pure false := by rfl) (hf : X.fn x = true ∨ X.env.scope.names.lookup x = some .local := by first | exact .inl rfl | exact .inr rfl | assumption) :
    PS X (.Assign [.Name x pos'] e pos) (tAsg te (gName i)) := by
  intro pins s σ H D I h
  refine wpAny_Assign_Name (thn (he pins s σ H _ I h) fun v s1 ⟨y, H1, I1, r1, q1⟩ => ?_) hs
  exact store_ok I1 hN hi hx r1 (fun s2 I2 => ⟨_, H1, I2, q1⟩) hf
def tAug (i : Nat) (te : TE) (ti : TIp) : TS := fun D σ H => ∃ x, σ[i]? = some (some x) ∧ te σ H fun y H1 => ti x y H1 fun z H2 => D.nx (σ.set i (some z)) H2
theorem ps_aug {i : Nat} {x : Str} {e : Expr} {te : TE} {op : Operator} {ti : TIp} {pos' : Pos} (hN : X.N.Nodup) (hi : X.N[i]? = some x) (hx : Loc X.env.scope x) (he : PE X e te) (ho : PIp X op ti) (hf : X.fn x = true ∨ X.env.scope.names.lookup x = some .local := by first | exact .inl rfl | exact .inr rfl | assumption) :
    PS X (.AugAssign (.Name x pos') op e pos) (tAug i te ti) := by
  intro pins s σ H D I h
  obtain ⟨v, e1, h⟩ := h
  obtain ⟨m, hn, hl⟩ := I.loc
  have vis : Vis X.env.scope x := by rcases hx with k | k; exact .inl k; exact .inr (.inl k)
  obtain ⟨u, r, l⟩ := hl i x v hi e1 vis
  refine wpAny_AugAssign_Name ?_
  have go : wpAny (model X.prog X.w) X.A (eval e X.env) (fun w s₂ => wpAny (model X.prog X.w) X.A (inplaceOp op u w) (fun r s₃ => wpAny (model X.prog X.w) X.A (storeName X.env x r) (fun _ => SP X pins D .next) X.xe s₃) X.xe s₂) X.xe s := by
    refine thn (he pins s σ H _ I h) fun w s1 ⟨y, H1, I1, r1, q1⟩ => ?_
    refine thn (ho pins s1 σ H1 v y u w _ I1 r r1 q1) fun z s2 ⟨zv, H2, I2, r2, q2⟩ => ?_
    exact store_ok I2 hN hi hx r2 (fun s3 I3 => ⟨_, H2, I3, q2⟩) hf
  rcases l with ⟨hk, hm⟩ | ⟨hk, c, hc, hcell⟩
  · exact wpAny_loadName_local I.ok.kind hk hn hm go
  · rcases hk with hk | hk
    · exact wpAny_loadName_cell I.ok.kind hk hc hcell go
    · rcases hx with k | k
      · have : X.env.scope.names.lookup x = some .free := hk
        rw [k] at this; cases this
      · have : X.env.scope.names.lookup x = some .free := hk
        rw [k] at this; cases this
def ipI (f : Int → Int → Int) : TIp := fun x y H Q => ∃ i j, x = .int i ∧ y = .int j ∧ Q (.int (f i j)) H
theorem ip_add : PIp X .Add (ipI fun i j => i + j) := by
  intro pins s σ H x y v u Q I r1 r2 h
  obtain ⟨i, j, e1, e2, q⟩ := h
  subst e1; subst e2
  obtain ⟨t, rfl⟩ := r1
  obtain ⟨t', rfl⟩ := r2
  exact iadd_int ⟨.int _, H, I.tok _, ⟨_, rfl⟩, q⟩
end

section
variable {X : Cx} {pos : Pos}
def tWhile (c : TT) (tb : TS) : TS := fun D σ H => ∃ W : Nat → St → Hp → Prop, (∃ m, W m σ H) ∧ ∀ m σ H, W m σ H →
  c σ H fun b H1 => if b = true then ∃ N : St → Hp → Prop, (∀ σ' H', N σ' H' → ∃ m', m' < m ∧ W m' σ' H') ∧ tb { D with nx := N, ct := N, bk := D.nx } σ H1 else D.nx σ H1
theorem ps_while {c : Expr} {body : List Stmt} {tc : TT} {tb : TS} (hp : PassesOwn (model X.prog X.w) X.A X.env X.xe) (hc : PT X c tc) (hb : PSs X body tb) : PS X (.While c body [] pos) (tWhile tc tb) := by
  intro pins s σ H D I h
  obtain ⟨W, ⟨m0, w0⟩, turn⟩ := h
  refine wpAny_While (codeAny_whileLoop (fun n s' => ∃ σ' H', Inv X pins σ' H' s' ∧ W n σ' H') ?_ m0 ⟨σ, H, I, w0⟩)
  rintro n s1 ⟨σ1, H1, I1, w1⟩
  refine wpAny_passesOwn hp (thn (hc pins s1 σ1 H1 _ I1 (turn n σ1 H1 w1)) fun b s2 ⟨H2, I2, q2⟩ => ?_)
  cases b with
  | true =>
    obtain ⟨N, hN, q2⟩ := q2
    rw [if_pos rfl]
    refine wpAny_passesOwn hp (thn (hb pins s2 σ1 H2 _ I2 q2) fun f s3 q3 => ?_)
    cases f with
    | next =>
      obtain ⟨σ3, H3, I3, n3⟩ := q3
      obtain ⟨m', hm, w3⟩ := hN σ3 H3 n3
      exact ⟨m', hm, σ3, H3, I3, w3⟩
    | cont =>
      obtain ⟨σ3, H3, I3, n3⟩ := q3
      obtain ⟨m', hm, w3⟩ := hN σ3 H3 n3
      exact ⟨m', hm, σ3, H3, I3, w3⟩
    | brk => exact q3
    | ret v => exact q3
  | false =>
    rw [if_neg Bool.false_ne_true]
    exact wpAny_execs_nil ⟨σ1, H2, I2, q2⟩
end

structure It where
  go : Nat → Hp → Prop
  yld : Nat → Hp → V → Hp → Prop
  stop : Nat → Hp → Prop
def FpOk (X : Cx) (pins : List (Addr × Obj)) (H : Hp) (b : Addr) : Prop :=
  H b = none ∧ b ≠ X.env.locals ∧ b ∉ X.fs ∧ (b ∈ X.ex ∨ X.s_0.heap.objs.size ≤ b) ∧ (∀ x c, X.env.cells.lookup x = some c → c ≠ b) ∧ ∀ p ∈ X.pn ++ pins, p.1 ≠ b
theorem Inv.fpOk {X : Cx} {pins : List (Addr × Obj)} {σ : St} {H H' : Hp} {s : Shared} {b : Addr} (I : Inv X pins σ H s) (hb : s.heap.objs.size ≤ b) (hn : H' b = none) : FpOk X pins H' b := by
  refine ⟨hn, Nat.ne_of_gt (Nat.lt_of_lt_of_le I.lt hb), I.nofs hb, .inr (Nat.le_trans I.sz hb), fun x c e z => ?_, fun p hp z => ?_⟩
  · obtain ⟨v, q⟩ := I.cell x c e
    exact absurd (Nat.lt_of_lt_of_le q.lt (by rw [z]; exact hb)) (Nat.lt_irrefl _)
  · exact absurd (Nat.lt_of_lt_of_le (Heap.lt_size (I.pin p hp).1) (by rw [z]; exact hb)) (Nat.lt_irrefl _)
structure Turn (P : Program) (w : World) (K : PySem.W.Frag) (tg : Expr) (J : It) (fp : List Addr) (it : Addr) (tn : Nat → Heap → Prop) : Prop where
  mem : it ∈ fp
  obj : ∀ i h, tn i h → ∀ b ∈ fp, ∃ o, h.get? b = some o ∧ ∀ v, o.data ≠ .cell v
  keep : ∀ i h h', tn i h → (∀ b ∈ fp, ∀ o, h.get? b = some o → h'.get? b = some o) → tn i h'
  item : ∀ (X : Cx), X.prog = P → X.w = w → X.K = K → X.calm = true → ∀ (i : Nat) (pins : List (Addr × Obj)) (s : Shared) (σ : St) (H : Hp) (E : Value → Shared → Prop), Inv X pins σ H s → (∀ b ∈ fp, FpOk X pins H b) → tn i s.heap → J.go i H →
    wpAny (model P w) X.A (pyNext (.ref it)) (fun r s1 => ∃ u, r = some u ∧
      wpAny (model P w) X.A (letOwnedTupleGo tg (.ref it) u) (fun _ s2 => ∃ x H', Inv X pins σ H' s2 ∧ RelV x u ∧ J.yld i H x H' ∧ tn (i + 1) s2.heap ∧ ∀ b ∈ fp, H' b = none) E s1) E s
  done : ∀ (X : Cx), X.prog = P → X.w = w → X.K = K → X.calm = true → ∀ (i : Nat) (pins : List (Addr × Obj)) (s : Shared) (σ : St) (H : Hp) (E : Value → Shared → Prop), Inv X pins σ H s → (∀ b ∈ fp, FpOk X pins H b) → tn i s.heap → J.stop i H →
    wpAny (model P w) X.A (pyNext (.ref it)) (fun r s1 => r = none ∧ Inv X pins σ H s1) E s
  self : ∀ (A : Around) (i : Nat) (s : Shared) (Q : Value → Shared → Prop) (E : Value → Shared → Prop), tn i s.heap → Q (.ref it) s → wpAny (model P w) A (pyIter (.ref it)) Q E s
abbrev TI := St → Hp → (It → Hp → Prop) → Prop
def PIE (X : Cx) (pins : List (Addr × Obj)) (σ : St) (tg : Expr) (R : It → Hp → Prop) (itv : Value) (s2 : Shared) : Prop :=
  ∃ (it : Addr) (fp : List Addr) (tn : Nat → Heap → Prop) (J : It) (H' : Hp), itv = .ref it ∧ Inv X pins σ H' s2 ∧ Turn X.prog X.w X.K tg J fp it tn ∧ tn 0 s2.heap ∧ (∀ b ∈ fp, FpOk X pins H' b) ∧ R J H'
def PI (X : Cx) (tg iter : Expr) (wi : TI) : Prop :=
  ∀ (pins : List (Addr × Obj)) (s : Shared) (σ : St) (H : Hp) (R : It → Hp → Prop), Inv X pins σ H s → wi σ H R →
    wpAny (model X.prog X.w) X.A (eval iter X.env) (fun v s1 => wpAny (model X.prog X.w) X.A (pyIter v) (PIE X pins σ tg R) X.xe s1) X.xe s

theorem go_of {M : Model} {A : Around} {E : Value → Shared → Prop} {s : Shared} {tg : Expr} {it : Addr} {u : Value} {o : Obj} {n : String} {vs : Array Value} {Q : Unit → Shared → Prop} (ho : s.heap.get? it = some o) (hc : o.cls = .type n) (hd : o.data = .fields vs)
    (hn : ["enumerate", "zip", "dict_itemiterator", "dict_reverseitemiterator", "odict_iterator", "itertools.zip_longest", "itertools.pairwise"].contains n = false) (hQ : Q () s) : wpAny M A (letOwnedTupleGo tg (.ref it) u) Q E s := by
  unfold letOwnedTupleGo
  cases tg <;> first
    | exact wpAny_pure hQ
    | (cases u <;> first
        | exact wpAny_pure hQ
        | (refine wpAny_bind (wpAny_load ho ?_)
           rw [hc, hd]
           show wpAny M A (if (["enumerate", "zip", "dict_itemiterator", "dict_reverseitemiterator", "odict_iterator", "itertools.zip_longest", "itertools.pairwise"].contains n && vs[0]? == some (rawInt _)) = true then _ else _) Q E s
           rw [if_neg (by intro h; rw [hn, Bool.false_and] at h; cases h)]
           exact wpAny_pure hQ))

def Itl (K : PySem.W.Frag) (a : Addr) : It :=
  ⟨fun i H => ∃ xs x, SqL K H a xs ∧ xs[i]? = some x, fun i H x H' => H' = H ∧ ∀ xs, SqL K H a xs → xs[i]? = some x, fun i H => ∃ xs, SqL K H a xs ∧ xs.length ≤ i⟩
def Itr (lo : Int) (n : Nat) : It := ⟨fun i _ => i < n, fun i H x H' => H' = H ∧ x = .int (lo + i), fun i _ => n ≤ i⟩
theorem turn_list {P : Program} {w : World} {K : PySem.W.Frag} {tg : Expr} (a it : Addr) : Turn P w K tg (Itl K a) [it] it (fun i h => h.IsListIter it a i) where
  mem := by simp
  obj := fun i h st b hb => by
    have e : b = it := by simpa using hb
    subst e
    obtain ⟨o, e, c, d⟩ := st
    exact ⟨o, e, fun v z => by rw [d] at z; cases z⟩
  keep := fun i h h' st k => st.at fun o e => k it (by simp) o e
  item := by
    intro X hP hw hK hc i pins s σ H E I hf st hg
    subst hP hw hK
    obtain ⟨xs, x, hq, hx⟩ := hg
    obtain ⟨its, rv, p, hz⟩ := I.list hq
    obtain ⟨u, hu, ru⟩ := rv.get hx
    obtain ⟨f0, f1, f2, f3, f4, f5⟩ := hf it (by simp)
    refine wpAny_pyNext_list_item st p.isList (x := u) (by simpa using hu) fun h' st' sb => ?_
    have I1 : Inv X pins σ H { s with heap := h' } := I.turned (t' := s.toks) (fun b o hb e => (sb.2 b hb).trans e) f0 f1 f3 f4 f5
    obtain ⟨o, e, c, d⟩ := id st'
    exact ⟨u, rfl, go_of (s := { s with heap := h' }) e c d (by decide) ⟨x, H, I1, ru, ⟨rfl, fun ys hy => by rw [I.list_inj hy hq]; exact hx⟩, st', fun b hb => (hf b hb).1⟩⟩
  done := by
    intro X hP hw hK hc i pins s σ H E I hf st hg
    subst hP hw hK
    obtain ⟨xs, hq, hx⟩ := hg
    obtain ⟨its, rv, p, hz⟩ := I.list hq
    obtain ⟨f0, f1, f2, f3, f4, f5⟩ := hf it (by simp)
    have hl := rv.length
    exact wpAny_pyNext_list_end (I.ok.hd hc) st p.isList (by simp; omega) fun h' eb => ⟨rfl, I.turned (t' := s.toks) (fun b o hb e => eb b o hb e) f0 f1 f3 f4 f5⟩
  self := fun _ _ _ _ _ st h => wpAny_pyIter_listiter st h
theorem turn_range {P : Program} {w : World} {K : PySem.W.Frag} {tg : Expr} (it : Addr) (lo : Int) (n : Nat) : Turn P w K tg (Itr lo n) [it] it (fun i h => IsRangeIter h it (lo + (i : Nat) * 1) ((n : Int) - (i : Nat)) 1) where
  mem := by simp
  obj := fun i h st b hb => by
    have e : b = it := by simpa using hb
    subst e
    exact ⟨_, st, fun v z => by
      have z' : Data.fields _ = Data.cell v := z
      cases z'⟩
  keep := fun i h h' st k => k it (by simp) _ st
  item := by
    intro X hP hw hK hc i pins s σ H E I hf st hg
    subst hP hw hK
    obtain ⟨f0, f1, f2, f3, f4, f5⟩ := hf it (by simp)
    have W := Walks.range (prog := X.prog) (w := X.w) (I.ok.hd hc) it lo 1 n
    refine W.item i s _ _ hg st fun v h' tk hv st' kk => ?_
    obtain ⟨t, rfl⟩ := hv
    have I1 : Inv X pins σ H { s with heap := h', toks := tk } := I.turned (fun b o hb e => kk b o (by simpa using hb) e) f0 f1 f3 f4 f5
    refine ⟨_, rfl, go_of (s := { s with heap := h', toks := tk }) (n := "range_iterator") st' rfl rfl (by decide) ⟨.int (lo + i), H, I1, ⟨t, ?_⟩, ⟨rfl, rfl⟩, st', fun b hb => (hf b hb).1⟩⟩
    rw [Int.mul_one]
  done := by
    intro X hP hw hK hc i pins s σ H E I hf st hg
    subst hP hw hK
    obtain ⟨f0, f1, f2, f3, f4, f5⟩ := hf it (by simp)
    exact wpAny_pyNext_range_end (I.ok.hd hc) st (by have : n ≤ i := hg; omega) fun h' eb => ⟨rfl, I.turned (t' := s.toks) (fun b o hb e => eb b o hb e) f0 f1 f3 f4 f5⟩
  self := fun _ _ _ _ _ st h => wpAny_pyIter_rangeiter st h
end L2

namespace L2
open PySem PySem.Spec PyProof.Rows
section
variable {X : Cx} {tg : Expr}
def iList (K : PySem.W.Frag) (tl : TE) : TI := fun σ H R => tl σ H fun x H1 => ∃ a, x = .ref a ∧ (∃ xs, SqL K H1 a xs) ∧ R (Itl K a) H1
theorem pi_list {l : Expr} {tl : TE} (hl : PE X l tl) : PI X tg l (iList X.K tl) := by
  intro pins s σ H R I h
  refine thn (hl pins s σ H _ I h) fun v s1 ⟨x, H1, I1, r1, q1⟩ => ?_
  obtain ⟨a, e, ⟨xs, hq⟩, q⟩ := q1
  subst e
  cases r1
  obtain ⟨its, rv, p, hz⟩ := I1.list hq
  refine wpAny_pyIter_list p.isList ?_
  refine ⟨s1.heap.objs.size, [s1.heap.objs.size], _, _, H1, rfl, I1.kept (t' := s1.toks) fun b o e => Heap.get?_push_of_some _ e, turn_list a _, ⟨_, Heap.get?_push_size _ rfl, rfl, rfl⟩, fun b hb => ?_, q⟩
  have e : b = s1.heap.objs.size := by simpa using hb
  subst e
  exact I1.fpOk (Nat.le_refl _) (I1.hok.fresh (Nat.le_refl _))
theorem range_it {pins : List (Addr × Obj)} {σ : St} {H : Hp} {s : Shared} {R : It → Hp → Prop} {E : Value → Shared → Prop} {lo hi : Int} {t u v : Tok} {tk : Nat} (I : Inv X pins σ H s) (h1 : -(2 ^ 62) ≤ lo) (h2 : lo < 2 ^ 62) (h3 : -(2 ^ 62) ≤ hi) (h4 : hi < 2 ^ 62)
    (q : R (Itr lo (hi - lo).toNat) H) : wpAny (model X.prog X.w) X.A (pyIter (.ref s.heap.objs.size)) (PIE X pins σ tg R) E { s with heap := s.heap.push { cls := .type "range", data := .fields #[.int lo t, .int hi u, .int 1 v] }, toks := tk } := by
  refine wpAny_pyIter_range (IsRange.new ..) (small_one h1 h2 h3 h4) ?_
  have I1 : Inv X pins σ H { s with heap := s.heap.push { cls := .type "range", data := .fields #[.int lo t, .int hi u, .int 1 v] }, toks := tk } := I.kept fun b o e => Heap.get?_push_of_some _ e
  refine ⟨(s.heap.push { cls := .type "range", data := .fields #[.int lo t, .int hi u, .int 1 v] }).objs.size, [(s.heap.push { cls := .type "range", data := .fields #[.int lo t, .int hi u, .int 1 v] }).objs.size], _, _, H, rfl,
    I1.kept (t' := tk) fun b o e => Heap.get?_push_of_some _ e, turn_range _ lo (hi - lo).toNat, ?_, fun b hb => ?_, q⟩
  · have e1 : lo + ((0 : Nat) : Int) * 1 = lo := by simp
    have e2 : (((hi - lo).toNat : Nat) : Int) - ((0 : Nat) : Int) = Builtin.Range.rangeSize lo hi 1 := by rw [rangeSize_one]; split <;> omega
    show IsRangeIter _ _ (lo + ((0 : Nat) : Int) * 1) ((((hi - lo).toNat : Nat) : Int) - ((0 : Nat) : Int)) 1
    rw [e1, e2]
    exact Heap.get?_push_size _ rfl
  · have e : b = (s.heap.push { cls := .type "range", data := .fields #[.int lo t, .int hi u, .int 1 v] }).objs.size := by simpa using hb
    subst e
    exact I1.fpOk (Nat.le_refl _) (I1.hok.fresh (Nat.le_refl _))
def iRng1 (ta : TA) : TI := fun σ H R => ta σ H fun vs H1 => ∃ j : Int, vs = [.int j] ∧ -(2 ^ 62) ≤ j ∧ j < 2 ^ 62 ∧ R (Itr 0 j.toNat) H1
def iRng2 (ta : TA) : TI := fun σ H R => ta σ H fun vs H1 => ∃ i j : Int, vs = [.int i, .int j] ∧ (-(2 ^ 62) ≤ i ∧ i < 2 ^ 62 ∧ -(2 ^ 62) ≤ j ∧ j < 2 ^ 62) ∧ R (Itr i (j - i).toNat) H1
theorem pi_range1 {a : Expr} {ta : TA} {p pos : Pos} (hg : Gl X "range") (hm : X.mg "range" = none) (ha : PA X [a] ta) (hs : starEach [a] X.env = [(false, eval a X.env)] := by rfl) : PI X tg (.Call (.Name "range" p) [a] [] pos) (iRng1 ta) := by
  intro pins s σ H R I h
  refine Call_ (ld_blt I hg hm boot_range (PyProof.Rows.callWith_type1 (thn (ha pos pins s σ H _ I h) fun us s1 ⟨vs, H1, I1, r1, q1⟩ => ?_) hs rfl))
  obtain ⟨j, e, q1, q2, q⟩ := q1
  subst e
  cases r1 with
  | cons r rr =>
    cases rr
    obtain ⟨t, rfl⟩ := r
    exact call_range_1 (range_it I1 (by omega) (by omega) q1 q2 (by simpa using q))
theorem pi_range2 {a b : Expr} {ta : TA} {p pos : Pos} (hg : Gl X "range") (hm : X.mg "range" = none) (ha : PA X [a, b] ta) (hs : starEach [a, b] X.env = [(false, eval a X.env), (false, eval b X.env)] := by rfl) (hs2 : starEach [b] X.env = [(false, eval b X.env)] := by rfl) :
    PI X tg (.Call (.Name "range" p) [a, b] [] pos) (iRng2 ta) := by
  intro pins s σ H R I h
  refine Call_ (ld_blt I hg hm boot_range (PyProof.Rows.callWith_type1 (thn (ha pos pins s σ H _ I h) fun us s1 ⟨vs, H1, I1, r1, q1⟩ => ?_) (by rw [hs, hs2]) (by rw [hs2]; rfl)))
  obtain ⟨i, j, e, ⟨q1, q2, q3, q4⟩, q⟩ := q1
  subst e
  cases r1 with
  | cons r rr =>
    cases rr with
    | cons r' rr =>
      cases rr
      obtain ⟨t, rfl⟩ := r
      obtain ⟨t', rfl⟩ := r'
      exact call_range_2 (range_it I1 q1 q2 q3 q4 q)

def tFor (wi : TI) (g : TG) (tb : TS) : TS := fun D σ H => wi σ H fun J H1 => ∃ W : Nat → Nat → St → Hp → Prop, (∃ m, W 0 m σ H1) ∧ ∀ i m σ H, W i m σ H →
  (J.stop i H ∧ D.nx σ H) ∨ (J.go i H ∧ ∃ N : St → Hp → Prop, (∀ σ' H', N σ' H' → ∃ m', m' < m ∧ W (i + 1) m' σ' H') ∧ ∀ x H', J.yld i H x H' → g x σ H' fun σ2 H2 => tb { D with nx := N, ct := N, bk := D.nx } σ2 H2)
def pinsAt (fp : List Addr) (h : Heap) : List (Addr × Obj) := fp.filterMap fun b => (h.get? b).map fun o => (b, o)
theorem mem_pinsAt {fp : List Addr} {h : Heap} {b : Addr} {o : Obj} (hb : b ∈ fp) (e : h.get? b = some o) : (b, o) ∈ pinsAt fp h := List.mem_filterMap.mpr ⟨b, hb, by rw [e]; rfl⟩
theorem of_pinsAt {fp : List Addr} {h : Heap} {p : Addr × Obj} (hp : p ∈ pinsAt fp h) : p.1 ∈ fp ∧ h.get? p.1 = some p.2 := by
  obtain ⟨b, hb, e⟩ := List.mem_filterMap.mp hp
  cases q : h.get? b with
  | none => rw [q] at e; cases e
  | some o =>
    rw [q] at e
    have e' : (b, o) = p := Option.some.inj e
    subst e'
    exact ⟨hb, q⟩
theorem Inv.pinned {pins : List (Addr × Obj)} {σ : St} {H : Hp} {s : Shared} {fp : List Addr} (I : Inv X pins σ H s) (hf : ∀ b ∈ fp, FpOk X pins H b) (ho : ∀ b ∈ fp, ∃ o, s.heap.get? b = some o ∧ ∀ v, o.data ≠ .cell v) : Inv X (pins ++ pinsAt fp s.heap) σ H s :=
  I.pins_of fun p hp => (List.mem_append.mp hp).elim (fun z => I.pin p (List.mem_append_right _ z)) fun z => by
    obtain ⟨hb, e⟩ := of_pinsAt z
    obtain ⟨f0, f1, f2, _⟩ := hf p.1 hb
    obtain ⟨o, e', d⟩ := ho p.1 hb
    rw [e] at e'; cases e'
    exact ⟨e, f0, f1, f2, d⟩
theorem Inv.unpinned {pins pl : List (Addr × Obj)} {σ : St} {H : Hp} {s : Shared} (I : Inv X (pins ++ pl) σ H s) : Inv X pins σ H s := I.pins_of fun p hp => I.pin p (List.mem_append_right _ (List.mem_append_left _ hp))
theorem ps_for {iter : Expr} {body : List Stmt} {wi : TI} {g : TG} {tb : TS} {pos : Pos} (hp : PassesOwn (model X.prog X.w) X.A X.env X.xe) (hc : X.calm = true) (hi : PI X tg iter wi) (hg : PG X tg g) (hb : PSs X body tb)
    (hs : ∀ x, foldedSetIterable iter X.env x = pure x := by intro _; rfl) : PS X (.For tg iter body [] pos) (tFor wi g tb) := by
  intro pins s σ H D I h
  refine wpAny_For (thn (hi pins s σ H _ I h) fun v s1 h1 => thn h1 fun itv s2 h2 => ?_) hs
  obtain ⟨it, fp, tn, J, H2, e, I2, T, st2, f2, W, ⟨m0, w0⟩, turn⟩ := h2
  subst e
  -- what stays true of the iterator's objects through the loop
  have stat : ∀ {H' : Hp}, (∀ b ∈ fp, H' b = none) → ∀ b ∈ fp, FpOk X pins H' b := fun hn b hb => ⟨hn b hb, (f2 b hb).2⟩
  refine codeAny_forLoop_any (fun n s' => ∃ i σ' H', Inv X pins σ' H' s' ∧ tn i s'.heap ∧ (∀ b ∈ fp, H' b = none) ∧ W i n σ' H') ?_ m0 ⟨0, σ, H2, I2, st2, fun b hb => (f2 b hb).1, w0⟩
  rintro n s3 ⟨i, σ3, H3, I3, st3, fr3, w3⟩
  rcases turn i n σ3 H3 w3 with ⟨stop, qn⟩ | ⟨go, N, hN, step⟩
  · refine wpAny_passesOwn hp (thn (T.done X rfl rfl rfl hc i pins s3 σ3 H3 X.xe I3 (stat fr3) st3 stop) fun r s4 ⟨hr, I4⟩ => ?_)
    subst hr
    exact wpAny_execs_nil ⟨σ3, H3, I4, qn⟩
  · refine wpAny_passesOwn hp (thn (T.item X rfl rfl rfl hc i pins s3 σ3 H3 X.xe I3 (stat fr3) st3 go) fun r s4 ⟨u, hr, h4⟩ => ?_)
    subst hr
    refine wpAny_passesOwn hp (thn h4 fun _ s5 ⟨x, H5, I5, r5, y5, st5, fr5⟩ => ?_)
    have I5' := I5.pinned (stat fr5) (T.obj _ _ st5)
    refine wpAny_passesOwn hp (thn (hg _ s5 σ3 H5 x u _ I5' r5 (step x H5 y5)) fun _ s6 ⟨σ6, H6, I6, q6⟩ => ?_)
    refine wpAny_passesOwn hp (thn (hb _ s6 σ6 H6 _ I6 q6) fun f s7 q7 => ?_)
    have again : ∀ {σ7 : St} {H7 : Hp}, Inv X (pins ++ pinsAt fp s5.heap) σ7 H7 s7 → N σ7 H7 → ∃ m, m < n ∧ ∃ i σ' H', Inv X pins σ' H' s7 ∧ tn i s7.heap ∧ (∀ b ∈ fp, H' b = none) ∧ W i m σ' H' := fun {σ7 H7} I7 n7 => by
      obtain ⟨m', hm, w7⟩ := hN σ7 H7 n7
      refine ⟨m', hm, i + 1, σ7, H7, I7.unpinned, T.keep _ _ _ st5 fun b hb o e => (I7.pin (b, o) (List.mem_append_right _ (List.mem_append_right _ (mem_pinsAt hb e)))).1, fun b hb => ?_, w7⟩
      obtain ⟨o, e, d⟩ := T.obj _ _ st5 b hb
      exact (I7.pin (b, o) (List.mem_append_right _ (List.mem_append_right _ (mem_pinsAt hb e)))).2.1
    cases f with
    | next => obtain ⟨σ7, H7, I7, n7⟩ := q7; exact again I7 n7
    | cont => obtain ⟨σ7, H7, I7, n7⟩ := q7; exact again I7 n7
    | brk => obtain ⟨σ7, H7, I7, q7⟩ := q7; exact ⟨σ7, H7, I7.unpinned, q7⟩
    | ret v => obtain ⟨x7, σ7, H7, I7, r7, q7⟩ := q7; exact ⟨x7, σ7, H7, I7.unpinned, r7, q7⟩
end

theorem for_list {K : PySem.W.Frag} {a : Addr} {xs : List V} {g : TG} {tb : TS} {D : Ends} {σ : St} {H : Hp} (Pv : Nat → St → Hp → Prop) (h0 : Pv 0 σ H) (hl : ∀ i σ H, i ≤ xs.length → Pv i σ H → SqL K H a xs)
    (hs : ∀ i x σ H, xs[i]? = some x → Pv i σ H → g x σ H fun σ2 H2 => tb { D with nx := Pv (i + 1), ct := Pv (i + 1), bk := D.nx } σ2 H2) (hd : ∀ σ H, Pv xs.length σ H → D.nx σ H) :
    ∃ W : Nat → Nat → St → Hp → Prop, (∃ m, W 0 m σ H) ∧ ∀ i m σ H, W i m σ H →
      ((Itl K a).stop i H ∧ D.nx σ H) ∨ ((Itl K a).go i H ∧ ∃ N : St → Hp → Prop, (∀ σ' H', N σ' H' → ∃ m', m' < m ∧ W (i + 1) m' σ' H') ∧ ∀ x H', (Itl K a).yld i H x H' → g x σ H' fun σ2 H2 => tb { D with nx := N, ct := N, bk := D.nx } σ2 H2) := by
  refine ⟨fun i m σ H => m = xs.length - i ∧ i ≤ xs.length ∧ Pv i σ H, ⟨xs.length, by simp, Nat.zero_le _, h0⟩, ?_⟩
  rintro i m σ H ⟨rfl, hi, p⟩
  have q := hl i σ H hi p
  by_cases hlt : i < xs.length
  · refine .inr ⟨⟨xs, xs[i], q, by simp [hlt]⟩, Pv (i + 1), fun σ' H' p' => ⟨xs.length - (i + 1), by omega, rfl, hlt, p'⟩, fun x H' y => ?_⟩
    obtain ⟨e, y⟩ := y
    subst e
    exact hs i x σ _ (y xs q) p
  · have e : i = xs.length := by omega
    subst e
    exact .inl ⟨⟨xs, q, Nat.le_refl _⟩, hd σ H p⟩
theorem for_range {lo : Int} {n : Nat} {g : TG} {tb : TS} {D : Ends} {σ : St} {H : Hp} (Pv : Nat → St → Hp → Prop) (h0 : Pv 0 σ H)
    (hs : ∀ i σ H, i < n → Pv i σ H → g (.int (lo + i)) σ H fun σ2 H2 => tb { D with nx := Pv (i + 1), ct := Pv (i + 1), bk := D.nx } σ2 H2) (hd : ∀ σ H, Pv n σ H → D.nx σ H) :
    ∃ W : Nat → Nat → St → Hp → Prop, (∃ m, W 0 m σ H) ∧ ∀ i m σ H, W i m σ H →
      ((Itr lo n).stop i H ∧ D.nx σ H) ∨ ((Itr lo n).go i H ∧ ∃ N : St → Hp → Prop, (∀ σ' H', N σ' H' → ∃ m', m' < m ∧ W (i + 1) m' σ' H') ∧ ∀ x H', (Itr lo n).yld i H x H' → g x σ H' fun σ2 H2 => tb { D with nx := N, ct := N, bk := D.nx } σ2 H2) := by
  refine ⟨fun i m σ H => m = n - i ∧ i ≤ n ∧ Pv i σ H, ⟨n, by simp, Nat.zero_le _, h0⟩, ?_⟩
  rintro i m σ H ⟨rfl, hi, p⟩
  by_cases hlt : i < n
  · refine .inr ⟨hlt, Pv (i + 1), fun σ' H' p' => ⟨n - (i + 1), by omega, rfl, hlt, p'⟩, fun x H' y => ?_⟩
    obtain ⟨e, y⟩ := y
    subst e y
    exact hs i σ _ hlt p
  · have e : i = n := by omega
    subst e
    exact .inl ⟨Nat.le_refl _, hd σ H p⟩
theorem while_by {c : TT} {tb : TS} {D : Ends} {σ : St} {H : Hp} (Pv : St → Hp → Prop) (μ : St → Hp → Nat) (h0 : Pv σ H)
    (hs : ∀ σ H, Pv σ H → c σ H fun b H1 => if b = true then tb { D with nx := fun σ' H' => Pv σ' H' ∧ μ σ' H' < μ σ H, ct := fun σ' H' => Pv σ' H' ∧ μ σ' H' < μ σ H, bk := D.nx } σ H1 else D.nx σ H1)
    (mono : ∀ σ H Q Q', (∀ b H1, Q b H1 → Q' b H1) → c σ H Q → c σ H Q') : tWhile c tb D σ H := by
  refine ⟨fun m σ H => m = μ σ H ∧ Pv σ H, ⟨_, rfl, h0⟩, ?_⟩
  rintro m σ H ⟨rfl, p⟩
  refine mono σ H _ _ (fun b H1 q => ?_) (hs σ H p)
  cases b with
  | true => exact ⟨_, fun σ' H' ⟨p', l⟩ => ⟨_, l, rfl, p'⟩, q⟩
  | false => exact q
end L2

namespace L2
open PySem PySem.Spec PyProof.Rows

abbrev R2 := V → V → Hp → VK → Prop
def OpR (X : Cx) (f : Value → Value → Sem Value) (r : R2) : Prop :=
  ∀ (pins : List (Addr × Obj)) (s : Shared) (σ : St) (H : Hp) (x y : V) (v u : Value) (Q : VK), Inv X pins σ H s → RelV x v → RelV y u → r x y H Q →
    wpAny (model X.prog X.w) X.A (f v u) (EP X pins σ Q) X.xe s
def UnR (X : Cx) (f : Value → Sem Value) (r : V → Hp → VK → Prop) : Prop :=
  ∀ (pins : List (Addr × Obj)) (s : Shared) (σ : St) (H : Hp) (x : V) (v : Value) (Q : VK), Inv X pins σ H s → RelV x v → r x H Q →
    wpAny (model X.prog X.w) X.A (f v) (EP X pins σ Q) X.xe s
def CallR (X : Cx) (f : Value) (r : List V → Hp → VK → Prop) : Prop :=
  ∀ (pins : List (Addr × Obj)) (s : Shared) (σ : St) (H : Hp) (xs : List V) (us : List Value) (Q : VK), Inv X pins σ H s → Vals xs us → r xs H Q →
    wpAny (model X.prog X.w) X.A (call f us) (EP X pins σ Q) X.xe s
def tOp (r : R2) (ta tb : TE) : TE := fun σ H Q => ta σ H fun x H1 => tb σ H1 fun y H2 => r x y H2 Q
def tUn (r : V → Hp → VK → Prop) (ta : TE) : TE := fun σ H Q => ta σ H fun x H1 => r x H1 Q
def rI (C : Int → Int → Prop) (g : Int → Int → V) : R2 := fun x y H Q => ∃ i j, x = .int i ∧ y = .int j ∧ C i j ∧ Q (g i j) H
def rI0 (g : Int → Int → V) : R2 := fun x y H Q => ∃ i j, x = .int i ∧ y = .int j ∧ Q (g i j) H
def rU (g : Int → V) : V → Hp → VK → Prop := fun x H Q => ∃ i, x = .int i ∧ Q (g i) H

section
variable {X : Cx} {a b c : Expr} {ta tb tc : TE} {pos : Pos}

theorem binT (ha : PE X a ta) (hb : PE X b tb) {pins : List (Addr × Obj)} {s : Shared} {σ : St} {H : Hp} {R : V → V → Hp → Prop} (I : Inv X pins σ H s)
    (h : ta σ H fun x H1 => tb σ H1 fun y H2 => R x y H2) {Q : Value → Shared → Prop} {f : Value → Value → Sem Value}
    (hf : ∀ v u s2 x y H2, Inv X pins σ H2 s2 → RelV x v → RelV y u → R x y H2 → wpAny (model X.prog X.w) X.A (f v u) Q X.xe s2) :
    wpAny (model X.prog X.w) X.A (eval a X.env) (fun v s₁ => wpAny (model X.prog X.w) X.A (eval b X.env) (fun u s₂ => wpAny (model X.prog X.w) X.A (f v u) Q X.xe s₂) X.xe s₁) X.xe s := by
  refine thn (ha pins s σ H _ I h) fun v s1 ⟨x, H1, I1, r1, q1⟩ => ?_
  refine thn (hb pins s1 σ H1 _ I1 q1) fun u s2 ⟨y, H2, I2, r2, q2⟩ => ?_
  exact hf v u s2 x y H2 I2 r1 r2 q2

theorem pe_op {op : Operator} {r : R2} (ho : OpR X (binaryOp op) r) (ha : PE X a ta) (hb : PE X b tb) : PE X (.BinOp a op b pos) (tOp r ta tb) := by
  intro pins s σ H Q I h
  exact wpAny_BinOp (binT ha hb I h fun v u s2 x y H2 I2 rx ry q => ho pins s2 σ H2 x y v u Q I2 rx ry q)
theorem pe_un {op : UnaryOp} {r : V → Hp → VK → Prop} (ho : UnR X (unaryOp op) r) (ha : PE X a ta) : PE X (.UnaryOp op a pos) (tUn r ta) := by
  intro pins s σ H Q I h
  exact UnaryOp_ (thn (ha pins s σ H _ I h) fun v s1 ⟨x, H1, I1, r1, q1⟩ => ho pins s1 σ H1 x v Q I1 r1 q1)
theorem opI {f : Value → Value → Sem Value} {C : Int → Int → Prop} {g : Int → Int → Int}
    (rule : ∀ (i j : Int) (t u : Tok) (s : Shared) (Q : Value → Shared → Prop) (E : Value → Shared → Prop), C i j → Q (.int (g i j) s.toks) { s with toks := s.toks + 1 } → wpAny (model X.prog X.w) X.A (f (.int i t) (.int j u)) Q E s) :
    OpR X f (rI C fun i j => .int (g i j)) := by
  intro pins s σ H x y v u Q I rx ry h
  obtain ⟨i, j, rfl, rfl, hc, q⟩ := h
  obtain ⟨t, rfl⟩ := rx
  obtain ⟨t', rfl⟩ := ry
  exact rule i j t t' s _ _ hc ⟨.int (g i j), H, I.tok _, ⟨_, rfl⟩, q⟩
theorem opI0 {f : Value → Value → Sem Value} {g : Int → Int → Int}
    (rule : ∀ (i j : Int) (t u : Tok) (s : Shared) (Q : Value → Shared → Prop) (E : Value → Shared → Prop), Q (.int (g i j) s.toks) { s with toks := s.toks + 1 } → wpAny (model X.prog X.w) X.A (f (.int i t) (.int j u)) Q E s) :
    OpR X f (rI0 fun i j => .int (g i j)) := by
  intro pins s σ H x y v u Q I rx ry h
  obtain ⟨i, j, rfl, rfl, q⟩ := h
  obtain ⟨t, rfl⟩ := rx
  obtain ⟨t', rfl⟩ := ry
  exact rule i j t t' s _ _ ⟨.int (g i j), H, I.tok _, ⟨_, rfl⟩, q⟩
theorem opB0 {f : Value → Value → Sem Value} {g : Int → Int → Bool}
    (rule : ∀ (i j : Int) (t u : Tok) (s : Shared) (Q : Value → Shared → Prop) (E : Value → Shared → Prop), Q (.bool (g i j)) s → wpAny (model X.prog X.w) X.A (f (.int i t) (.int j u)) Q E s) :
    OpR X f (rI0 fun i j => .bl (g i j)) := by
  intro pins s σ H x y v u Q I rx ry h
  obtain ⟨i, j, rfl, rfl, q⟩ := h
  obtain ⟨t, rfl⟩ := rx
  obtain ⟨t', rfl⟩ := ry
  exact rule i j t t' s _ _ ⟨.bl (g i j), H, I, rfl, q⟩

def CDiv (i j : Int) : Prop := 0 < j ∧ j < 1073741824
def CDivN (i j : Int) : Prop := j ≠ 0 ∧ j.natAbs < 1073741824
def CMul (i j : Int) : Prop := (-(2 ^ 64) < i ∧ i < 2 ^ 64) ∨ (-(2 ^ 64) < j ∧ j < 2 ^ 64)
theorem CMul.ok {i j : Int} (h : CMul i j) : IntMulOk i j := by
  rcases h with ⟨h1, h2⟩ | ⟨h1, h2⟩
  · exact .of_left (intBits_le_64 h1 h2)
  · exact .of_right (intBits_le_64 h1 h2)
theorem op_add : OpR X (binaryOp .Add) (rI0 fun i j => .int (i + j)) := opI0 fun _ _ _ _ _ _ _ q => add_int q
theorem op_sub : OpR X (binaryOp .Sub) (rI0 fun i j => .int (i - j)) := opI0 fun _ _ _ _ _ _ _ q => sub_int q
theorem op_mul : OpR X (binaryOp .Mult) (rI CMul fun i j => .int (i * j)) := opI fun _ _ _ _ _ _ _ hc q => mul_int q hc.ok
theorem op_fdiv : OpR X (binaryOp .FloorDiv) (rI CDiv fun i j => .int (i / j)) := opI fun i j _ _ _ _ _ hc q => by
  have h1 : (0 : Int) < j := hc.1
  have h2 : j < 1073741824 := hc.2
  exact floordiv_int (by omega) (by rw [Int.fdiv_eq_ediv_of_nonneg i (by omega)]; exact q) (.inl (PyProof.noPylong_small (by omega)))
theorem op_fdivN : OpR X (binaryOp .FloorDiv) (rI CDivN fun i j => .int (i.fdiv j)) := opI fun _ _ _ _ _ _ _ hc q => floordiv_int hc.1 q (.inl (PyProof.noPylong_small hc.2))
theorem op_modN : OpR X (binaryOp .Mod) (rI (fun _ j => j ≠ 0) fun i j => .int (i.fmod j)) := opI fun _ _ _ _ _ _ _ hc q => mod_int' hc q
theorem unI {f : Value → Sem Value} {g : Int → Int}
    (rule : ∀ (i : Int) (t : Tok) (s : Shared) (Q : Value → Shared → Prop) (E : Value → Shared → Prop), Q (.int (g i) s.toks) { s with toks := s.toks + 1 } → wpAny (model X.prog X.w) X.A (f (.int i t)) Q E s) :
    UnR X f (rU fun i => .int (g i)) := by
  intro pins s σ H x v Q I rx h
  obtain ⟨i, rfl, q⟩ := h
  obtain ⟨t, rfl⟩ := rx
  exact rule i t s _ _ ⟨.int (g i), H, I.tok _, ⟨_, rfl⟩, q⟩
theorem un_neg : UnR X (unaryOp .USub) (rU fun i => .int (-i)) := unI fun _ _ _ _ _ q => neg_int q
end

def scal : V → V → Bool
  | .non, .non => true | .non, .int _ => true | .int _, .non => true | .non, .bl _ => true | .bl _, .non => true | .non, .str _ => true | .str _, .non => true
  | .int _, .int _ => true | .bl _, .bl _ => true | .str _, .str _ => true | .byt _, .byt _ => true
  | .int _, .str _ => true | .str _, .int _ => true | .bl _, .str _ => true | .str _, .bl _ => true
  | _, _ => false
def rEq : R2 := fun x y H Q => scal x y = true ∧ Q (.bl (decide (x = y))) H
def rNe : R2 := fun x y H Q => scal x y = true ∧ Q (.bl (!decide (x = y))) H

theorem dec_int {i j : Int} : decide (V.int i = V.int j) = (i == j) := by
  rw [Bool.eq_iff_iff]
  simp
theorem dec_bl {i j : Bool} : decide (V.bl i = V.bl j) = (i == j) := by
  rw [Bool.eq_iff_iff]
  simp
theorem dec_str {i j : Str} : decide (V.str i = V.str j) = (i == j) := by
  rw [Bool.eq_iff_iff]
  simp
theorem dec_byt {i j : Array UInt8} : decide (V.byt i = V.byt j) = (i.toList == j.toList) := by
  rw [Bool.eq_iff_iff]
  cases i
  cases j
  simp

section
variable {X : Cx} {a b c : Expr} {ta tb tc : TE} {pos : Pos}
theorem fin_bl {pins : List (Addr × Obj)} {σ : St} {H : Hp} {s : Shared} {Q : VK} {k k' : Bool} (I : Inv X pins σ H s) (q : Q (.bl k) H) (e : k = k') : EP X pins σ Q (.bool k') s := by
  subst e
  exact ⟨.bl k, H, I, rfl, q⟩
theorem op_eq : OpR X (compareOp .Eq) rEq := by
  intro pins s σ H x y v u Q I rx ry h
  obtain ⟨hs, q⟩ := h
  cases x with
  | non =>
    cases rx
    cases y with
    | non => cases ry; exact PySem.EqNone.eq_none_none (fin_bl I q (by simp))
    | bl j => cases ry; exact PySem.EqNone.eq_none_bool (fin_bl I q (by simp))
    | int j => obtain ⟨t', rfl⟩ := ry; exact PySem.EqNone.eq_none_int (fin_bl I q (by simp))
    | str j => obtain ⟨t', rfl⟩ := ry; exact PySem.EqNone.eq_none_str (fin_bl I q (by simp))
    | _ => exact absurd (show false = true from hs) Bool.false_ne_true
  | bl i =>
    cases rx
    cases y with
    | non => cases ry; exact PySem.EqNone.eq_bool_none (fin_bl I q (by simp))
    | bl j => cases ry; exact eq_bool (fin_bl I q dec_bl)
    | str j => obtain ⟨t', rfl⟩ := ry; exact PySem.EqMixed.eq_bool_str (fin_bl I q (by simp))
    | _ => exact absurd (show false = true from hs) Bool.false_ne_true
  | int i =>
    obtain ⟨t, rfl⟩ := rx
    cases y with
    | non => cases ry; exact PySem.EqNone.eq_int_none (fin_bl I q (by simp))
    | int j => obtain ⟨t', rfl⟩ := ry; exact eq_int (fin_bl I q dec_int)
    | str j => obtain ⟨t', rfl⟩ := ry; exact PySem.EqMixed.eq_int_str (fin_bl I q (by simp))
    | _ => exact absurd (show false = true from hs) Bool.false_ne_true
  | str i =>
    obtain ⟨t, rfl⟩ := rx
    cases y with
    | non => cases ry; exact PySem.EqNone.eq_str_none (fin_bl I q (by simp))
    | bl j => cases ry; exact PySem.EqMixed.eq_str_bool (fin_bl I q (by simp))
    | int j => obtain ⟨t', rfl⟩ := ry; exact PySem.EqMixed.eq_str_int (fin_bl I q (by simp))
    | str j => obtain ⟨t', rfl⟩ := ry; exact eq_str (fin_bl I q dec_str)
    | _ => exact absurd (show false = true from hs) Bool.false_ne_true
  | byt i =>
    obtain ⟨t, rfl⟩ := rx
    cases y with
    | byt j => obtain ⟨t', rfl⟩ := ry; exact PySem.W.eq_bytes (fin_bl I q dec_byt)
    | _ => exact absurd (show false = true from hs) Bool.false_ne_true
  | _ => cases y <;> exact absurd (show false = true from hs) Bool.false_ne_true
theorem op_ne : OpR X (compareOp .NotEq) rNe := by
  intro pins s σ H x y v u Q I rx ry h
  obtain ⟨hs, q⟩ := h
  cases x with
  | non =>
    cases rx
    cases y with
    | non => cases ry; exact PySem.EqNone.ne_none_none (fin_bl I q (by simp))
    | bl j => cases ry; exact PySem.EqNone.ne_none_bool (fin_bl I q (by simp))
    | int j => obtain ⟨t', rfl⟩ := ry; exact PySem.EqNone.ne_none_int (fin_bl I q (by simp))
    | str j => obtain ⟨t', rfl⟩ := ry; exact PySem.EqNone.ne_none_str (fin_bl I q (by simp))
    | _ => exact absurd (show false = true from hs) Bool.false_ne_true
  | bl i =>
    cases rx
    cases y with
    | non => cases ry; exact PySem.EqNone.ne_bool_none (fin_bl I q (by simp))
    | bl j => cases ry; exact ne_bool (fin_bl I q (congrArg not dec_bl))
    | str j => obtain ⟨t', rfl⟩ := ry; exact PySem.EqMixed.ne_bool_str (fin_bl I q (by simp))
    | _ => exact absurd (show false = true from hs) Bool.false_ne_true
  | int i =>
    obtain ⟨t, rfl⟩ := rx
    cases y with
    | non => cases ry; exact PySem.EqNone.ne_int_none (fin_bl I q (by simp))
    | int j => obtain ⟨t', rfl⟩ := ry; exact ne_int (fin_bl I q (congrArg not dec_int))
    | str j => obtain ⟨t', rfl⟩ := ry; exact PySem.EqMixed.ne_int_str (fin_bl I q (by simp))
    | _ => exact absurd (show false = true from hs) Bool.false_ne_true
  | str i =>
    obtain ⟨t, rfl⟩ := rx
    cases y with
    | non => cases ry; exact PySem.EqNone.ne_str_none (fin_bl I q (by simp))
    | bl j => cases ry; exact PySem.EqMixed.ne_str_bool (fin_bl I q (by simp))
    | int j => obtain ⟨t', rfl⟩ := ry; exact PySem.EqMixed.ne_str_int (fin_bl I q (by simp))
    | str j => obtain ⟨t', rfl⟩ := ry; exact ne_str (fin_bl I q (congrArg not dec_str))
    | _ => exact absurd (show false = true from hs) Bool.false_ne_true
  | byt i =>
    obtain ⟨t, rfl⟩ := rx
    cases y with
    | byt j => obtain ⟨t', rfl⟩ := ry; exact PySem.W.ne_bytes (fin_bl I q (congrArg not dec_byt))
    | _ => exact absurd (show false = true from hs) Bool.false_ne_true
  | _ => cases y <;> exact absurd (show false = true from hs) Bool.false_ne_true

theorem op_lt : OpR X (compareOp .Lt) (rI0 fun i j => .bl (decide (i < j))) := opB0 fun _ _ _ _ _ _ _ q => lt_int q
theorem op_le : OpR X (compareOp .LtE) (rI0 fun i j => .bl (decide (i ≤ j))) := opB0 fun _ _ _ _ _ _ _ q => le_int q
theorem op_gt : OpR X (compareOp .Gt) (rI0 fun i j => .bl (decide (j < i))) := opB0 fun _ _ _ _ _ _ _ q => gt_int q
theorem op_isN : OpR X (compareOp .Is) (fun x y H Q => y = .non ∧ Q (.bl (decide (x = .non))) H) := by
  intro pins s σ H x y v u Q I rx ry h
  obtain ⟨rfl, q⟩ := h
  cases ry
  refine is_none_gen (fin_bl I q ?_)
  cases x <;> first
    | (cases rx; rfl)
    | (obtain ⟨t, rfl⟩ := rx; rfl)
theorem nomark (b : Expr) {op : CmpOp} (h : op ≠ .In := by decide) (h2 : op ≠ .NotIn := by decide) : behindInMarks op b = false := by
  have e1 : (op == CmpOp.In) = false := by cases op <;> first | rfl | exact absurd rfl h
  have e2 : (op == CmpOp.NotIn) = false := by cases op <;> first | rfl | exact absurd rfl h2
  cases b <;> simp [behindInMarks, e1, e2]
theorem pe_cmpR {op : CmpOp} {r : R2} (ho : OpR X (compareOp op) r) (ha : PE X a ta) (hb : PE X b tb) (hm : behindInMarks op b = false) : PE X (.Compare a [op] [b] pos) (tOp r ta tb) := by
  intro pins s σ H Q I h
  exact wpAny_Compare1 (binT ha hb I h fun v u s2 x y H2 I2 rx ry q => ho pins s2 σ H2 x y v u Q I2 rx ry q) hm
def tTest (t : TE) : TT := fun σ H Q => t σ H fun x H' => ∃ k, x = .bl k ∧ Q k H'
theorem pt_cmpR {op : CmpOp} {r : R2} (ho : OpR X (compareOp op) r) (ha : PE X a ta) (hb : PE X b tb) (hm : behindInMarks op b = false) : PT X (.Compare a [op] [b] pos) (tTest (tOp r ta tb)) := by
  intro pins s σ H Q I h
  refine wpAny_isTrue_Compare1 (thn (ha pins s σ H _ I h) fun v s1 ⟨x, H1, I1, r1, q1⟩ => thn (hb pins s1 σ H1 _ I1 q1) fun u s2 ⟨y, H2, I2, r2, q2⟩ =>
    thn (ho pins s2 σ H2 x y v u _ I2 r1 r2 q2) fun c s3 ⟨z, H3, I3, r3, k, e, q3⟩ => ?_) hm
  subst e
  cases r3
  exact wpAny_truthy_bool ⟨H3, I3, q3⟩
def tChain (r r' : R2) (ta tb tc : TE) : TE := fun σ H Q => ta σ H fun x H1 => tb σ H1 fun y H2 => r x y H2 fun z H3 => ∃ k, z = .bl k ∧
  (if k = true then tc σ H3 fun w' H4 => r' y w' H4 Q else Q (.bl false) H3)
theorem pe_chain {op op' : CmpOp} {r r' : R2} (ho : OpR X (compareOp op) r) (ho' : OpR X (compareOp op') r') (ha : PE X a ta) (hb : PE X b tb) (hc : PE X c tc)
    (hm : lastMarks [op, op'] [b, c] = false := by with_unfolding_all rfl) : PE X (.Compare a [op, op'] [b, c] pos) (tChain r r' ta tb tc) := by
  intro pins s σ H Q I h
  refine Compare_chain (thn (ha pins s σ H _ I h) fun v s1 ⟨x, H1, I1, r1, q1⟩ => chain_link (thn (hb pins s1 σ H1 _ I1 q1) fun u s2 ⟨y, H2, I2, r2, q2⟩ =>
    thn (ho pins s2 σ H2 x y v u _ I2 r1 r2 q2) fun d s3 ⟨z, H3, I3, r3, k, e, q3⟩ => ?_)) hm
  subst e
  cases r3
  refine wpAny_truthy_bool ?_
  cases k with
  | false => exact ite_ff ⟨.bl false, H3, I3, rfl, q3⟩
  | true => exact ite_tt (chain_last (thn (hc pins s3 σ H3 _ I3 q3) fun w' s4 ⟨z', H4, I4, r4, q4⟩ => ho' pins s4 σ H4 y z' u w' Q I4 r2 r4 q4))
theorem line63 : (sizeLine : Nat) < 2 ^ 63 := by rw [sizeLine_eq]; decide
theorem vals1 {x : V} {us : List Value} (r : Vals [x] us) : ∃ u, us = [u] ∧ RelV x u := by
  cases r with
  | cons r1 r2 => cases r2; exact ⟨_, rfl, r1⟩
theorem vals2 {x y : V} {us : List Value} (r : Vals [x, y] us) : ∃ u w', us = [u, w'] ∧ RelV x u ∧ RelV y w' := by
  cases r with
  | cons r1 r2 =>
    cases r2 with
    | cons r3 r4 => cases r4; exact ⟨_, _, rfl, r1, r3⟩
theorem call_abs : CallR X (.builtin "abs") (fun xs H Q => ∃ i, xs = [.int i] ∧ Q (.int (if i < 0 then -i else i)) H) := by
  intro pins s σ H xs us Q I r h
  obtain ⟨i, rfl, q⟩ := h
  obtain ⟨u, rfl, t, rfl⟩ := vals1 r
  exact call_abs_int fun u tk => ⟨.int (if i < 0 then -i else i), H, I.tok _, ⟨_, rfl⟩, q⟩
end
end L2

namespace L2
open PySem PySem.Spec PyProof.Rows

structure ObjM (h : Heap) (x dx C : Addr) (mA : Str → Option Value) : Prop where
  obj : h.get? x = some (PySem.W.instObj C dx)
  ns : h.Ns1 dx mA
  ne : dx ≠ x

theorem lookIn_ns {h : Heap} {dx : Addr} {mA : Str → Option Value} (n : h.Ns1 dx mA) : ∃ od, h.get? dx = some od ∧ ∀ name, PySem.W.lookIn name od = some (mA name) := by
  obtain ⟨o, es, ep, ho, hd, hk, _, hm⟩ := n
  refine ⟨o, ho, fun name => ?_⟩
  have e := hm name
  unfold nsFind findBy at e
  rw [← Array.find?_toList] at e
  unfold PySem.W.lookIn
  rw [hd]
  dsimp only
  split
  · rename_i y q
    rw [q] at e
    exact congrArg some e
  · rename_i q
    rw [q] at e
    have a : es.toList.any (·.refKey) = false := by
      rw [List.any_eq_false]
      intro y hy
      obtain ⟨z, t, hkey⟩ := hk y (Array.mem_toList_iff.mp hy)
      simp [DictEntry.refKey, hkey]
    have a' : ¬ es.toList.any (·.refKey) = true := by rw [a]; exact Bool.false_ne_true
    rw [if_neg a']
    exact congrArg some e

theorem ObjM.look {h : Heap} {x dx C : Addr} {mA : Str → Option Value} (I : ObjM h x dx C mA) : ∃ od, PySem.W.InstAt h x (PySem.W.instObj C dx) C (some od) ∧ ∀ name, PySem.W.lookIn name od = some (mA name) :=
  let ⟨od, ho, hl⟩ := lookIn_ns I.ns
  ⟨od, ⟨I.obj, rfl, rfl, ho⟩, hl⟩

section
variable {prog : Program} {w : World} {A : Around} {E : Value → Shared → Prop} {s : Shared} {K : PySem.W.Frag} {x dx C f : Addr} {mA : Str → Option Value} {name : Str} {v : Value}

theorem get_map {expr : Bool} {Q : Value → Shared → Prop} (X : K.In s.heap) (I : ObjM s.heap x dx C mA) (hg : PySem.W.plainGet K C name = true) (hh : PySem.W.hasDictIn K C = true)
    (ha : PySem.W.findIn K (.ref C) name = some none) (hv : mA name = some v) (hv' : PySem.W.handedIn v = true) (h : Q v { s with toks := s.toks + 1 }) :
    wpAny (model prog w) A (getAttr (.ref x) name expr) Q E s := by
  obtain ⟨od, J, hl⟩ := I.look
  exact PySem.W.get_value X J (PySem.W.plainGet_of hg).1 (PySem.W.findObj_own hh ha rfl (by rw [hl, hv])) hv' h

theorem get_meth {pl : Sem Bool} {Q : Value × List Value → Shared → Prop} (X : K.In s.heap) (I : ObjM s.heap x dx C mA) (hg : PySem.W.plainGet K C name = true)
    (hf : PySem.W.findIn K (.ref C) name = some (some (.ref f))) (ht : PySem.W.isFn K (.ref f) = true) (hv : mA name = none) (h : Q (.ref f, [.ref x]) s) :
    wpAny (model prog w) A (getMethod (.ref x) name pl) Q E s := by
  obtain ⟨od, J, hl⟩ := I.look
  exact PySem.W.method_fn X J (PySem.W.plainGet_of hg).1 (PySem.W.plainGet_of hg).2 hf (beq_iff_eq.mp ht) (by show (PySem.W.lookIn name od).map (·.isSome) = some false; rw [hl, hv]; rfl) h

theorem set_map {ns : List Str} {Q : Unit → Shared → Prop} (X : K.In s.heap) (I : ObjM s.heap x dx C mA)
    (hs : PySem.W.findIn K (.ref C) "__setattr__" = some (some (.builtin "object.__setattr__"))) (hp : PySem.W.plainOver K C = true) (ht : PySem.W.takerIn K C name = some none) (hh : PySem.W.hasDictIn K C = true)
    (hw : PySem.Within mA ns) (hsz : ns.length ≤ sizeLine)
    (h : ∀ h', ObjM h' x dx C (fun y => if y = name then some v else mA y) → Heap.SameBut dx s.heap h' → Q () { s with heap := h', toks := s.toks + 2 }) :
    wpAny (model prog w) A (setAttr (.ref x) name v) Q E s := by
  obtain ⟨od, J, hl⟩ := I.look
  refine PySem.W.set_plain X J hs (PySem.W.osa_open (s := { s with toks := s.toks + 1 }) (r := none) X J hp ht fun b => ?_)
  obtain ⟨cd, hc, hd'⟩ := PySem.W.any_some hh
  have hx : s.heap.get? x = some ⟨.ref C, some dx, .plain, #[]⟩ := I.obj
  refine wpAny_bind (wpAny_pure (wpAny_bind (wpAny_bind (wpAny_loadPart hx (wpAny_bind (PySem.W.Looks.here (s := { s with toks := s.toks + 1 }) (PySem.W.looks_clsIn X hc) ?_))))))
  rw [hd']
  refine wpAny_pure (a := some dx) (wpAny_bind (wpAny_pure (wpAny_bind ?_)))
  refine wpAny_nsSet1 (s := { s with toks := s.toks + 1 }) I.ns fun h' hn2 hs2 => ?_
  obtain ⟨oD, esD, epD, hoD, hdD, hcD⟩ := hn2.count (PySem.Within.cons name v hw)
  refine wpAny_bind (wpAny_lookBehind hoD (by rw [hdD]; exact pastItsLine_dict (Nat.le_trans hcD (by rw [List.length_cons]; omega))) ?_)
  exact wpAny_pure (h _ ⟨(hs2.2 _ (Ne.symm I.ne)).trans I.obj, hn2, I.ne⟩ hs2)

theorem make_map {R : Result → Shared → Prop} {vs : List Value} {kw : List (Str × Value)} (X : K.In s.heap) (hm : PySem.W.makesIn K C = true)
    (hi : PySem.W.findIn K (.ref C) "__init__" = some (some (.ref f))) (hf : PySem.W.typeIn K (.ref f) = some (.type "function"))
    (h : codeAny (model prog w) (A.under (.builtin "type.__call__" ⟨.ref C :: vs, kw⟩)) (.call (.ref f) ⟨.ref (s.heap.objs.size + 1) :: vs, kw⟩) (PySem.W.InitBack (s.heap.objs.size + 1) R)
      { s with heap := (s.heap.push PySem.W.emptyDict).push (PySem.W.instObj C s.heap.objs.size) }) :
    codeAny (model prog w) A (.call (.ref C) ⟨vs, kw⟩) R s := by
  obtain ⟨hh, g, d, t, os⟩ := s
  exact PySem.W.make_core (PySem.W.makes_of X hm) (PySem.W.looks_findIn X hi) (fun self => PySem.W.bind_fn X self hf) (.inl rfl) h
end

def putF (f : Str) (v : V) : List (Str × V) → List (Str × V)
  | [] => [(f, v)]
  | (g, x) :: r => if g = f then (g, v) :: r else (g, x) :: putF f v r
theorem lookup_putF (f g : Str) (v : V) : ∀ fs : List (Str × V), (putF f v fs).lookup g = if g = f then some v else fs.lookup g
  | [] => by
    show List.lookup g [(f, v)] = _
    by_cases h : g = f
    · have hb : (g == f) = true := beq_iff_eq.mpr h
      simp only [List.lookup, hb, if_pos h]
    · have hb : (g == f) = false := beq_eq_false_iff_ne.mpr h
      simp only [List.lookup, hb, if_neg h]
  | (k, x) :: r => by
    have ih := lookup_putF f g v r
    rw [show putF f v ((k, x) :: r) = (if k = f then (k, v) :: r else (k, x) :: putF f v r) from rfl]
    by_cases hk : k = f
    · rw [if_pos hk]
      by_cases h : g = k
      · have hb : (g == k) = true := beq_iff_eq.mpr h
        simp only [List.lookup, hb, if_pos (h.trans hk)]
      · have hb : (g == k) = false := beq_eq_false_iff_ne.mpr h
        simp only [List.lookup, hb, if_neg (fun e : g = f => h (e.trans hk.symm))]
    · rw [if_neg hk]
      by_cases h : g = k
      · have hb : (g == k) = true := beq_iff_eq.mpr h
        simp only [List.lookup, hb, if_neg (fun e : g = f => hk (h.symm.trans e))]
      · have hb : (g == k) = false := beq_eq_false_iff_ne.mpr h
        simp only [List.lookup, hb]
        exact ih
theorem keys_putF (f : Str) (v : V) : ∀ fs : List (Str × V), f ∈ (putF f v fs).map (·.1) ∧ ∀ g, g ∈ fs.map (·.1) → g ∈ (putF f v fs).map (·.1)
  | [] => ⟨by simp [putF], fun g h => by simp at h⟩
  | (k, x) :: r => by
    obtain ⟨i1, i2⟩ := keys_putF f v r
    rw [show putF f v ((k, x) :: r) = (if k = f then (k, v) :: r else (k, x) :: putF f v r) from rfl]
    by_cases hk : k = f
    · rw [if_pos hk]
      subst hk
      exact ⟨by simp, fun g h => by simpa using h⟩
    · rw [if_neg hk]
      refine ⟨?_, fun g h => ?_⟩
      · rw [List.map_cons]
        exact List.mem_cons_of_mem _ i1
      · rw [List.map_cons] at h ⊢
        rcases List.mem_cons.mp h with e | e
        · exact List.mem_cons.mpr (.inl e)
        · exact List.mem_cons_of_mem _ (i2 g e)
theorem length_putF (f : Str) (v : V) : ∀ fs : List (Str × V), (putF f v fs).length ≤ fs.length + 1
  | [] => by simp [putF]
  | (k, x) :: r => by
    have ih := length_putF f v r
    rw [show putF f v ((k, x) :: r) = (if k = f then (k, v) :: r else (k, x) :: putF f v r) from rfl]
    by_cases hk : k = f
    · rw [if_pos hk, List.length_cons, List.length_cons]; omega
    · rw [if_neg hk, List.length_cons, List.length_cons]; omega

theorem RelO.some_of {v : V} {o : Option Value} (r : RelO (some v) o) : ∃ u, o = some u ∧ RelV v u := by
  cases o with
  | none => exact (show False from r).elim
  | some u => exact ⟨u, rfl, r⟩
theorem RelO.none_of {o : Option Value} (r : RelO none o) : o = none := by
  cases o with
  | none => rfl
  | some u => exact (show False from r).elim
theorem handed_of {v : V} {u : Value} (r : RelV v u) : PySem.W.handedIn u = true := by
  cases v with
  | non => cases (show u = Value.none from r); rfl
  | bl b => cases (show u = Value.bool b from r); rfl
  | int i => obtain ⟨t, e⟩ := (show ∃ t, u = Value.int i t from r); cases e; rfl
  | str x => obtain ⟨t, e⟩ := (show ∃ t, u = Value.str x t from r); cases e; rfl
  | byt b => obtain ⟨t, e⟩ := (show ∃ t, u = Value.bytes b t from r); cases e; rfl
  | flt b => obtain ⟨t, e⟩ := (show ∃ t, u = Value.float b t from r); cases e; rfl
  | ref a => cases (show u = Value.ref a from r); rfl
  | ty n => cases (show u = Value.type n from r); rfl

section
variable {P : Program} {w : World} {H H' : Hp} {h h' : Heap} {a C dx : Addr} {fs fs' : List (Str × V)}
theorem ins_get (hok : HOk P w H h) (e : H a = some (.ins C dx fs)) : ∃ mA, ObjM h a dx C mA ∧ (∀ f, RelO (fs.lookup f) (mA f)) ∧ PySem.Within mA (fs.map (·.1)) ∧ fs.length ≤ 1000 ∧ H dx = some (.own a) := by
  obtain ⟨d, z, ne, ob, mA, n, r, q⟩ := (show ObjOk P w H h a (.ins C dx fs) from hok a _ e)
  exact ⟨mA, ⟨ob, n, ne⟩, r, q, z, d⟩
end

structure Cls (K : PySem.W.Frag) (C : Addr) : Prop where
  pg : PySem.W.plainGet K C Str.empty = true
  hd : PySem.W.hasDictIn K C = true
  po : PySem.W.plainOver K C = true
  sa : PySem.W.findIn K (.ref C) "__setattr__" = some (some (.builtin "object.__setattr__"))
theorem Cls.get {K : PySem.W.Frag} {C : Addr} (c : Cls K C) (f : Str) : PySem.W.plainGet K C f = true := c.pg
def NoAttr (K : PySem.W.Frag) (C : Addr) (f : Str) : Prop := PySem.W.findIn K (.ref C) f = some none
theorem NoAttr.taker {K : PySem.W.Frag} {C : Addr} {f : Str} (n : NoAttr K C f) : PySem.W.takerIn K C f = some none := by
  unfold PySem.W.takerIn
  rw [show PySem.W.findIn K (.ref C) f = some none from n]
  rfl
structure Meth (K : PySem.W.Frag) (C : Addr) (m : Str) (f : Addr) : Prop where
  at_ : PySem.W.findIn K (.ref C) m = some (some (.ref f))
  fn : PySem.W.isFn K (.ref f) = true
  kp : PySem.W.keepIn K (.ref f) = true

section
variable {X : Cx} {pins : List (Addr × Obj)} {σ : St} {H : Hp} {s : Shared} {a C dx : Addr} {fs : List (Str × V)} {f : Str} {v : V} {A : Around} {E : Value → Shared → Prop}

theorem getattr_ok {b : Bool} {Q : Value → Shared → Prop} (I : Inv X pins σ H s) (e : H a = some (.ins C dx fs)) (c : Cls X.K C) (n : NoAttr X.K C f) (l : fs.lookup f = some v)
    (h : ∀ u s', Inv X pins σ H s' → RelV v u → Q u s') : wpAny (model X.prog X.w) A (getAttr (.ref a) f b) Q E s := by
  obtain ⟨mA, O, r, _, _, _⟩ := ins_get I.hok e
  obtain ⟨u, hu, ru⟩ := RelO.some_of (v := v) (o := mA f) (by rw [← l]; exact r f)
  exact get_map I.kIn O (c.get f) c.hd n hu (handed_of ru) (h u _ (I.tok _) ru)

theorem getmeth_ok {m : Str} {g : Addr} {pl : Sem Bool} {Q : Value × List Value → Shared → Prop} (I : Inv X pins σ H s) (e : H a = some (.ins C dx fs)) (c : Cls X.K C) (k : Meth X.K C m g) (l : fs.lookup m = none)
    (h : Q (.ref g, [.ref a]) s) : wpAny (model X.prog X.w) A (getMethod (.ref a) m pl) Q E s := by
  obtain ⟨mA, O, r, _, _, _⟩ := ins_get I.hok e
  have hn : mA m = none := RelO.none_of (by rw [← l]; exact r m)
  exact get_meth I.kIn O (c.get m) k.at_ k.fn hn h

theorem setattr_ok {y : V} {u : Value} {Q : Unit → Shared → Prop} (I : Inv X pins σ H s) (e : H a = some (.ins C dx fs)) (c : Cls X.K C) (n : NoAttr X.K C f) (hl : fs.length < 1000) (ry : RelV y u)
    (h : ∀ s', Inv X pins σ (upd H a (.ins C dx (putF f y fs))) s' → Q () s') : wpAny (model X.prog X.w) A (setAttr (.ref a) f u) Q E s := by
  obtain ⟨mA, O, r, wi, _, ho⟩ := ins_get I.hok e
  have hz : (fs.map (·.1)).length ≤ sizeLine := by rw [List.length_map, sizeLine_eq]; omega
  refine set_map I.kIn O c.sa c.po n.taker c.hd wi hz fun h' O' sb => h _ ?_
  have hd : ∃ o, h'.get? dx = some o := let ⟨o, _, _, e', _⟩ := O'.ns; ⟨o, e'⟩
  refine I.write (x := a) (e := dx) (by rw [e]; exact True.intro) (.inr ho) (fun b q hb z => (sb.2 b hb).trans z) hd ?_
  refine ⟨by rw [upd_ne O.ne]; exact ho, ?_, O.ne, O'.obj, _, O'.ns, fun g => ?_, fun g hg => ?_⟩
  · have := length_putF f y fs; omega
  · show RelO ((putF f y fs).lookup g) (if g = f then some u else mA g)
    rw [lookup_putF]
    by_cases q : g = f
    · rw [if_pos q, if_pos q]; exact ry
    · rw [if_neg q, if_neg q]; exact r g
  · by_cases q : g = f
    · rw [q]; exact (keys_putF f y fs).1
    · refine (keys_putF f y fs).2 g (wi g fun z => hg ?_)
      show (if g = f then some u else mA g) = none
      rw [if_neg q]; exact z

theorem Inv.made (I : Inv X pins σ H s) : Inv X pins σ (upd (upd H s.heap.objs.size (.own (s.heap.objs.size + 1))) (s.heap.objs.size + 1) (.ins C s.heap.objs.size []))
    { s with heap := (s.heap.push PySem.W.emptyDict).push (PySem.W.instObj C s.heap.objs.size) } := by
  have e1 : (s.heap.push PySem.W.emptyDict).get? s.heap.objs.size = some PySem.W.emptyDict := Heap.get?_push_size s.heap rfl
  have e2 : ((s.heap.push PySem.W.emptyDict).push (PySem.W.instObj C s.heap.objs.size)).get? (s.heap.objs.size + 1) = some (PySem.W.instObj C s.heap.objs.size) := by
    have := Heap.get?_push_size (s.heap.push PySem.W.emptyDict) (o := PySem.W.instObj C s.heap.objs.size) rfl
    rwa [Heap.size_push] at this
  have e3 : (s.heap.push PySem.W.emptyDict).Ns s.heap.objs.size (fun _ => none) := ⟨PySem.W.emptyDict, #[], _, e1, rfl, (fun e he => absurd he (by simp)), fun _ => rfl⟩
  have I1 := I.laid (a := s.heap.objs.size) (o := .own (s.heap.objs.size + 1)) (h' := s.heap.push PySem.W.emptyDict) (t' := s.toks) (fun b u q => Heap.get?_push_of_some _ q) (Nat.le_refl _) ⟨_, e1⟩
  refine I1.laid (a := s.heap.objs.size + 1) (o := .ins C s.heap.objs.size []) (t' := s.toks) (fun b u q => Heap.get?_push_of_some _ q) (Nat.le_of_eq (Heap.size_push _ _)) ?_
  have ne : s.heap.objs.size ≠ s.heap.objs.size + 1 := Nat.ne_of_lt (Nat.lt_succ_self _)
  refine ⟨by rw [upd_ne ne, upd_same], Nat.zero_le _, ne, e2, fun _ => none, (Heap.Ns1.of_empty e3).at fun o q => Heap.get?_push_of_some _ q, fun _ => True.intro, fun y hy => absurd rfl hy⟩

theorem attr_of {prog : Program} {w : World} {env : Env} {e : Expr} {f : Str} {pos : Pos} {s : Shared} {Q : Value → Shared → Prop} (hb : attributeBase e f env (eval e env) = eval e env)
    (h : wpAny (model prog w) A (eval e env) (fun o s₁ => wpAny (model prog w) A (getAttr o f true) Q E s₁) E s) : wpAny (model prog w) A (eval (.Attribute e f pos) env) Q E s :=
  Attribute_any_ h (by rw [arm_eval_Attribute, hb])
end

def tFld (K : PySem.W.Frag) (ta : TE) (f : Str) : TE := fun σ H Q => ta σ H fun x H1 => ∃ a C dx fs v, x = .ref a ∧ H1 a = some (.ins C dx fs) ∧ Cls K C ∧ NoAttr K C f ∧ fs.lookup f = some v ∧ Q v H1
def sFld (K : PySem.W.Frag) (ta tv : TE) (f : Str) : TS := fun D σ H => tv σ H fun y H1 => ta σ H1 fun x H2 => ∃ a C dx fs, x = .ref a ∧ H2 a = some (.ins C dx fs) ∧ Cls K C ∧ NoAttr K C f ∧ fs.length < 1000 ∧
  D.nx σ (upd H2 a (.ins C dx (putF f y fs)))
def InOp (X : Cx) (op : Operator) (rd : V → V → Hp → VK → Prop) : Prop :=
  ∀ (pins : List (Addr × Obj)) (s : Shared) (σ : St) (H : Hp) (x y : V) (u v : Value) (Q : VK), Inv X pins σ H s → RelV x u → RelV y v → rd x y H Q → wpAny (model X.prog X.w) X.A (inplaceOp op u v) (EP X pins σ Q) X.xe s
def sFldAug (K : PySem.W.Frag) (ta tv : TE) (rd : V → V → Hp → VK → Prop) (f : Str) : TS := fun D σ H => ta σ H fun x H1 => ∃ a C dx fs v, x = .ref a ∧ H1 a = some (.ins C dx fs) ∧ Cls K C ∧ NoAttr K C f ∧ fs.lookup f = some v ∧
  tv σ H1 fun y H2 => rd v y H2 fun z H3 => ∃ dx' fs', H3 a = some (.ins C dx' fs') ∧ fs'.length < 1000 ∧ D.nx σ (upd H3 a (.ins C dx' (putF f z fs')))

section
variable {X : Cx} {o e value : Expr} {f : Str} {pos pos' tpos : Pos} {ta tv : TE}
theorem pe_fld (he : PE X e ta) (hb : attributeBase e f X.env (eval e X.env) = eval e X.env) : PE X (.Attribute e f pos) (tFld X.K ta f) := by
  intro pins s σ H Q I h
  refine attr_of hb (thn (he pins s σ H _ I h) fun u s1 ⟨x, H1, I1, rx, a, C, dx, fs, v, ex, ea, c, n, l, q⟩ => ?_)
  subst ex
  obtain rfl : u = Value.ref a := rx
  exact getattr_ok I1 ea c n l fun u' s2 I2 ru => ⟨v, H1, I2, ru, q⟩
theorem ps_fld (ha : PE X o ta) (hv : PE X value tv) (hs : swapsWith value (some (.Attribute o f pos')) pos.line X.env = pure false) : PS X (.Assign [.Attribute o f pos'] value pos) (sFld X.K ta tv f) := by
  intro pins s σ H D I h
  refine plainObj_wpAny_Assign_Attribute (thn (hv pins s σ H _ I h) fun u s1 ⟨y, H1, I1, ry, q⟩ => thn (ha pins s1 σ H1 _ I1 q) fun ov s2 ⟨x, H2, I2, rx, a, C, dx, fs, ex, ea, c, n, l, q2⟩ => ?_) hs
  subst ex
  obtain rfl : ov = Value.ref a := rx
  exact setattr_ok I2 ea c n l ry fun s3 I3 => ⟨σ, _, I3, q2⟩
theorem ps_fldaug {op : Operator} {rd : V → V → Hp → VK → Prop} (ha : PE X o ta) (hv : PE X value tv) (hop : InOp X op rd) : PS X (.AugAssign (.Attribute o f tpos) op value pos) (sFldAug X.K ta tv rd f) := by
  intro pins s σ H D I h
  refine wpAny_AugAssign_AttributeAny (thn (ha pins s σ H _ I h) fun ov s1 ⟨x, H1, I1, rx, a, C, dx, fs, v, ex, ea, c, n, l, q⟩ => ?_)
  subst ex
  obtain rfl : ov = Value.ref a := rx
  refine getattr_ok I1 ea c n l fun u s2 I2 ru => thn (hv pins s2 σ H1 _ I2 q) fun w3 s3 ⟨y, H2, I3, ry, q3⟩ => thn (hop pins s3 σ H2 v y u w3 _ I3 ru ry q3) fun w4 s4 ⟨z, H3, I4, rz, dx', fs', ea', l', q4⟩ => ?_
  exact setattr_ok I4 ea' c n l' rz fun s5 I5 => ⟨σ, _, I5, q4⟩
def rAdd : V → V → Hp → VK → Prop := fun x y H Q => ∃ i j, x = .int i ∧ y = .int j ∧ Q (.int (i + j)) H
theorem in_add : InOp X .Add rAdd := by
  rintro pins s σ H x y u v Q I rx ry ⟨i, j, rfl, rfl, q⟩
  obtain ⟨t, rfl⟩ := (show ∃ t, u = Value.int i t from rx)
  obtain ⟨t', rfl⟩ := (show ∃ t', v = Value.int j t' from ry)
  exact PyProof.Rows.iadd_int ⟨.int (i + j), H, I.tok _, ⟨_, rfl⟩, q⟩
end

section
variable {X : Cx} {pins : List (Addr × Obj)} {σ : St} {H : Hp} {s : Shared} {A : Around} {E : Value → Shared → Prop} {Q : Value → Shared → Prop} {c : Value} {b : Bool}
end
end L2

namespace L2
open PySem PySem.Spec PyProof.Rows

structure Room (k : Nat) (A : Around) : Prop where
  hd : A.handled = none
  dp : A.depth + 3 * k + 5 < recursionLimit
  un : A.units + 16 * k + 200 < cLine
theorem Room.mono {j k : Nat} {A : Around} (r : Room k A) (h : j ≤ k) : Room j A := ⟨r.hd, by have := r.dp; omega, by have := r.un; omega⟩
theorem Room.deeper {k : Nat} {A : Around} (r : Room (k + 1) A) (env : Env) : Room k (A.deeper env) :=
  ⟨r.hd, by have := r.dp; show A.depth + 1 + 3 * k + 5 < _; omega, by have := r.un; show A.units + 3 + 16 * k + 200 < _; omega⟩
theorem make_depth {A : Around} {C : Addr} {us : List Value} {kw : List (Str × Value)} : (A.under (.builtin "type.__call__" ⟨.ref C :: us, kw⟩)).depth = A.depth + 1 := by
  first | rfl | simp [Around.under, Code.weight, Code.isCreation, Code.isGuard, Code.isCaller, Code.frames, Code.isFrame, guardIds]
theorem make_units {A : Around} {C : Addr} {us : List Value} {kw : List (Str × Value)} : (A.under (.builtin "type.__call__" ⟨.ref C :: us, kw⟩)).units = A.units + 1 := by
  first | rfl | simp [Around.under, Code.cUnits, Code.frames, Code.isFrame]
theorem Room.make {k : Nat} {A : Around} (r : Room (k + 1) A) (C : Addr) (us : List Value) (kw : List (Str × Value)) : Room k (A.under (.builtin "type.__call__" ⟨.ref C :: us, kw⟩)) :=
  ⟨r.hd, by have := r.dp; rw [make_depth]; omega, by have := r.un; rw [make_units]; omega⟩
theorem Room.depth {k : Nat} {A : Around} (r : Room k A) : A.depth < recursionLimit := by have := r.dp; omega
theorem Room.units {k : Nat} {A : Around} (r : Room k A) : A.units + 64 < cLine := by have := r.un; omega
def tNil : TA := fun _ H Q => Q [] H
def tCons (ta : TE) (tr : TA) : TA := fun σ H Q => ta σ H fun x H1 => tr σ H1 fun xs H2 => Q (x :: xs) H2
section
variable {X : Cx} {e : Expr} {es : List Expr} {te : TE} {t : TA} {pos : Pos}
theorem pa_nil : PA X [] tNil := fun _ _ _ _ H Q I h => Calls.spliced_nil ⟨[], H, I, .nil, h⟩
theorem pa_cons (ha : PE X e te) (hr : PA X es t) (hs : starEach (e :: es) X.env = (false, eval e X.env) :: starEach es X.env := by rfl) : PA X (e :: es) (tCons te t) := by
  intro pos pins s σ H Q I h
  rw [hs]
  show wpAny _ _ (spliced ((false, eval e X.env) :: backTo pos (starEach es X.env))) _ _ s
  refine Calls.spliced_cons (thn (ha pins s σ H _ I h) fun u s1 ⟨x, H1, I1, r1, q1⟩ => ?_)
  exact thn (hr pos pins s1 σ H1 _ I1 q1) fun us s2 ⟨xs, H2, I2, r2, q2⟩ => ⟨x :: xs, H2, I2, .cons r1 r2, q2⟩

def tTup (t : TA) : TE := fun σ H Q => t σ H fun xs H1 => xs.length ≤ sizeLine ∧ ∀ p, H1 p = none → Q (.ref p) (upd H1 p (.tup xs))
def tLst (t : TA) : TE := fun σ H Q => t σ H fun xs H1 => xs.length ≤ sizeLine ∧ ∀ p, H1 p = none → Q (.ref p) (upd H1 p (.lst xs))
theorem pe_tup {x1} (h : PA X es t) : PE X (.Tuple es x1 pos) (tTup t) := by
  intro pins s σ H Q I hq
  refine wpAny_Tuple_spliced (thn (h pos pins s σ H _ I hq) fun us s1 ⟨xs, H1, I1, r, z, q⟩ => ⟨by rw [← r.length]; exact z, ?_⟩)
  have hf : H1 s1.heap.objs.size = none := I1.hok.fresh (Nat.le_refl _)
  refine ⟨.ref s1.heap.objs.size, upd H1 s1.heap.objs.size (.tup xs), I1.laid (t' := s1.toks) (fun b u e => Heap.get?_push_of_some _ e) (Nat.le_refl _) ?_, rfl, q _ hf⟩
  exact ⟨z, us, r, ⟨_, Heap.get?_push_size _ rfl, rfl, _, rfl⟩⟩
theorem pe_lst (h : PA X es t) : PE X (.List es pos) (tLst t) := by
  intro pins s σ H Q I hq
  refine wpAny_List_spliced (thn (h pos pins s σ H _ I hq) fun us s1 ⟨xs, H1, I1, r, z, q⟩ => ⟨by rw [← r.length]; exact z, ?_⟩)
  have hf : H1 s1.heap.objs.size = none := I1.hok.fresh (Nat.le_refl _)
  refine ⟨.ref s1.heap.objs.size, upd H1 s1.heap.objs.size (.lst xs), I1.laid (t' := s1.toks) (fun b u e => Heap.get?_push_of_some _ e) (Nat.le_refl _) ?_, rfl, q _ hf⟩
  exact ⟨z, us, 0, r, Heap.get?_push_size _ rfl⟩
end

abbrev Sp := List V → Hp → VK → XK → Prop
abbrev CXT := List Env → Hp → Shared → XK → Value → Shared → Prop

structure Env0 (P : Program) (w : World) (K : PySem.W.Frag) (mg : Str → Option Value) (base : Heap) (A : Around) (outer : List Env) (s : Shared) (H : Hp) : Prop where
  frames : A.frames = some outer
  mod : Mod K mg base
  bs : ∀ b o, base.get? b = some o → s.heap.get? b = some o ∧ H b = none
  bsz : base.objs.size ≤ s.heap.objs.size
  funs : s.heap.FunFrames base outer
  frf : ∀ b ∈ frs outer, H b = none
  hok : HOk P w H s.heap
  bare : AllBare s.gens
def CE (outer : List Env) (P : Program) (w : World) (H : Hp) (s : Shared) (Q : VK) (u : Value) (s' : Shared) : Prop :=
  ∃ v H', s'.os = s.os ∧ AllBare s'.gens ∧ Un (frs outer) [] H H' s.heap s'.heap ∧ HOk P w H' s'.heap ∧ RelV v u ∧ Q v H'
def CR (CX : CXT) (outer : List Env) (P : Program) (w : World) (H : Hp) (s : Shared) (Q : VK) (E : XK) (r : Result) (s' : Shared) : Prop :=
  match r with
  | .ok (.ret u) => CE outer P w H s Q u s'
  | .ok _ => False
  | .error e => CX outer H s E e s'
structure FnOk (P : Program) (w : World) (K : PySem.W.Frag) (mg : Str → Option Value) (base : Heap) (CX : CXT) (k : Nat) (f : Addr) (fd : FuncData) (ps : List Str) (sp : Sp) : Prop where
  len : ∀ vs H Q E, sp vs H Q E → vs.length = ps.length
  run : ∀ (A : Around) (outer : List Env) (s : Shared) (H : Hp) (args : Args) (us : List Value) (vs : List V) (Q : VK) (E : XK), Room k A → Env0 P w K mg base A outer s H → BindsTo s fd args (ps.zip us) → Vals vs us → sp vs H Q E →
    codeAny (model P w) A (.call (.ref f) args) (CR CX outer P w H s Q E) s
theorem FnOk.mono {P : Program} {w : World} {K : PySem.W.Frag} {mg : Str → Option Value} {base : Heap} {CX : CXT} {j k : Nat} {f : Addr} {fd : FuncData} {ps : List Str} {sp : Sp} (F : FnOk P w K mg base CX j f fd ps sp) (h : j ≤ k) :
    FnOk P w K mg base CX k f fd ps sp := ⟨F.len, fun A outer s H args us vs Q E hr => F.run A outer s H args us vs Q E (hr.mono h)⟩
theorem Env0.make {P : Program} {w : World} {K : PySem.W.Frag} {mg : Str → Option Value} {base : Heap} {A : Around} {outer : List Env} {s : Shared} {H : Hp} (e : Env0 P w K mg base A outer s H) (C : Addr) (us : List Value) (kw : List (Str × Value)) :
    Env0 P w K mg base (A.under (.builtin "type.__call__" ⟨.ref C :: us, kw⟩)) outer s H := ⟨by first | exact e.frames | (simpa [Around.under, Code.envs, Code.isFrame, pushEnvs] using e.frames), e.mod, e.bs, e.bsz, e.funs, e.frf, e.hok, e.bare⟩
section
variable {X : Cx} {pins : List (Addr × Obj)} {σ : St} {H : Hp} {s s' : Shared}
theorem Inv.env0 (I : Inv X pins σ H s) : Env0 X.prog X.w X.K X.mg X.base X.A X.stack s H :=
  ⟨I.ok.frames, I.ok.mod, I.bs, Nat.le_trans I.ok.bsz I.sz, I.stack, I.stkFree, I.hok, I.bare⟩
theorem Inv.after {Q : VK} {u : Value} (I : Inv X pins σ H s) (h : CE X.stack X.prog X.w H s Q u s') : EP X pins σ Q u s' := by
  obtain ⟨v, H', os, bare, un, hok, r, q⟩ := h
  obtain ⟨hh, g, d, t, os'⟩ := s'
  obtain rfl : os' = s.os := os
  exact ⟨v, H', I.call (h' := hh) (g' := g) (d' := d) (t' := t) (ch := []) un hok bare (fun b z => absurd z (by simp)), r, q⟩
end

def tCall (sp : Sp) (dvs : List V) (E : XK) (t : TA) : TE := fun σ H Q => t σ H fun vs H1 => sp (vs ++ dvs) H1 Q E
def tMeth (C : Addr) (m : Str) (sp : Sp) (dvs : List V) (E : XK) (ta : TE) (t : TA) : TE := fun σ H Q => ta σ H fun x H1 => ∃ a dx fs, x = .ref a ∧ H1 a = some (.ins C dx fs) ∧ fs.lookup m = none ∧
  t σ H1 fun vs H2 => sp (x :: (vs ++ dvs)) H2 Q E
def tMake (C : Addr) (sp : Sp) (dvs : List V) (E : XK) (t : TA) : TE := fun σ H Q => t σ H fun vs H1 => ∀ x dx, H1 x = none → H1 dx = none → dx ≠ x →
  sp (.ref x :: (vs ++ dvs)) (upd (upd H1 dx (.own x)) x (.ins C dx [])) (fun v H2 => v = .non ∧ Q (.ref x) H2) E

def Binds (K : PySem.W.Frag) (fd : FuncData) (ps : List Str) (ds : List Value) : Prop :=
  ∀ (s : Shared) (us : List Value), K.In s.heap → (us ++ ds).length = ps.length → BindsTo s fd ⟨us, []⟩ (ps.zip (us ++ ds))
theorem Binds.all {K : PySem.W.Frag} {fd : FuncData} {ps : List Str} (h : ∀ us : List Value, us.length = ps.length → bindArgs fd ⟨us, []⟩ = pure (ps.zip us)) : Binds K fd ps [] := fun s us _ hl => by
  rw [List.append_nil] at hl ⊢
  exact .of_eq (h us hl)

def Passes (CX : CXT) (X : Cx) (E : XK) : Prop := ∀ (pins : List (Addr × Obj)) (σ : St) (H : Hp) (s : Shared) (e : Value) (s' : Shared), Inv X pins σ H s → CX X.stack H s E e s' → X.xe e s'

section
variable {X : Cx} {CX : CXT} {k : Nat} {f C : Addr} {fd : FuncData} {ps : List Str} {sp : Sp} {dvs : List V} {ds : List Value} {E : XK} {x m : Str} {p pos apos : Pos} {e o : Expr} {es : List Expr} {ta : TE} {t : TA}

theorem run_fn {pins : List (Addr × Obj)} {σ : St} {H : Hp} {s : Shared} {Q : VK} {us : List Value} {vs : List V} (F : FnOk X.prog X.w X.K X.mg X.base CX k f fd ps sp) (hr : Room k X.A) (hb : Binds X.K fd ps ds) (hd : Vals dvs ds) (hx : Passes CX X E)
    (I : Inv X pins σ H s) (r : Vals vs us) (h : sp (vs ++ dvs) H Q E) : wpAny (model X.prog X.w) X.A (call (.ref f) us) (EP X pins σ Q) X.xe s := by
  have r2 : Vals (vs ++ dvs) (us ++ ds) := r.append hd
  have hl : (us ++ ds).length = ps.length := by rw [← r2.length]; exact F.len _ _ _ _ h
  refine wpAny_call (codeAny_mono (F.run X.A X.stack s H ⟨us, []⟩ (us ++ ds) (vs ++ dvs) Q E hr I.env0 (hb s us I.kIn hl) r2 h) fun r s' hq => ?_)
  cases r with
  | error e => exact hx pins σ H s e s' I hq
  | ok fl =>
    cases fl with
    | ret u => exact I.after hq
    | next => exact False.elim hq
    | brk => exact False.elim hq
    | cont => exact False.elim hq

theorem pe_call (F : FnOk X.prog X.w X.K X.mg X.base CX k f fd ps sp) (hr : Room k X.A) (hg : Gl X x) (hm : X.mg x = some (.ref f)) (hk : PySem.W.keepIn X.K (.ref f) = true) (hb : Binds X.K fd ps ds) (hd : Vals dvs ds) (hx : Passes CX X E)
    (ha : PA X (e :: es) t) (hdb : (x == ("__debug__" : Str)) = false := by decide) (he : starEach (e :: es) X.env = (false, eval e X.env) :: starEach es X.env := by rfl) (hpl : (backTo pos (starEach es X.env)).any (·.1) = false := by rfl) :
    PE X (.Call (.Name x p) (e :: es) [] pos) (tCall sp dvs E t) := by
  intro pins s σ H Q I h
  refine wpAny_Call_Name_kw (ld_glob I hg hm ?_ hdb)
  refine PySem.W.callWith_K (h₀ := X.base) I.ok.mod.kin hk (thn (ha pos pins s σ H _ I h) fun us s1 ⟨vs, H1, I1, r, q⟩ => ⟨I1.kIn, ?_⟩) he hpl
  exact run_fn F hr hb hd hx I1 r q
theorem pe_meth {pl : Sem Bool} (he : PE X o ta) (c : Cls X.K C) (hm : Meth X.K C m f) (F : FnOk X.prog X.w X.K X.mg X.base CX k f fd ps sp) (hr : Room k X.A) (hb : Binds X.K fd ps ds) (hd : Vals dvs ds) (hx : Passes CX X E) (ha : PA X (e :: es) t)
    (hst : starEach (e :: es) X.env = (false, eval e X.env) :: starEach es X.env := by rfl) (hpl : (backTo pos (starEach es X.env)).any (·.1) = false := by rfl)
    (ht : eval (.Call (.Attribute o m apos) (e :: es) [] pos) X.env = (do
      let ov ← eval o X.env
      standAt apos.atName
      let (f, first) ← holding [ov] (getMethod ov m pl)
      callWith pos f first (backTo pos (starEach (e :: es) X.env)) (backToKw pos (keywordEach [] X.env))) := by rfl) :
    PE X (.Call (.Attribute o m apos) (e :: es) [] pos) (tMeth C m sp dvs E ta t) := by
  intro pins s σ H Q I h
  refine PySem.W.methodCall_KW (pl := pl) (thn (he pins s σ H _ I h) fun u s1 ⟨x, H1, I1, rx, a, dx, fs, ex, ea, l, q⟩ => ?_) ht
  subst ex
  obtain rfl : u = Value.ref a := rx
  refine getmeth_ok I1 ea c hm l ?_
  refine PySem.W.callWith_K (first := [.ref a]) (h₀ := X.base) I.ok.mod.kin hm.kp (thn (ha pos pins s1 σ H1 _ I1 q) fun us s2 ⟨vs, H2, I2, r, q2⟩ => ⟨I2.kIn, ?_⟩) hst hpl
  exact run_fn (us := .ref a :: us) (vs := .ref a :: vs) F hr hb hd hx I2 (.cons rfl r) q2
theorem pe_meth0 {pl : Sem Bool} (he : PE X o ta) (c : Cls X.K C) (hm : Meth X.K C m f) (F : FnOk X.prog X.w X.K X.mg X.base CX k f fd ps sp) (hr : Room k X.A) (hb : Binds X.K fd ps ds) (hd : Vals dvs ds) (hx : Passes CX X E)
    (ht : eval (.Call (.Attribute o m apos) [] [] pos) X.env = (do
      let ov ← eval o X.env
      standAt apos.atName
      let (f, first) ← holding [ov] (getMethod ov m pl)
      callWith pos f first (backTo pos (starEach [] X.env)) (backToKw pos (keywordEach [] X.env))) := by rfl) :
    PE X (.Call (.Attribute o m apos) [] [] pos) (tMeth C m sp dvs E ta tNil) := by
  intro pins s σ H Q I h
  refine PySem.W.methodCall_KW (pl := pl) (thn (he pins s σ H _ I h) fun u s1 ⟨x, H1, I1, rx, a, dx, fs, ex, ea, l, q⟩ => ?_) ht
  subst ex
  obtain rfl : u = Value.ref a := rx
  refine getmeth_ok I1 ea c hm l ?_
  exact PySem.W.callWith_K0 (first := [.ref a]) I1.kIn hm.kp (run_fn (us := [.ref a]) (vs := [.ref a]) F hr hb hd hx I1 (.cons rfl .nil) q)

structure Mk (K : PySem.W.Frag) (C f : Addr) : Prop where
  makes : PySem.W.makesIn K C = true
  init : PySem.W.findIn K (.ref C) "__init__" = some (some (.ref f))
  fn : PySem.W.isFn K (.ref f) = true
  kp : PySem.W.keepIn K (.ref C) = true

theorem run_make {pins : List (Addr × Obj)} {σ : St} {H : Hp} {s : Shared} {Q : VK} {us : List Value} {vs : List V} (M : Mk X.K C f) (F : FnOk X.prog X.w X.K X.mg X.base CX k f fd ps sp) (hr : Room (k + 1) X.A) (hb : Binds X.K fd ps ds) (hd : Vals dvs ds)
    (hx : Passes CX X E) (I : Inv X pins σ H s) (r : Vals vs us)
    (h : ∀ x dx, H x = none → H dx = none → dx ≠ x → sp (.ref x :: (vs ++ dvs)) (upd (upd H dx (.own x)) x (.ins C dx [])) (fun v H2 => v = .non ∧ Q (.ref x) H2) E) :
    wpAny (model X.prog X.w) X.A (call (.ref C) us) (EP X pins σ Q) X.xe s := by
  have hq := h (s.heap.objs.size + 1) s.heap.objs.size (I.hok.fresh (Nat.le_succ _)) (I.hok.fresh (Nat.le_refl _)) (Nat.ne_of_lt (Nat.lt_succ_self _))
  have I2 := Inv.made (C := C) I
  have r2 : Vals (V.ref (s.heap.objs.size + 1) :: (vs ++ dvs)) (Value.ref (s.heap.objs.size + 1) :: (us ++ ds)) := .cons rfl (r.append hd)
  have hl : (Value.ref (s.heap.objs.size + 1) :: us ++ ds).length = ps.length := by
    have e := r2.length
    rw [F.len _ _ _ _ hq] at e
    exact e.symm
  refine wpAny_call (make_map (f := f) I.kIn M.makes M.init (beq_iff_eq.mp M.fn) (codeAny_mono (F.run _ X.stack _ _ ⟨Value.ref (s.heap.objs.size + 1) :: us, []⟩ (Value.ref (s.heap.objs.size + 1) :: (us ++ ds)) _ _ E (hr.make C us [])
    (I2.env0.make C us []) (hb _ (Value.ref (s.heap.objs.size + 1) :: us) I2.kIn hl) r2 hq) fun r s' hq' => ?_))
  cases r with
  | error e => exact hx pins σ _ _ e s' I2 hq'
  | ok fl =>
    cases fl with
    | ret u =>
      obtain ⟨v, H', I3, rv, ev, q3⟩ := I2.after hq'
      subst ev
      exact ⟨rv, ⟨V.ref (s.heap.objs.size + 1), H', I3, rfl, q3⟩⟩
    | next => exact False.elim hq'
    | brk => exact False.elim hq'
    | cont => exact False.elim hq'
theorem pe_make (M : Mk X.K C f) (F : FnOk X.prog X.w X.K X.mg X.base CX k f fd ps sp) (hr : Room (k + 1) X.A) (hg : Gl X x) (hm : X.mg x = some (.ref C)) (hb : Binds X.K fd ps ds) (hd : Vals dvs ds) (hx : Passes CX X E)
    (ha : PA X (e :: es) t) (hdb : (x == ("__debug__" : Str)) = false := by decide) (he : starEach (e :: es) X.env = (false, eval e X.env) :: starEach es X.env := by rfl) (hpl : (backTo pos (starEach es X.env)).any (·.1) = false := by rfl) :
    PE X (.Call (.Name x p) (e :: es) [] pos) (tMake C sp dvs E t) := by
  intro pins s σ H Q I h
  refine wpAny_Call_Name_kw (ld_glob I hg hm ?_ hdb)
  refine PySem.W.callWith_K (h₀ := X.base) I.ok.mod.kin M.kp (thn (ha pos pins s σ H _ I h) fun us s1 ⟨vs, H1, I1, r, q⟩ => ⟨I1.kIn, ?_⟩) he hpl
  exact run_make M F hr hb hd hx I1 r q
theorem pe_make0 (M : Mk X.K C f) (F : FnOk X.prog X.w X.K X.mg X.base CX k f fd ps sp) (hr : Room (k + 1) X.A) (hg : Gl X x) (hm : X.mg x = some (.ref C)) (hb : Binds X.K fd ps ds) (hd : Vals dvs ds) (hx : Passes CX X E)
    (hdb : (x == ("__debug__" : Str)) = false := by decide) : PE X (.Call (.Name x p) [] [] pos) (tMake C sp dvs E tNil) := by
  intro pins s σ H Q I h
  refine wpAny_Call_Name_kw (ld_glob I hg hm ?_ hdb)
  exact PySem.W.callWith_K0 I.kIn M.kp (run_make (us := []) M F hr hb hd hx I .nil h)
end

section
variable {X : Cx} {CX : CXT} {k : Nat} {f C : Addr} {fd : FuncData} {ps ks : List Str} {sp : Sp} {E : XK} {x m : Str} {p pos apos kpos : Pos} {e o : Expr} {es : List Expr} {kws : List Keyword} {te ta : TE} {t tk : TA} {nm : Option Str}
variable {g : List Value → List Value → List Value} {gV : List V → List V → List V}
end

structure FnScope (N P : List Str) (sc : Scope) : Prop where
  kind : sc.kind = .function
  co : sc.isCoroutine = false
  gen : sc.isGenerator = false
  nd : N.Nodup
  pre : N.take P.length = P
  par : ∀ x ∈ P, sc.names.lookup x = some .local ∨ sc.names.lookup x = some .cell
  nofree : ∀ y ∈ sc.names, y.2 ≠ .free

theorem bindL_out {kindOf : Str → Option NameKind} {x : Str} : ∀ {binds : List (Str × Value)} {m : Str → Option Value}, (∀ v, (x, v) ∉ binds) → bindL kindOf binds m x = m x
  | [], _, _ => rfl
  | (n, v) :: r, m, h => by
    unfold bindL
    rw [bindL_out fun w hw => h w (List.mem_cons_of_mem _ hw)]
    split
    · have : x ≠ n := by rintro rfl; exact h v List.mem_cons_self
      simp [this]
    · rfl
theorem bindC_out {kindOf : Str → Option NameKind} {x : Str} : ∀ {binds : List (Str × Value)} {m : Str → Option Value}, (∀ v, (x, v) ∉ binds) → bindC kindOf binds m x = m x
  | [], _, _ => rfl
  | (n, v) :: r, m, h => by
    unfold bindC
    rw [bindC_out fun w hw => h w (List.mem_cons_of_mem _ hw)]
    split
    · rfl
    · have : x ≠ n := by rintro rfl; exact h v List.mem_cons_self
      simp [this]
theorem bindL_get {kindOf : Str → Option NameKind} {x : Str} {v : Value} : ∀ {P : List Str} {vs : List Value} {i : Nat} {m : Str → Option Value}, P.Nodup → P[i]? = some x → vs[i]? = some v → kindOf x = some .local →
    bindL kindOf (P.zip vs) m x = some v
  | [], _, _, _, _, h, _, _ => by simp at h
  | _ :: _, [], _, _, _, _, h, _ => by simp at h
  | p :: P, w :: vs, 0, m, nd, h1, h2, hk => by
    simp at h1 h2; subst h1; subst h2
    show bindL kindOf ((p, w) :: P.zip vs) m p = _
    unfold bindL
    rw [bindL_out fun v hv => (List.nodup_cons.mp nd).1 (List.of_mem_zip hv).1, if_pos hk]
    simp
  | p :: P, w :: vs, i + 1, m, nd, h1, h2, hk => by
    show bindL kindOf ((p, w) :: P.zip vs) m x = _
    unfold bindL
    exact bindL_get (i := i) (List.nodup_cons.mp nd).2 (by simpa using h1) (by simpa using h2) hk
theorem bindC_get {kindOf : Str → Option NameKind} {x : Str} {v : Value} : ∀ {P : List Str} {vs : List Value} {i : Nat} {m : Str → Option Value}, P.Nodup → P[i]? = some x → vs[i]? = some v → kindOf x ≠ some .local →
    bindC kindOf (P.zip vs) m x = some v
  | [], _, _, _, _, h, _, _ => by simp at h
  | _ :: _, [], _, _, _, _, h, _ => by simp at h
  | p :: P, w :: vs, 0, m, nd, h1, h2, hk => by
    simp at h1 h2; subst h1; subst h2
    show bindC kindOf ((p, w) :: P.zip vs) m p = _
    unfold bindC
    rw [bindC_out fun v hv => (List.nodup_cons.mp nd).1 (List.of_mem_zip hv).1, if_neg hk]
    simp
  | p :: P, w :: vs, i + 1, m, nd, h1, h2, hk => by
    show bindC kindOf ((p, w) :: P.zip vs) m x = _
    unfold bindC
    exact bindC_get (i := i) (List.nodup_cons.mp nd).2 (by simpa using h1) (by simpa using h2) hk

def start (N : List Str) (vs : List V) : St := vs.map some ++ List.replicate (N.length - vs.length) none

def cxOf (CX : CXT) (P : Program) (w : World) (K : PySem.W.Frag) (mg : Str → Option Value) (base : Heap) (N : List Str) (qual : Str) (scope : Scope) (f : Addr) (cd : Value) (A : Around) (outer : List Env) (s : Shared) (H : Hp) (E : XK) : Cx where
  prog := P
  w := w
  K := K
  mg := mg
  base := base
  A := A.deeper (envOfC qual scope s.heap.objs.size f cd)
  N := N
  s_0 := s
  H_0 := H
  env := envOfC qual scope s.heap.objs.size f cd
  outer := outer
  stack := envOfC qual scope s.heap.objs.size f cd :: outer
  ex := []
  calm := true
  fn := fun _ => true
  pn := []
  xe := fun e s' => wpAny (model P w) (A.deeper (envOfC qual scope s.heap.objs.size f cd)) (leaving (envOfC qual scope s.heap.objs.size f cd) e) (fun _ s'' => CX outer H s E e s'') (fun e' s'' => CX outer H s E e' s'') s'

theorem cell_has {sc : Scope} {n : Nat} {x : Str} (h : sc.names.lookup x = some .cell) : ∃ c, (cellsFrom n sc.names []).lookup x = some c := by
  have q := PySem.W.cellsFrom_some sc.names n [] (.inl h)
  exact Option.isSome_iff_exists.mp q

theorem inv_start {CX : CXT} {P : Program} {w : World} {K : PySem.W.Frag} {mg : Str → Option Value} {base : Heap} {N ps : List Str} {qual : Str} {scope : Scope} {f : Addr} {cd : Value} {A : Around} {outer : List Env} {s s1 : Shared} {H : Hp} {E : XK} {us : List Value} {vs : List V}
    (S : FnScope N ps scope) (hd : A.handled = none) (e0 : Env0 P w K mg base A outer s H) (hl : vs.length = ps.length) (r : Vals vs us)
    (x : InCallC s s.heap.objs.size (bindL (envOfC qual scope s.heap.objs.size f cd).kindOf (ps.zip us) fun _ => none) (cellsFrom (s.heap.objs.size + 1) scope.names []) (bindC (envOfC qual scope s.heap.objs.size f cd).kindOf (ps.zip us) fun _ => none) s1) :
    Inv (cxOf CX P w K mg base N qual scope f cd A outer s H E) [] (start N vs) H s1 := by
  have hpl : ps.length ≤ N.length := by have := congrArg List.length S.pre; rw [List.length_take] at this; omega
  obtain ⟨h1, tk, rfl, hk⟩ := x.done
  have noA : ∀ b : Addr, b ∉ (cxOf CX P w K mg base N qual scope f cd A outer s H E).ex := fun b z => absurd (show b ∈ ([] : List Addr) from z) (by simp)
  refine ⟨⟨e0.mod, S.kind, rfl, rfl, Nat.le_refl _, fun y z c h1 h2 => ?_, fun y hy => ?_, fun y c _ h => ?_, fun _ => hd, Around.frames_deeper e0.frames, .inr ⟨rfl, rfl⟩, fun b z => absurd z (noA b), e0.bs, e0.bsz, fun b _ _ => noA b, fun b z => absurd z (noA b), e0.funs, e0.frf⟩,
    rfl, e0.bare, Un.kept hk, ⟨_, x.toInCall.ns, fun i y v h1 h2 h3 => ?_⟩, fun y c h => ⟨_, x.cell y c h⟩, e0.hok.fresh (Nat.le_refl _), fun y c h => ?_, fun p hp => absurd (show p ∈ ([] : List (Addr × Obj)) from hp) (by simp), e0.hok.kept hk, ?_⟩
  · exact name_of_addr x.apart (PySem.mem_of_lookup h1) (PySem.mem_of_lookup h2)
  · have hy : scope.names.lookup y = some .cell ∨ scope.names.lookup y = some .free := hy
    rcases hy with hy | hy
    · exact cell_has hy
    · exact absurd rfl (S.nofree _ (PySem.mem_of_lookup hy))
  · exact Nat.le_of_lt (x.above y c (PySem.mem_of_lookup h))
  · have hi : i < vs.length := by
      unfold start at h2
      by_cases hi : i < vs.length
      · exact hi
      · rw [List.getElem?_append_right (by simpa using hi)] at h2
        rw [List.getElem?_replicate] at h2
        split at h2 <;> cases h2
    have ha : vs[i]? = some v := by
      unfold start at h2
      rw [List.getElem?_append_left (by simpa using hi), List.getElem?_map] at h2
      cases e : vs[i]? with
      | none => rw [e] at h2; cases h2
      | some a => rw [e] at h2; cases h2; rfl
    obtain ⟨u, hu, rv⟩ := r.get ha
    have hp : ps[i]? = some y := by
      rw [← S.pre, List.getElem?_take_of_lt (by omega)]; exact h1
    have ndP : ps.Nodup := by rw [← S.pre]; exact S.nd.sublist (List.take_sublist _ _)
    refine ⟨u, rv, ?_⟩
    rcases S.par y (List.mem_of_getElem? hp) with k | k
    · exact .inl ⟨k, bindL_get ndP hp hu k⟩
    · obtain ⟨c, e⟩ := cell_has (n := s.heap.objs.size + 1) k
      refine .inr ⟨.inl k, c, e, ?_⟩
      have q := x.cell y c e
      rw [bindC_get ndP hp hu (by show scope.names.lookup y ≠ _; rw [k]; decide)] at q
      exact q
  · exact e0.hok.fresh (Nat.le_of_lt (x.above y c (PySem.mem_of_lookup h)))
  · unfold start
    show _ = N.length
    rw [List.length_append, List.length_map, List.length_replicate]
    omega

theorem fn_of {CX : CXT} {P : Program} {w : World} {K : PySem.W.Frag} {mg : Str → Option Value} {base : Heap} {k : Nat} {f : Addr} {name qual : Str} {params : Arguments} {body : List Stmt} {scope : Scope} {dV kV doc pm cdv ct oc : Value} {an od : Option Addr}
    {osl : Array (Option Value)} {N ps : List Str} {sp : Sp} (lk : K.lookup f = some ⟨oc, od, .func (PySem.W.fnOf name qual params body scope dV kV doc pm an cdv ct), osl⟩) (hcd : PySem.W.codeIn K cdv qual = true) (S : FnScope N ps scope)
    (len : ∀ vs H Q E, sp vs H Q E → vs.length = ps.length)
    (hbody : ∀ (A : Around) (outer : List Env) (s : Shared) (H : Hp) (vs : List V) (Q : VK) (E : XK), Room k (A.deeper (envOfC qual scope s.heap.objs.size f cdv)) → sp vs H Q E →
      ∃ t, PSs (cxOf CX P w K mg base N qual scope f cdv A outer s H E) body t ∧ t { nx := fun _ H' => Q .non H', rt := Q } (start N vs) H) :
    FnOk P w K mg base CX (k + 1) f (PySem.W.fnOf name qual params body scope dV kV doc pm an cdv ct) ps sp := by
  refine ⟨len, fun A outer s H args us vs Q E hr e0 hb r hsp => ?_⟩
  have hl := len _ _ _ _ hsp
  have KX : K.In s.heap := e0.mod.kin.keeps fun b o e => (e0.bs b o e).1
  have lim : s.heap.NoLimit := e0.mod.nolimit.keeps fun b o e => (e0.bs b o e).1
  have hkind : ∀ y ∈ ps.zip us, scope.names.lookup y.1 = some .local ∨ (scope.names.lookup y.1 = some .cell ∧ ((cellsFrom (s.heap.objs.size + 1) scope.names []).lookup y.1).isSome = true) := fun ⟨n, v⟩ hy => by
    rcases S.par n (List.of_mem_zip hy).1 with q | q
    · exact .inl q
    · exact .inr ⟨q, PySem.W.cellsFrom_some _ _ _ (.inl q)⟩
  refine codeAny_call_function hr.depth (KX _ _ lk) rfl S.co S.gen rfl (PySem.W.codeRec_of KX hcd) (hb _ _ _ _ ?_)
  refine wpAny_newFunctionEnv_cells S.kind hkind fun env he s1 x => ?_
  subst he
  refine ⟨lim.keeps x.toInCall.keep, codeAny_func ?_⟩
  obtain ⟨t, ht, hq⟩ := hbody A outer s H vs Q E (hr.deeper _) hsp
  have I : Inv (cxOf CX P w K mg base N qual scope f cdv A outer s H E) [] (start N vs) H s1 := inv_start S hr.hd e0 hl r x
  refine wpAny_mono (ht [] s1 (start N vs) H _ I hq) (fun fl s' hs => ?_) fun e s' hs => hs
  have fin : ∀ {σ' : St} {H' : Hp} {v : V} {u : Value}, Inv (cxOf CX P w K mg base N qual scope f cdv A outer s H E) [] σ' H' s' → RelV v u → Q v H' → CE outer P w H s Q u s' :=
    fun {σ' H' v u} J rv q => ⟨v, H', J.os, J.bare, J.base, J.hok, rv, q⟩
  cases fl with
  | ret u =>
    obtain ⟨v, σ', H', J, rv, q⟩ := hs
    exact fin J rv q
  | next =>
    obtain ⟨σ', H', J, q⟩ := hs
    exact fin (v := V.non) (u := Value.none) J rfl q
  | brk =>
    obtain ⟨_, _, _, q⟩ := hs
    exact False.elim q
  | cont =>
    obtain ⟨_, _, _, q⟩ := hs
    exact False.elim q
end L2

namespace L2
open PySem PySem.Spec PyProof.Rows
section
variable {X : Cx} {x : Str} {p pos : Pos} {e : Expr} {es : List Expr} {t : TA} {id T : String} {r : List V → Hp → VK → Prop}

def tCB (r : List V → Hp → VK → Prop) (t : TA) : TE := fun σ H Q => t σ H fun vs H1 => r vs H1 Q
theorem pe_callB (hc : CallR X (.builtin id) r) (hg : Gl X x) (hm : X.mg x = none) (hv : bootBuiltins x = some (.builtin id)) (ha : PA X (e :: es) t) (hn : x ≠ "__name__" := by decide) (hdb : (x == ("__debug__" : Str)) = false := by decide)
    (he : starEach (e :: es) X.env = (false, eval e X.env) :: starEach es X.env := by rfl) (hpl : (backTo pos (starEach es X.env)).any (·.1) = false := by rfl) : PE X (.Call (.Name x p) (e :: es) [] pos) (tCB r t) := by
  intro pins s σ H Q I h
  refine wpAny_Call_Name_kw (ld_blt I hg hm hv ?_ hn hdb)
  exact PyProof.Rows.callWith_builtin1 (thn (ha pos pins s σ H _ I h) fun us s1 ⟨vs, H1, I1, r1, q1⟩ => hc pins s1 σ H1 vs us Q I1 r1 q1) he hpl
theorem pe_callTy (hc : CallR X (.type T) r) (hg : Gl X x) (hm : X.mg x = none) (hv : bootBuiltins x = some (.type T)) (ha : PA X (e :: es) t) (hn : x ≠ "__name__" := by decide) (hdb : (x == ("__debug__" : Str)) = false := by decide)
    (he : starEach (e :: es) X.env = (false, eval e X.env) :: starEach es X.env := by rfl) (hpl : (backTo pos (starEach es X.env)).any (·.1) = false := by rfl) : PE X (.Call (.Name x p) (e :: es) [] pos) (tCB r t) := by
  intro pins s σ H Q I h
  refine wpAny_Call_Name_kw (ld_blt I hg hm hv ?_ hn hdb)
  exact PyProof.Rows.callWith_type1 (thn (ha pos pins s σ H _ I h) fun us s1 ⟨vs, H1, I1, r1, q1⟩ => hc pins s1 σ H1 vs us Q I1 r1 q1) he hpl
end
end L2

namespace HT
open PySem PyProof.Rows

section
open PySem.SeqAt
open PySem.AutoSeq1 (wpAny_loadPart')
open PySem.MeetsSeq PySem.MeetsSeq2 PySem.MeetsSeq3

end

section
variable {prog : Program} {w : World} {A : Around} {E : Value → Shared → Prop} {s : Shared}

end
end HT

namespace L2
open PySem PySem.Spec PyProof.Rows

abbrev TO := St → Hp → (Option Int → Hp → Prop) → Prop
section
variable {X : Cx} {e : Expr} {te : TE} {lo hi : Option Expr} {tl th : TO} {pos p2 : Pos}

end
end L2

namespace L2
open PySem PySem.Spec PyProof.Rows

def ixN (n : Nat) (i : Int) : Option Nat := if 0 ≤ i then (if i < n then some i.toNat else none) else if -(n : Int) ≤ i then some (i + n).toNat else none
def atI {α : Type} (xs : List α) (i : Int) : Option α := (ixN xs.length i).bind fun j => xs[j]?
theorem ixN_seq {n : Nat} {i : Int} {j : Nat} (h : ixN n i = some j) : seqIndex? i n = some j ∧ j < n ∧ -(n : Int) ≤ i ∧ i < n := by
  unfold ixN at h
  by_cases h0 : 0 ≤ i
  · rw [if_pos h0] at h
    by_cases h1 : i < n
    · rw [if_pos h1] at h
      have e : i.toNat = j := Option.some.inj h
      exact ⟨by rw [seqIndex_of h0 h1, e], by omega, by omega, h1⟩
    · rw [if_neg h1] at h; cases h
  · rw [if_neg h0] at h
    by_cases h1 : -(n : Int) ≤ i
    · rw [if_pos h1] at h
      have e : (i + n).toNat = j := Option.some.inj h
      exact ⟨by rw [seqIndex_neg (by omega) h1, e], by omega, h1, by omega⟩
    · rw [if_neg h1] at h; cases h
theorem atI_get {α : Type} {xs : List α} {i : Int} {v : α} (h : atI xs i = some v) : ∃ j, seqIndex? i xs.length = some j ∧ xs[j]? = some v ∧ j < xs.length ∧ -(xs.length : Int) ≤ i ∧ i < xs.length := by
  unfold atI at h
  cases e : ixN xs.length i with
  | none => rw [e] at h; cases h
  | some j =>
    rw [e] at h
    obtain ⟨h1, h2, h3, h4⟩ := ixN_seq e
    exact ⟨j, h1, h, h2, h3, h4⟩
theorem atI_nat {α : Type} {xs : List α} {j : Nat} {v : α} (h : xs[j]? = some v) : atI xs (j : Int) = some v := by
  have hj : j < xs.length := (List.getElem?_eq_some_iff.mp h).1
  have e : ixN xs.length (j : Int) = some j := by
    unfold ixN
    rw [if_pos (by omega), if_pos (by omega)]; simp
  unfold atI; rw [e]; exact h
theorem atI_last {α : Type} (xs : List α) (v : α) : atI (xs ++ [v]) (-1) = some v := by
  have hl : (xs ++ [v]).length = xs.length + 1 := by simp
  have e : ixN (xs ++ [v]).length (-1) = some xs.length := by
    unfold ixN
    rw [hl, if_neg (by decide), if_pos (by omega)]
    congr 1
    omega
  unfold atI
  rw [e]
  show (xs ++ [v])[xs.length]? = some v
  simp

def PlainIx (b : Expr) : Prop := ∀ o i, subscripted b false o i = operate [o, i] (getItem o i)
def IxR (X : Cx) (r : R2) : Prop :=
  ∀ (value slice : Expr) (pins : List (Addr × Obj)) (s : Shared) (σ : St) (H : Hp) (x y : V) (v u : Value) (Q : VK), Inv X pins σ H s → RelV x v → RelV y u → r x y H Q →
    subscripted slice false v u = operate [v, u] (getItem v u) → wpAny (model X.prog X.w) X.A (subscriptTail value slice v u) (EP X pins σ Q) X.xe s
def MtR (X : Cx) (id : String) (r : V → List V → Hp → VK → Prop) : Prop :=
  ∀ (pins : List (Addr × Obj)) (s : Shared) (σ : St) (H : Hp) (x : V) (xs : List V) (v : Value) (us : List Value) (Q : VK), Inv X pins σ H s → RelV x v → Vals xs us → r x xs H Q →
    wpAny (model X.prog X.w) X.A (call (.builtin id) (v :: us)) (EP X pins σ Q) X.xe s
section
variable {X : Cx} {a b : Expr} {ta tb : TE} {pos : Pos}
theorem pe_ix {r : R2} (hr : IxR X r) (ha : PE X a ta) (hb : PE X b tb) (hs : PlainIx b) : PE X (.Subscript a b pos) (tOp r ta tb) := by
  intro pins s σ H Q I h
  exact Subscript_ (binT ha hb I h fun v u s2 x y H2 I2 rx ry q => hr a b pins s2 σ H2 x y v u Q I2 rx ry q (hs _ _))

def rIxL (K : PySem.W.Frag) : R2 := fun x y H Q => ∃ p xs i v, x = .ref p ∧ y = .int i ∧ SqL K H p xs ∧ atI xs i = some v ∧ Q v H
def rIxT (K : PySem.W.Frag) : R2 := fun x y H Q => ∃ p xs i v, x = .ref p ∧ y = .int i ∧ SqT K H p xs ∧ atI xs i = some v ∧ Q v H
theorem ix_list : IxR X (rIxL X.K) := by
  intro value slice pins s σ H x y v u Q I rx ry h hs
  obtain ⟨p, xs, i, z, rfl, rfl, hq, he, q⟩ := h
  cases rx
  obtain ⟨t, rfl⟩ := ry
  obtain ⟨its, r, pl, hz⟩ := I.list hq
  obtain ⟨j, h1, h2, h3, h4, h5⟩ := atI_get he
  obtain ⟨w, ew, rw'⟩ := r.get h2
  have hl := r.length
  have hn := line63
  have fin : EP X pins σ Q w s := ⟨z, H, I, rw', q⟩
  by_cases h0 : 0 ≤ i
  · have hj : i.toNat = j := by
      rw [seqIndex_of h0 h5] at h1
      exact Option.some.inj h1
    exact item_listR pl.isList h0 (by omega) (by rw [hj]; simpa using ew) fin hs
  · have hj : (i + (its.toArray.size : Int)).toNat = j := by
      rw [seqIndex_neg (by omega) h4] at h1
      rw [List.size_toArray, ← hl]
      exact Option.some.inj h1
    exact subscriptTail_builtinR (x := w) pl.isList.typeIs slot_list_getitem.lookup
      (wpAny_getItem_list_neg (Q := fun r s' => r = w ∧ EP X pins σ Q r s') pl.isList (by omega) (by rw [List.size_toArray] <;> omega) (by omega) (by rw [hj]; simpa using ew) ⟨rfl, fin⟩) hs
theorem ix_tup : IxR X (rIxT X.K) := by
  intro value slice pins s σ H x y v u Q I rx ry h hs
  obtain ⟨p, xs, i, z, rfl, rfl, hq, he, q⟩ := h
  cases rx
  obtain ⟨t, rfl⟩ := ry
  obtain ⟨its, r, pl, hz⟩ := I.tuple hq
  obtain ⟨j, h1, h2, h3, h4, h5⟩ := atI_get he
  obtain ⟨w, ew, rw'⟩ := r.get h2
  have hl := r.length
  have hn := line63
  have fin : EP X pins σ Q w s := ⟨z, H, I, rw', q⟩
  exact subscriptTail_builtinR (x := w) pl.typeIs slot_tuple_getitem.lookup
    (getItem_tuple (j := j) (Q := fun r s' => r = w ∧ EP X pins σ Q r s') pl (by omega) (by omega) (by rw [List.size_toArray, ← hl]; exact h1) (by simpa using ew) ⟨rfl, fin⟩) hs
theorem Inv.lst {pins : List (Addr × Obj)} {σ : St} {H : Hp} {s : Shared} {p : Addr} {xs : List V} (I : Inv X pins σ H s) (h : H p = some (.lst xs)) :
    ∃ (its : List Value) (n : Nat), Vals xs its ∧ s.heap.get? p = some { cls := .type "list", data := .seq its.toArray n } ∧ xs.length ≤ sizeLine := by
  obtain ⟨z, its, n, r, e⟩ := I.hok p _ h
  exact ⟨its, n, r, e, z⟩
def flatV : V → Bool
  | .non => true
  | .bl _ => true
  | .int _ => true
  | .str _ => true
  | _ => false
def eqV : V → V → Bool
  | .non, .non => true
  | .bl a, .bl b => a == b
  | .bl a, .int b => (if a then 1 else 0) == b
  | .int a, .bl b => a == (if b then 1 else 0)
  | .int a, .int b => a == b
  | .str a, .str b => a == b
  | _, _ => false
theorem eqAt_V {A : Around} {s : Shared} {y x : V} {u v : Value} (ry : RelV y u) (rx : RelV x v) (fy : flatV y = true) (fx : flatV x = true) : SeqAt.EqAt A s u v (eqV y x) := by
  cases y with
  | non =>
    cases ry
    cases x with
    | non => cases rx; exact SeqAt.EqAt.same _
    | bl b => cases rx; exact SeqAt.EqAt.none_bool b
    | int b => obtain ⟨t, rfl⟩ := rx; exact SeqAt.EqAt.none_int b t
    | str b => obtain ⟨t, rfl⟩ := rx; exact SeqAt.EqAt.none_str b t
    | _ => exact absurd (show false = true from fx) Bool.false_ne_true
  | bl a =>
    cases ry
    cases x with
    | non => cases rx; exact SeqAt.EqAt.bool_none a
    | bl b => cases rx; exact SeqAt.EqAt.bool_bool a b
    | int b => obtain ⟨t, rfl⟩ := rx; exact SeqAt.EqAt.bool_int a b t
    | str b => obtain ⟨t, rfl⟩ := rx; exact SeqAt.EqAt.bool_str a b t
    | _ => exact absurd (show false = true from fx) Bool.false_ne_true
  | int a =>
    obtain ⟨t', rfl⟩ := ry
    cases x with
    | non => cases rx; exact SeqAt.EqAt.int_none a t'
    | bl b => cases rx; exact SeqAt.EqAt.int_bool a t' b
    | int b => obtain ⟨t, rfl⟩ := rx; exact SeqAt.EqAt.int_int a t' b t
    | str b => obtain ⟨t, rfl⟩ := rx; exact SeqAt.EqAt.int_str a t' b t
    | _ => exact absurd (show false = true from fx) Bool.false_ne_true
  | str a =>
    obtain ⟨t', rfl⟩ := ry
    cases x with
    | non => cases rx; exact SeqAt.EqAt.str_none a t'
    | bl b => cases rx; exact SeqAt.EqAt.str_bool a t' b
    | int b => obtain ⟨t, rfl⟩ := rx; exact SeqAt.EqAt.str_int a t' b t
    | str b => obtain ⟨t, rfl⟩ := rx; exact SeqAt.EqAt.str_str a t' b t
    | _ => exact absurd (show false = true from fx) Bool.false_ne_true
  | _ => exact absurd (show false = true from fy) Bool.false_ne_true
def eqU (x : V) (u : Value) : Bool := match u with
  | .none => eqV .non x
  | .bool b => eqV (.bl b) x
  | .int i _ => eqV (.int i) x
  | .str z _ => eqV (.str z) x
  | _ => false
theorem eqU_of {x y : V} {u : Value} (r : RelV y u) (f : flatV y = true) : eqU x u = eqV y x := by
  cases y with
  | non => cases r; rfl
  | bl b => cases r; rfl
  | int i => obtain ⟨t, rfl⟩ := r; rfl
  | str z => obtain ⟨t, rfl⟩ := r; rfl
  | _ => exact absurd (show false = true from f) Bool.false_ne_true
theorem any_eqU {x : V} : ∀ {xs : List V} {us : List Value}, Vals xs us → xs.all flatV = true → us.any (eqU x) = xs.any fun y => eqV y x
  | _, _, .nil, _ => rfl
  | y :: xs, u :: us, .cons r t, f => by
    rw [List.all_cons, Bool.and_eq_true] at f
    rw [List.any_cons, List.any_cons, eqU_of r f.1, any_eqU t f.2]
theorem mem_eqAt {A : Around} {s : Shared} {x : V} {v : Value} (rx : RelV x v) (fx : flatV x = true) : ∀ {xs : List V} {us : List Value}, Vals xs us → xs.all flatV = true → ∀ u ∈ us, SeqAt.EqAt A s u v (eqU x u)
  | _, _, .nil, _ => fun u hu => by cases hu
  | y :: xs, u :: us, .cons r t, f => fun u' hu => by
    rw [List.all_cons, Bool.and_eq_true] at f
    rcases List.mem_cons.mp hu with rfl | hu
    · rw [eqU_of r f.1]; exact eqAt_V r rx f.1 fx
    · exact mem_eqAt rx fx t f.2 u' hu
def inV (x : V) (xs : List V) : Bool := xs.any fun y => eqV y x
def rIn (K : PySem.W.Frag) (neg : Bool) : R2 := fun x y H Q => ∃ p xs, y = .ref p ∧ (SqL K H p xs ∨ SqT K H p xs) ∧ flatV x = true ∧ xs.all flatV = true ∧ Q (.bl (if neg then !inV x xs else inV x xs)) H
theorem op_in_seq : OpR X (compareOp .In) (rIn X.K false) := by
  intro pins s σ H x y v u Q I rx ry h
  obtain ⟨p, xs, rfl, hq, fx, fs, q⟩ := h
  cases ry
  rcases hq with hq | hq
  · obtain ⟨its, r, pl, hz⟩ := I.list hq
    refine SeqAt.in_listAt (eqU x) pl.isList (fun w hw => mem_eqAt rx fx r fs w (by simpa using hw)) ⟨.bl _, H, I, rfl, ?_⟩
    rw [show its.toArray.any (eqU x) = its.any (eqU x) by simp, any_eqU r fs]
    exact q
  · obtain ⟨its, r, pl, hz⟩ := I.tuple hq
    refine SeqAt.in_tupleAt (eqU x) pl (fun w hw => mem_eqAt rx fx r fs w (by simpa using hw)) ⟨.bl _, H, I, rfl, ?_⟩
    rw [show its.toArray.any (eqU x) = its.any (eqU x) by simp, any_eqU r fs]
    exact q
theorem call_len_seq : CallR X (.builtin "len") (fun xs H Q => ∃ p ys, xs = [.ref p] ∧ (SqL X.K H p ys ∨ SqT X.K H p ys) ∧ Q (.int ys.length) H) := by
  intro pins s σ H xs us Q I r h
  obtain ⟨p, ys, rfl, hq, q⟩ := h
  obtain ⟨u, rfl, rx⟩ := vals1 r
  cases rx
  have hn := line63
  rcases hq with hq | hq
  · obtain ⟨its, r', pl, hz⟩ := I.list hq
    have hlen := r'.length
    exact Calls.call_len_list pl.isList (by simp only [List.size_toArray] <;> omega) ⟨.int ys.length, H, I.tok _, ⟨s.toks + 1, by rw [List.size_toArray, hlen]⟩, q⟩
  · obtain ⟨its, r', pl, hz⟩ := I.tuple hq
    have hlen := r'.length
    exact len_tuple pl (by simp only [List.size_toArray] <;> omega) ⟨.int ys.length, H, I.tok _, ⟨s.toks + 1, by rw [List.size_toArray, hlen]⟩, q⟩
def tyV (K : PySem.W.Frag) (T : String) (x : V) (H : Hp) : Prop := match x with
  | .str _ => T = "str"
  | .int _ => T = "int"
  | .ref p => (T = "list" ∧ ∃ xs, SqL K H p xs) ∨ (T = "tuple" ∧ ∃ o, K.lookup p = some o ∧ o.cls = .type "tuple" ∧ o.dict = none) ∨
      (T = "dict" ∧ ((∃ kvs, H p = some (.dK kvs)) ∨ ∃ kvs, H p = some (.dT kvs))) ∨ (T = "set" ∧ ∃ S n, H p = some (.set S n))
  | _ => False
theorem tyV_is {pins : List (Addr × Obj)} {σ : St} {H : Hp} {s : Shared} {T : String} {x : V} {v : Value} (I : Inv X pins σ H s) (r : RelV x v) (ty : tyV X.K T x H) :
    s.TypeIs v T ∧ ∀ a, v = .ref a → ∃ ob, s.heap.get? a = some ob ∧ ob.dict = none := by
  cases x with
  | str z =>
    obtain ⟨t, rfl⟩ := r
    cases (show T = "str" from ty)
    exact ⟨typeIs_str s z t, fun _ e => nomatch e⟩
  | int i =>
    obtain ⟨t, rfl⟩ := r
    cases (show T = "int" from ty)
    exact ⟨typeIs_int s i t, fun _ e => nomatch e⟩
  | ref p =>
    cases r
    rcases ty with ⟨rfl, xs, hq⟩ | ⟨rfl, o, hk, hc, hd⟩ | ⟨rfl, hk⟩ | ⟨rfl, S, n, hk⟩
    · obtain ⟨its, _, pl, _⟩ := I.list hq
      refine ⟨pl.isList.typeIs, fun a e => ?_⟩
      cases e
      obtain ⟨o, n, e, c, hd, _⟩ := pl
      exact ⟨o, e, hd⟩
    · refine ⟨⟨o, I.kIn p o hk, hc⟩, fun a e => ?_⟩
      cases e
      exact ⟨o, I.kIn _ o hk, hd⟩
    · have z : ∃ o, s.heap.get? p = some o ∧ o.ExactDict := by
        rcases hk with ⟨kvs, hk⟩ | ⟨kvs, hk⟩
        · obtain ⟨_, _, _, _, o, _, _, e, ex, _⟩ := I.hok p _ hk
          exact ⟨o, e, ex⟩
        · obtain ⟨_, _, _, _, o, _, _, e, ex, _⟩ := I.hok p _ hk
          exact ⟨o, e, ex⟩
      obtain ⟨o, e, ex⟩ := z
      refine ⟨⟨o, e, ex.1⟩, fun a e2 => ?_⟩
      cases e2
      exact ⟨o, e, ex.2.1⟩
    · obtain ⟨o, _, _, _, e, ex, _⟩ := I.hok p _ hk
      refine ⟨⟨o, e, ex.1⟩, fun a e2 => ?_⟩
      cases e2
      exact ⟨o, e, ex.2.1⟩
  | _ => exact False.elim ty
def tBM (K : PySem.W.Frag) (T : String) (r : V → List V → Hp → VK → Prop) (to : TE) (t : TA) : TE := fun σ H Q => to σ H fun x H1 => tyV K T x H1 ∧ t σ H1 fun xs H2 => r x xs H2 Q
variable {o e : Expr} {es : List Expr} {to : TE} {t : TA} {name : Str} {apos cpos : Pos} {T id : String} {r : V → List V → Hp → VK → Prop}
theorem pe_bm (pa : PlainAttrs T) (slot : Slot T name id) (hty : typeOf (.builtin id) = pure (.type "method_descriptor")) (hm : MtR X id r) (ho : PE X o to) (ha : PA X (e :: es) t)
    (hbase : attributeBase o name X.env (eval o X.env) = eval o X.env := by rfl)
    (hfew : ((backTo cpos (starEach (e :: es) X.env)).all (fun x => !x.1) && (backToKw cpos (keywordEach [] X.env)).all (fun x => x.1.isSome)
      && decide ((e :: es).length + ([] : List Keyword).length + (if ([] : List Keyword).isEmpty then 0 else 1) < 30)) = true := by rfl)
    (hline : (apos.endLine == cpos.line) = true := by rfl) (hs : starEach (e :: es) X.env = (false, eval e X.env) :: starEach es X.env := by rfl) (hplain : (backTo cpos (starEach es X.env)).any (·.1) = false := by rfl) :
    PE X (.Call (.Attribute o name apos) (e :: es) [] cpos) (tBM X.K T r to t) := by
  intro pins s σ H Q I h
  refine wpAny_Call_method_late hbase hfew hline rfl (thn (ho pins s σ H _ I h) fun v s1 ⟨x, H1, I1, r1, ty, q1⟩ => ?_)
  obtain ⟨h1, h2⟩ := tyV_is I1 r1 ty
  refine ⟨T, id, pa, slot, hty, h1, h2, ?_⟩
  have hA := ha cpos pins s1 σ H1 _ I1 q1
  rw [hs] at hA ⊢
  refine Calls.callWith_builtin (by show (false || (backTo cpos (starEach es X.env)).any (·.1)) = false; rw [hplain] <;> rfl) (Calls.evalArgs_plain ?_)
  exact thn hA fun us s2 ⟨vs, H2, I2, r2, q2⟩ => hm pins s2 σ H2 x vs v us Q I2 r1 r2 q2
end
end L2

namespace L2
open PySem PySem.Spec PyProof.Rows

def MtM (X : Cx) (id : String) (r : V → List V → Hp → VK → Prop) : Prop :=
  ∀ (pins : List (Addr × Obj)) (s : Shared) (σ : St) (H : Hp) (x : V) (xs : List V) (v : Value) (us : List Value) (Q : VK), Inv X pins σ H s → RelV x v → Vals xs us → r x xs H Q →
    wpAny (model X.prog X.w) X.A (call (.builtin id) (v :: us)) (EP X pins σ Q) X.xe s

theorem Vals.one : ∀ {x : V} {us : List Value}, Vals [x] us → ∃ u, us = [u] ∧ RelV x u
  | _, _, .cons r .nil => ⟨_, rfl, r⟩
theorem Vals.two : ∀ {x y : V} {us : List Value}, Vals [x, y] us → ∃ u v, us = [u, v] ∧ RelV x u ∧ RelV y v
  | _, _, _, .cons r (.cons q .nil) => ⟨_, _, rfl, r, q⟩
theorem Vals.zero : ∀ {us : List Value}, Vals [] us → us = []
  | _, .nil => rfl
theorem Vals.dropLast {xs : List V} {us : List Value} (h : Vals xs us) : Vals xs.dropLast us.dropLast := by
  induction h with
  | nil => exact .nil
  | cons r t ih =>
    cases t with
    | nil => exact .nil
    | cons q t' => exact .cons r ih
section
variable {X : Cx} {pins : List (Addr × Obj)} {σ : St} {H : Hp} {s : Shared} {l b : Addr} {xs ys zs : List V}

theorem Inv.lset {its its' : List Value} {n : Nat} {f : Array Value → Array Value} {t' : Nat} (I : Inv X pins σ H s) (hH : H l = some (.lst xs))
    (e : s.heap.get? l = some { cls := .type "list", data := .seq its.toArray n }) (hf : f its.toArray = its'.toArray) (hv : Vals ys its') (hz : ys.length ≤ sizeLine) :
    Inv X pins σ (upd H l (.lst ys)) { s with heap := s.heap.update l (Obj.mapSeq f), toks := t' } := by
  have q := PySem.IsL.update e f
  rw [hf] at q
  refine I.write (x := l) (e := l) (by rw [hH]; exact trivial) (.inl rfl) (fun b' u hb hu => (Heap.get?_update_other s.heap (Obj.mapSeq f) (Ne.symm hb)).trans hu) ⟨_, q⟩ ?_
  exact ⟨hz, its', _, hv, q⟩
theorem Inv.lnew {its : List Value} {t' : Nat} (I : Inv X pins σ H s) (hv : Vals ys its) (hz : ys.length ≤ sizeLine) :
    Inv X pins σ (upd H s.heap.objs.size (.lst ys)) { s with heap := s.heap.push { cls := .type "list", data := .seq its.toArray }, toks := t' } :=
  I.laid (fun _ _ q => Heap.get?_push_of_some _ q) (Nat.le_refl _) ⟨hz, its, 0, hv, Heap.get?_push_size _ rfl⟩
theorem Inv.fresh (I : Inv X pins σ H s) : H s.heap.objs.size = none := I.hok.fresh (Nat.le_refl _)
theorem Inv.lstM (I : Inv X pins σ H s) (hH : H l = some (.lst xs)) : xs.length ≤ sizeLine ∧ ∃ (its : List Value) (n : Nat), Vals xs its ∧ xs.length = its.length ∧ s.heap.get? l = some { cls := .type "list", data := .seq its.toArray n } := by
  obtain ⟨z, its, n, r, e⟩ := I.hok l _ hH
  exact ⟨z, its, n, r, r.length, e⟩

theorem notLongL {n : Nat} (h : n ≤ sizeLine) : Builtin.List.listTooLong n = false := by
  unfold Builtin.List.listTooLong
  exact decide_eq_false (by omega)
end

section
variable {X : Cx}

def rAppend : V → List V → Hp → VK → Prop := fun x vs H Q => ∃ l xs y, x = .ref l ∧ vs = [y] ∧ H l = some (.lst xs) ∧ xs.length < sizeLine ∧ Q .non (upd H l (.lst (xs ++ [y])))
theorem mt_append : MtM X "list.append" rAppend := by
  intro pins s σ H x vs v us Q I rx rv h
  obtain ⟨l, xs, y, rfl, rfl, hH, hz, q⟩ := h
  cases rx
  obtain ⟨u, rfl, ru⟩ := rv.one
  obtain ⟨z, its, n, r, hl, e⟩ := I.lstM hH
  refine call_meets F.slot_list_append ⟨_, e, rfl⟩ F.entry_list_append (F.args_list_append_2 _ _) (PySem.list_append l its.toArray n u (by rw [List.size_toArray]; omega)) ⟨e, ?_⟩
  refine ⟨.non, _, I.lset (its' := its ++ [u]) hH e (by simp) (r.append (.cons ru .nil)) ?_, rfl, q⟩
  rw [List.length_append, List.length_singleton]
  omega

def rExtend : V → List V → Hp → VK → Prop := fun x vs H Q => ∃ l b xs zs, x = .ref l ∧ vs = [.ref b] ∧ H l = some (.lst xs) ∧ H b = some (.lst zs) ∧ xs.length + zs.length ≤ sizeLine ∧ Q .non (upd H l (.lst (xs ++ zs)))
theorem mt_extend : MtM X "list.extend" rExtend := by
  intro pins s σ H x vs v us Q I rx rv h
  obtain ⟨l, b, xs, zs, rfl, rfl, hH, hB, hz, q⟩ := h
  cases rx
  obtain ⟨u, rfl, ru⟩ := rv.one
  cases ru
  obtain ⟨z, its, n, r, hl, e⟩ := I.lstM hH
  obtain ⟨z2, its2, n2, r2, hl2, e2⟩ := I.lstM hB
  have hsz : its.toArray.size + its2.toArray.size ≤ sizeLine := by rw [List.size_toArray, List.size_toArray]; omega
  have hlong : ¬ (!its.toArray.isEmpty && Builtin.List.listTooLong (its.toArray.size + its2.toArray.size)) = true := by
    rw [notLongL hsz, Bool.and_false]
    exact Bool.false_ne_true
  refine call_meets F.slot_list_extend ⟨_, e, rfl⟩ F.entry_list_extend (F.args_list_extend_2 _ _)
    (AutoSeq1.list_extend_list_list_0 l its.toArray n b its2.toArray n2 hlong (by rw [List.size_toArray]; omega) (by omega)) ⟨e, e2, ?_⟩
  refine ⟨.non, _, I.lset (its' := its ++ its2) hH e (by simp) (r.append r2) ?_, rfl, q⟩
  rw [List.length_append]
  omega

def rCat : R2 := fun x y H Q => ∃ l b xs zs, x = .ref l ∧ y = .ref b ∧ H l = some (.lst xs) ∧ H b = some (.lst zs) ∧ xs.length + zs.length ≤ sizeLine ∧ ∀ p, H p = none → Q (.ref p) (upd H p (.lst (xs ++ zs)))
theorem op_cat : OpR X (binaryOp .Add) rCat := by
  intro pins s σ H x y v u Q I rx ry h
  obtain ⟨l, b, xs, zs, rfl, rfl, hH, hB, hz, q⟩ := h
  cases rx
  cases ry
  obtain ⟨z, its, n, r, hl, e⟩ := I.lstM hH
  obtain ⟨z2, its2, n2, r2, hl2, e2⟩ := I.lstM hB
  refine PySem.P.add_list e e2 ?_ (by rw [List.size_toArray, List.size_toArray]; omega)
  have ea : its.toArray ++ its2.toArray = (its ++ its2).toArray := by simp
  rw [ea]
  exact ⟨.ref _, _, I.lnew (t' := s.toks) (r.append r2) (by rw [List.length_append]; omega), rfl, q _ I.fresh⟩
end

section
variable {prog : Program} {w : World} {A : Around} {E : Value → Shared → Prop} {s : Shared}
end

section
variable {X : Cx}
end
end L2

namespace L2
open PySem PySem.Spec PyProof.Rows

theorem Vals.ints : ∀ {ns : List Int} {us : List Value}, Vals (ns.map V.int) us → IntsAre us ns
  | [], us, h => by
    rw [List.map_nil] at h
    cases h
    exact IntsAre.nil
  | n :: ns, us, h => by
    rw [List.map_cons] at h
    cases h with
    | cons r t =>
      obtain ⟨k, rfl⟩ := r
      exact IntsAre.cons n k (Vals.ints t)
theorem Vals.strs : ∀ {xs : List Str} {us : List Value}, Vals (xs.map V.str) us → StrsAre us xs
  | [], us, h => by
    rw [List.map_nil] at h
    cases h
    exact StrsAre.nil
  | x :: xs, us, h => by
    rw [List.map_cons] at h
    cases h with
    | cons r t =>
      obtain ⟨k, rfl⟩ := r
      exact StrsAre.cons x k (Vals.strs t)
section
variable {prog : Program} {w : World} {A : Around} {E : Value → Shared → Prop} {s : Shared} {l : Addr} {its : List Value} {ns : List Int} {Q : Value → Shared → Prop}
end

section
variable {X : Cx}
end

section
variable {X : Cx}
end

section
variable {X : Cx}
end

section
variable {X : Cx}
end

mutual
inductive Dp (K : PySem.W.Frag) (H : Hp) : V → PyData → Prop
  | non : Dp K H .non .none
  | bl (b : Bool) : Dp K H (.bl b) (.bool b)
  | int (i : Int) : Dp K H (.int i) (.int i)
  | str (x : Str) : Dp K H (.str x) (.str x)
  | lst {a : Addr} {xs : List V} {ds : List PyData} : SqL K H a xs → DpAll K H xs ds → Dp K H (.ref a) (.list ds)
  | tup {a : Addr} {xs : List V} {ds : List PyData} : SqT K H a xs → DpAll K H xs ds → Dp K H (.ref a) (.tuple ds)
inductive DpAll (K : PySem.W.Frag) (H : Hp) : List V → List PyData → Prop
  | nil : DpAll K H [] []
  | cons {v : V} {vs : List V} {d : PyData} {ds : List PyData} : Dp K H v d → DpAll K H vs ds → DpAll K H (v :: vs) (d :: ds)
end
section
variable {X : Cx} {pins : List (Addr × Obj)} {σ : St} {H : Hp} {s : Shared}
mutual
theorem Dp.reads (I : Inv X pins σ H s) : ∀ (d : PyData) (v : V) (u : Value), Dp X.K H v d → RelV v u → ∃ as, Reads s.heap u d as
  | .none, _, _, h, r => by
    cases h
    cases r
    exact ⟨_, Reads.none⟩
  | .bool b, _, _, h, r => by
    cases h
    cases r
    exact ⟨_, Reads.bool b⟩
  | .int i, _, _, h, r => by
    cases h
    obtain ⟨t, rfl⟩ := r
    exact ⟨_, Reads.int i t⟩
  | .str x, _, _, h, r => by
    cases h
    obtain ⟨t, rfl⟩ := r
    exact ⟨_, Reads.str x t⟩
  | .list ds, _, _, h, r => by
    cases h with
    | lst hs ha =>
      cases r
      obtain ⟨its, rv, ⟨o, n, ho, hc, _, hd⟩, _⟩ := I.list hs
      obtain ⟨as, hr⟩ := Dp.readsAll I ds _ its ha rv
      exact ⟨_, Reads.list ho hc hd hr⟩
  | .tuple ds, _, _, h, r => by
    cases h with
    | tup hs ha =>
      cases r
      obtain ⟨its, rv, ⟨o, ho, hc, n, hd⟩, _⟩ := I.tuple hs
      obtain ⟨as, hr⟩ := Dp.readsAll I ds _ its ha rv
      exact ⟨_, Reads.tuple ho hc hd hr⟩
  | .dict _, _, _, h, _ => by cases h
theorem Dp.readsAll (I : Inv X pins σ H s) : ∀ (ds : List PyData) (vs : List V) (us : List Value), DpAll X.K H vs ds → Vals vs us → ∃ as, ReadsAll s.heap us ds as
  | [], _, _, h, r => by
    cases h
    cases r
    exact ⟨_, ReadsAll.nil⟩
  | d :: ds, _, _, h, r => by
    cases h with
    | cons h1 h2 =>
      cases r with
      | cons r1 r2 =>
        obtain ⟨as, q1⟩ := Dp.reads I d _ _ h1 r1
        obtain ⟨bs, q2⟩ := Dp.readsAll I ds _ _ h2 r2
        exact ⟨_, ReadsAll.cons q1 q2⟩
end
end
section
variable {X : Cx}
end
end L2

namespace L2
open PySem PySem.Spec PyProof.Rows
abbrev CellAt (h : Heap) (c : Addr) (v : Option Value) : Prop := h.IsCell c v
def relS (scope sc : Scope) : Scope :=
  { scope with names := scope.names.map fun (n, k) => if (k == .free && sc.kind == .function && sc.names.lookup n == some .cell) then (n, .cell) else (n, k) }

def cloFrom (cells : List (Str × Addr)) : List (Str × NameKind) → List (Str × Addr) → List (Str × Addr)
  | [], acc => acc
  | (n, k) :: r, acc => if k == .free then cloFrom cells r ((n, (cells.lookup n).getD 0) :: acc) else cloFrom cells r acc

theorem closure_loop (env : Env) (f : Str × NameKind → List (Str × Addr) → Sem (ForInStep (List (Str × Addr))))
    (hf : ∀ n k c, f (n, k) c = if k == .free then (do let a ← cellOf env n; pure (.yield ((n, a) :: c))) else pure (.yield c)) :
    ∀ (names : List (Str × NameKind)) (acc : List (Str × Addr)), (∀ y ∈ names, y.2 = .free → ∃ c, env.cells.lookup y.1 = some c) → forIn names acc f = pure (cloFrom env.cells names acc)
  | [], acc, _ => by rw [List.forIn_nil]; rfl
  | (n, k) :: r, acc, h => by
    rw [List.forIn_cons, hf]
    have ih := fun acc => closure_loop env f hf r acc fun y hy => h y (List.mem_cons_of_mem _ hy)
    unfold cloFrom
    by_cases hk : (k == NameKind.free) = true
    · rw [if_pos hk, if_pos hk]
      obtain ⟨c, hc⟩ := h (n, k) List.mem_cons_self (by simpa using hk)
      have e : cellOf env n = pure c := by unfold cellOf; rw [hc]
      rw [e]
      have e2 : (env.cells.lookup n).getD 0 = c := by rw [hc]; rfl
      rw [e2]
      exact ih _
    · rw [if_neg hk, if_neg hk]
      exact ih _
theorem closure_ok {scope : Scope} {env : Env} (h : ∀ y ∈ scope.names, y.2 = .free → ∃ c, env.cells.lookup y.1 = some c) : closureFor scope env = pure (cloFrom env.cells scope.names []) := by
  simp only [closureFor]
  rw [closure_loop env _ (fun n k c => rfl) scope.names [] h]
  rfl

theorem mem_lookup {α : Type} : ∀ {l : List (Str × α)} {n : Str} {c : α}, (n, c) ∈ l → ∃ c', l.lookup n = some c'
  | (k, v) :: r, n, c, h => by
    rw [List.lookup_cons]
    cases hb : n == k with
    | true => exact ⟨_, rfl⟩
    | false =>
      rcases List.mem_cons.mp h with e | h
      · cases e; simp at hb
      · exact mem_lookup h

theorem cloFrom_mem {cells : List (Str × Addr)} : ∀ {names : List (Str × NameKind)} {acc : List (Str × Addr)} {n : Str} {c : Addr}, (n, c) ∈ cloFrom cells names acc → (n, c) ∈ acc ∨ ((n, .free) ∈ names ∧ c = (cells.lookup n).getD 0)
  | [], _, _, _, h => .inl h
  | (m, k) :: r, acc, n, c, h => by
    unfold cloFrom at h
    split at h
    · rename_i hk
      have hk : k = .free := by simpa using hk
      rcases cloFrom_mem h with h | ⟨h1, h2⟩
      · rcases List.mem_cons.mp h with e | h
        · cases e; exact .inr ⟨hk ▸ List.mem_cons_self, rfl⟩
        · exact .inl h
      · exact .inr ⟨List.mem_cons_of_mem _ h1, h2⟩
    · rcases cloFrom_mem h with h | ⟨h1, h2⟩
      · exact .inl h
      · exact .inr ⟨List.mem_cons_of_mem _ h1, h2⟩
theorem cloFrom_acc {cells : List (Str × Addr)} : ∀ {names : List (Str × NameKind)} {acc : List (Str × Addr)} {p : Str × Addr}, p ∈ acc → p ∈ cloFrom cells names acc
  | [], _, _, h => h
  | (m, k) :: r, acc, p, h => by
    unfold cloFrom
    split
    · exact cloFrom_acc (List.mem_cons_of_mem _ h)
    · exact cloFrom_acc h
theorem cloFrom_has {cells : List (Str × Addr)} : ∀ {names : List (Str × NameKind)} {acc : List (Str × Addr)} {n : Str}, (n, .free) ∈ names → (n, (cells.lookup n).getD 0) ∈ cloFrom cells names acc
  | (m, k) :: r, acc, n, h => by
    unfold cloFrom
    rcases List.mem_cons.mp h with e | h
    · cases e
      exact cloFrom_acc List.mem_cons_self
    · split
      · exact cloFrom_has h
      · exact cloFrom_has h

theorem cells_mem : ∀ {names : List (Str × NameKind)} {h : Heap} {acc : List (Str × Addr)} {x : Str} {c : Addr}, (x, c) ∈ cellsFrom h.objs.size names acc →
    (x, c) ∈ acc ∨ ((x, .cell) ∈ names ∧ h.objs.size ≤ c ∧ CellAt (pushCells h names) c none)
  | [], _, _, _, _, h => .inl h
  | (n, k) :: r, h, acc, x, c, hm => by
    unfold cellsFrom at hm
    unfold pushCells
    split at hm
    · rename_i hk
      rw [if_pos hk]
      have hk : k = .cell := by simpa using hk
      rw [← Heap.size_push h { cls := .type "cell", data := .cell none }] at hm
      rcases cells_mem hm with hm | ⟨h1, h2, h3⟩
      · rcases List.mem_cons.mp hm with e | hm
        · cases e
          exact .inr ⟨hk ▸ List.mem_cons_self, Nat.le_refl _, _, pushCells_keeps r _ _ _ (Heap.get?_push_size _ rfl), rfl⟩
        · exact .inl hm
      · rw [Heap.size_push] at h2
        exact .inr ⟨List.mem_cons_of_mem _ h1, Nat.le_of_succ_le h2, h3⟩
    · rename_i hk
      rw [if_neg hk]
      rcases cells_mem hm with hm | ⟨h1, h2, h3⟩
      · exact .inl hm
      · exact .inr ⟨List.mem_cons_of_mem _ h1, h2, h3⟩
theorem cells_acc : ∀ {names : List (Str × NameKind)} {n : Nat} {acc : List (Str × Addr)} {p : Str × Addr}, p ∈ acc → p ∈ cellsFrom n names acc
  | [], _, _, _, h => h
  | (m, k) :: r, n, acc, p, h => by
    unfold cellsFrom
    split
    · exact cells_acc (List.mem_cons_of_mem _ h)
    · exact cells_acc h
theorem cells_has : ∀ {names : List (Str × NameKind)} {n : Nat} {acc : List (Str × Addr)} {x : Str}, (x, .cell) ∈ names → ∃ c, (x, c) ∈ cellsFrom n names acc
  | (m, k) :: r, n, acc, x, h => by
    unfold cellsFrom
    rcases List.mem_cons.mp h with e | h
    · cases e
      exact ⟨n, cells_acc List.mem_cons_self⟩
    · split
      · exact cells_has h
      · exact cells_has h
theorem cells_inj : ∀ {names : List (Str × NameKind)} {h : Heap} {acc : List (Str × Addr)} {x y : Str} {c : Addr}, (∀ p ∈ acc, p.2 < h.objs.size) → (∀ x y c, (x, c) ∈ acc → (y, c) ∈ acc → x = y) →
    (x, c) ∈ cellsFrom h.objs.size names acc → (y, c) ∈ cellsFrom h.objs.size names acc → x = y
  | [], _, _, _, _, _, _, hi, h1, h2 => hi _ _ _ h1 h2
  | (n, k) :: r, h, acc, x, y, c, hl, hi, h1, h2 => by
    unfold cellsFrom at h1 h2
    split at h1
    · rename_i hk
      rw [if_pos hk] at h2
      rw [← Heap.size_push h { cls := .type "cell", data := .cell none }] at h1 h2
      refine cells_inj (h := h.push _) (fun p hp => ?_) (fun x y c a b => ?_) h1 h2
      · rw [Heap.size_push]
        rcases List.mem_cons.mp hp with rfl | hp
        · exact Nat.lt_succ_self _
        · exact Nat.lt_succ_of_lt (hl p hp)
      · rcases List.mem_cons.mp a with e | a <;> rcases List.mem_cons.mp b with e' | b
        · cases e; cases e'; rfl
        · cases e; exact absurd (hl _ b) (Nat.lt_irrefl _)
        · cases e'; exact absurd (hl _ a) (Nat.lt_irrefl _)
        · exact hi _ _ _ a b
    · rename_i hk
      rw [if_neg hk] at h2
      exact cells_inj hl hi h1 h2

theorem newEnv_comp {M : Model} {A : Around} {E : Value → Shared → Prop} {s : Shared} {scope : Scope} {globals : Addr} {closure : List (Str × Addr)} {qual : Str} {func : Option Addr} {code : Value} {around : Env} {builtins : Addr} {Q : Env → Shared → Prop}
    (h : Q (newEnv scope s.heap.objs.size globals (cellsFrom (s.heap.objs.size + 1) scope.names closure) qual func code (some around) builtins)
      { s with heap := pushCells (s.heap.push { cls := .type "dict", data := .dict #[] }) scope.names }) :
    wpAny M A (newFunctionEnv scope globals closure [] qual func code (some around) builtins) Q E s := by
  simp only [newFunctionEnv, Option.isSome_some, if_true]
  refine wpAny_bind (wpAny_alloc ?_)
  refine wpAny_bind (wpAny_layCells _ (fun n k c => rfl) scope.names closure _ _ ?_)
  rw [show ({ s with heap := s.heap.push { cls := .type "dict", data := .dict #[] } } : Shared).heap.objs.size = s.heap.objs.size + 1 from Heap.size_push ..]
  rw [List.forIn_nil]
  exact wpAny_bind (wpAny_pure (wpAny_pure h))

theorem lookup_relS {sc : Scope} : ∀ {names : List (Str × NameKind)} {x : Str} {k : NameKind},
    (names.map fun (n, k) => if (k == NameKind.free && sc.kind == .function && sc.names.lookup n == some .cell) then (n, NameKind.cell) else (n, k)).lookup x = some k →
    ∃ k', names.lookup x = some k' ∧ (k = k' ∨ (k' = .free ∧ k = .cell))
  | [], _, _, h => by simp at h
  | (n, k₀) :: r, x, k, h => by
    have ih := @lookup_relS sc r x k
    have h' : List.lookup x ((if (k₀ == NameKind.free && sc.kind == .function && sc.names.lookup n == some .cell) = true then (n, NameKind.cell) else (n, k₀)) :: (r.map _)) = some k := h
    cases hx : x == n with
    | true =>
      simp only [List.lookup_cons, hx]
      by_cases hc : (k₀ == NameKind.free && sc.kind == .function && sc.names.lookup n == some .cell) = true
      · rw [if_pos hc] at h'
        simp only [List.lookup_cons, hx] at h'
        cases h'
        simp only [Bool.and_eq_true, beq_iff_eq] at hc
        exact ⟨k₀, rfl, .inr ⟨hc.1.1, rfl⟩⟩
      · rw [if_neg hc] at h'
        simp only [List.lookup_cons, hx] at h'
        cases h'
        exact ⟨_, rfl, .inl rfl⟩
    | false =>
      simp only [List.lookup_cons, hx]
      by_cases hc : (k₀ == NameKind.free && sc.kind == .function && sc.names.lookup n == some .cell) = true
      · rw [if_pos hc] at h'
        simp only [List.lookup_cons, hx] at h'
        exact ih h'
      · rw [if_neg hc] at h'
        simp only [List.lookup_cons, hx] at h'
        exact ih h'
structure BlkOk (N : List Str) (sc scope : Scope) (own : List (Str × Nat)) : Prop where
  kind : scope.kind = .function
  uniq : ∀ y ∈ scope.names, scope.names.lookup y.1 = some y.2
  ix : ∀ p ∈ own, N[p.2]? = some p.1
  free : ∀ y ∈ scope.names, y.2 = .free → sc.names.lookup y.1 = some .cell ∨ sc.names.lookup y.1 = some .free
  own : ∀ y ∈ scope.names, y.2 = .local ∨ y.2 = .cell → y.1 ∈ own.map (·.1) ∨ y.1 ∉ N
def wipe (σ : St) : List Nat → St
  | [] => σ
  | v :: vs => (wipe σ vs).set v none
theorem wipe_length (σ : St) : ∀ vs : List Nat, (wipe σ vs).length = σ.length
  | [] => rfl
  | v :: vs => by unfold wipe; rw [List.length_set, wipe_length σ vs]
theorem wipe_some {σ : St} {i : Nat} {x : V} : ∀ {vs : List Nat}, (wipe σ vs)[i]? = some (some x) → σ[i]? = some (some x) ∧ i ∉ vs
  | [], h => ⟨h, by simp⟩
  | v :: vs, h => by
    unfold wipe at h
    by_cases hi : v = i
    · subst hi
      by_cases hv : v < (wipe σ vs).length
      · rw [List.getElem?_set_self hv] at h; cases h
      · rw [List.getElem?_eq_none (by simpa using hv)] at h; cases h
    · rw [List.getElem?_set_ne hi] at h
      obtain ⟨h1, h2⟩ := wipe_some h
      exact ⟨h1, by simp only [List.mem_cons, not_or]; exact ⟨fun e => hi e.symm, h2⟩⟩

abbrev Cx.blk (X : Cx) (s : Shared) (H : Hp) (scope : Scope) (cenv : Env) (fp : List Addr) : Cx := { X with s_0 := s, H_0 := H, env := cenv, outer := X.stack, ex := fp, fn := fun x => scope.names.lookup x == some .cell, pn := [], xe := fun _ _ => False }
section
variable {X : Cx} {pins : List (Addr × Obj)} {σ : St} {H : Hp} {s : Shared}
theorem block_start {scope : Scope} {own : List (Str × Nat)} {fp : List Addr} (I : Inv X pins σ H s) (ok : BlkOk X.N X.env.scope scope own) (hN : X.N.Nodup) (hfp : ∀ b ∈ fp, FpOk X pins H b ∧ b < s.heap.objs.size) :
    Inv (X.blk s H scope (compEnvC scope (cellsFrom (s.heap.objs.size + 1) scope.names (cloFrom X.env.cells scope.names [])) s.heap.objs.size X.env) fp) [] (wipe σ (own.map (·.2))) H { s with heap := pushCells (s.heap.push { cls := .type "dict", data := .dict #[] }) scope.names } := by
  have hfree : ∀ y ∈ scope.names, y.2 = .free → ∃ c, X.env.cells.lookup y.1 = some c := fun y hy e => by
    rcases ok.free y hy e with k | k
    · exact I.ok.has _ (.inl k)
    · exact I.ok.has _ (.inr k)
  generalize hcenv : compEnvC scope (cellsFrom (s.heap.objs.size + 1) scope.names (cloFrom X.env.cells scope.names [])) s.heap.objs.size X.env = cenv
  have kp : ∀ b o, s.heap.get? b = some o → (pushCells (s.heap.push { cls := .type "dict", data := .dict #[] }) scope.names).get? b = some o := fun b o e => pushCells_keeps _ _ _ _ (Heap.get?_push_of_some _ e)
  have hL : cenv.locals = s.heap.objs.size := by rw [← hcenv]; rfl
  have hcl : cenv.cells = cellsFrom (s.heap.objs.size + 1) scope.names (cloFrom X.env.cells scope.names []) := by rw [← hcenv]; rfl
  have hsc : cenv.scope = relS scope X.env.scope := by rw [← hcenv]; rfl
  rw [← Heap.size_push s.heap { cls := .type "dict", data := .dict #[] }] at hcl
  have cm : ∀ {y c}, (y, c) ∈ cloFrom X.env.cells scope.names [] → X.env.cells.lookup y = some c ∧ c < s.heap.objs.size := fun {y c} hm => by
    rcases cloFrom_mem hm with hm | ⟨h1, rfl⟩
    · cases hm
    · obtain ⟨c, hc⟩ := hfree _ h1 rfl
      rw [hc]
      obtain ⟨w, z⟩ := I.cell _ _ hc
      exact ⟨rfl, z.lt⟩
  have mem : ∀ {y c}, cenv.cells.lookup y = some c → (X.env.cells.lookup y = some c ∧ c < s.heap.objs.size) ∨ (s.heap.objs.size + 1 ≤ c ∧ CellAt (pushCells (s.heap.push { cls := .type "dict", data := .dict #[] }) scope.names) c none) := fun {y c} e => by
    rw [hcl] at e
    rcases cells_mem (PySem.mem_of_lookup e) with hm | ⟨_, h2, h3⟩
    · exact .inl (cm hm)
    · rw [Heap.size_push] at h2; exact .inr ⟨h2, h3⟩
  have look : ∀ {y}, scope.names.lookup y = some .free → ∃ c, cenv.cells.lookup y = some c ∧ X.env.cells.lookup y = some c := fun {y} hl => by
    have hy : (y, NameKind.free) ∈ scope.names := PySem.mem_of_lookup hl
    obtain ⟨c', e'⟩ := mem_lookup (cells_acc (names := scope.names) (n := (s.heap.push { cls := .type "dict", data := .dict #[] }).objs.size) (cloFrom_has (cells := X.env.cells) (acc := []) hy))
    rw [← hcl] at e'
    refine ⟨c', e', ?_⟩
    rw [hcl] at e'
    rcases cells_mem (PySem.mem_of_lookup e') with hm | ⟨h1, _, _⟩
    · exact (cm hm).1
    · have := ok.uniq _ h1
      rw [hl] at this; cases this
  have okB : (X.blk s H scope cenv fp).Ok := by
    refine ⟨I.ok.mod, by show cenv.scope.kind = _; rw [hsc]; exact ok.kind, by show cenv.globals = _; rw [← hcenv]; exact I.ok.glob, by show cenv.builtins = _; rw [← hcenv]; exact I.ok.blt, by show s.heap.objs.size ≤ cenv.locals; rw [hL]; exact Nat.le_refl _,
      fun y z c e1 e2 => ?_, fun y hy => ?_, fun y c z e => ?_, I.ok.hd, I.ok.frames, .inl rfl, fun b hb => ⟨?_, fun y c e z => ?_⟩, I.bs, Nat.le_trans I.ok.bsz I.sz, fun b o e hb => ?_, fun b hb z => ?_, I.stack, I.stkFree⟩
    · have e1 : cenv.cells.lookup y = some c := e1
      have e2 : cenv.cells.lookup z = some c := e2
      rw [hcl] at e1 e2
      refine cells_inj (fun p hp => ?_) (fun y z c a b => I.ok.inj y z c (cm a).1 (cm b).1) (PySem.mem_of_lookup e1) (PySem.mem_of_lookup e2)
      rw [Heap.size_push]
      exact Nat.lt_succ_of_lt (cm (y := p.1) (c := p.2) hp).2
    · show ∃ c, cenv.cells.lookup y = some c
      have key : ∀ k, cenv.kindOf y = some k → (k = .cell ∨ k = .free) → ∃ c, cenv.cells.lookup y = some c := fun k hk hk' => by
        unfold Env.kindOf at hk
        rw [hsc] at hk
        obtain ⟨k', e, r⟩ := lookup_relS hk
        have : k' = .cell ∨ k' = .free := by
          rcases r with rfl | ⟨rfl, _⟩
          · exact hk'
          · exact .inr rfl
        rcases this with rfl | rfl
        · obtain ⟨c, hm⟩ := cells_has (n := (s.heap.push { cls := .type "dict", data := .dict #[] }).objs.size) (acc := cloFrom X.env.cells scope.names []) (PySem.mem_of_lookup e)
          obtain ⟨c', e'⟩ := mem_lookup hm
          exact ⟨c', by rw [hcl]; exact e'⟩
        · obtain ⟨c, h1, _⟩ := look e
          exact ⟨c, h1⟩
      rcases hy with hy | hy
      · exact key _ hy (.inl rfl)
      · exact key _ hy (.inr rfl)
    · have z : (scope.names.lookup y == some NameKind.cell) = true := z
      have z : scope.names.lookup y = some .cell := by simpa using z
      have e : cenv.cells.lookup y = some c := e
      rw [hcl] at e
      rcases cells_mem (PySem.mem_of_lookup e) with hm | ⟨_, h2, _⟩
      · rcases cloFrom_mem hm with hm | ⟨h1, _⟩
        · cases hm
        · have q := ok.uniq _ h1
          rw [z] at q; cases q
      · rw [Heap.size_push] at h2
        exact Nat.le_of_succ_le h2
    · show b ≠ cenv.locals
      rw [hL]; exact Nat.ne_of_lt (hfp b hb).2
    · have e : cenv.cells.lookup y = some c := e
      rcases mem e with ⟨h1, _⟩ | ⟨h1, _⟩
      · exact (hfp b hb).1.2.2.2.2.1 y c h1 z
      · have h2 : s.heap.objs.size + 1 ≤ b := by rw [← z]; exact h1
        exact absurd (Nat.lt_of_lt_of_le (hfp b hb).2 (Nat.le_of_succ_le h2)) (Nat.lt_irrefl _)
    · rcases (hfp b hb).1.2.2.2.1 with z | z
      · exact I.ok.noex b o e z
      · exact absurd (Nat.lt_of_lt_of_le (Heap.lt_size e) (Nat.le_trans I.ok.bsz z)) (Nat.lt_irrefl _)
    · rcases List.mem_cons.mp (I.stkSub b z) with z | z
      · exact (hfp b hb).1.2.1 z
      · exact (hfp b hb).1.2.2.1 z
  refine ⟨okB, rfl, I.bare, Un.kept kp, ⟨fun _ => none, ?_, fun i y av e1 e2 e3 => ?_⟩, fun y c e => ?_, ?_, fun y c e => ?_, fun p hp => ?_, I.hok.kept kp, by rw [wipe_length]; exact I.len⟩
  · show Heap.Ns _ cenv.locals _
    rw [hL]
    exact Heap.Ns.keeps (Heap.Ns.new ..) fun b o e => pushCells_keeps _ _ _ _ e
  · obtain ⟨e2, hne⟩ := wipe_some e2
    have hfr : scope.names.lookup y = some .free ∧ (cenv.kindOf y = some .cell ∨ cenv.kindOf y = some .free) := by
      have key : ∀ k, cenv.scope.names.lookup y = some k → k = .local ∨ k = .cell ∨ k = .free → scope.names.lookup y = some .free ∧ (cenv.kindOf y = some .cell ∨ cenv.kindOf y = some .free) := fun k hk hk' => by
        have hk0 := hk
        rw [hsc] at hk
        obtain ⟨k', e, r⟩ := lookup_relS hk
        have no : ¬ (k' = .local ∨ k' = .cell) := fun hh => by
          rcases ok.own _ (PySem.mem_of_lookup e) hh with e' | e'
          · obtain ⟨p, hp, hpy⟩ := List.mem_map.mp e'
            have e3 := ok.ix p hp
            have : p.1 = y := hpy
            rw [this] at e3
            exact hne (List.mem_map.mpr ⟨p, hp, nodup_ix hN e3 e1⟩)
          · exact e' (List.mem_of_getElem? e1)
        rcases r with rfl | ⟨rfl, rfl⟩
        · rcases hk' with rfl | rfl | rfl
          · exact absurd (.inl rfl) no
          · exact absurd (.inr rfl) no
          · exact ⟨e, .inr hk0⟩
        · exact ⟨e, .inl hk0⟩
      have e3 : Vis cenv.scope y := e3
      rcases e3 with e3 | e3 | e3
      · exact key _ e3 (.inl rfl)
      · exact key _ e3 (.inr (.inl rfl))
      · exact key _ e3 (.inr (.inr rfl))
    obtain ⟨m, hn, hl⟩ := I.loc
    have hvis : Vis X.env.scope y := (ok.free _ (PySem.mem_of_lookup hfr.1) rfl).elim (fun k => .inr (.inl k)) (fun k => .inr (.inr k))
    obtain ⟨w, r, q⟩ := hl i y av e1 e2 hvis
    refine ⟨w, r, .inr ⟨hfr.2, ?_⟩⟩
    obtain ⟨c, h1, h2⟩ := look hfr.1
    rcases q with ⟨k, _⟩ | ⟨_, c', e', z⟩
    · have k : X.env.scope.names.lookup y = some .local := k
      rcases ok.free _ (PySem.mem_of_lookup hfr.1) rfl with k' | k' <;> rw [show X.env.scope.names.lookup y = _ from k'] at k <;> cases k
    · rw [h2] at e'; cases e'
      exact ⟨c, h1, z.keeps kp⟩
  · have e : cenv.cells.lookup y = some c := e
    rcases mem e with ⟨h1, _⟩ | ⟨_, z⟩
    · obtain ⟨w, z⟩ := I.cell y c h1
      exact ⟨w, z.keeps kp⟩
    · exact ⟨_, z⟩
  · show H cenv.locals = none
    rw [hL]; exact I.hok.fresh (Nat.le_refl _)
  · have e : cenv.cells.lookup y = some c := e
    rcases mem e with ⟨h1, _⟩ | ⟨h1, _⟩
    · exact I.freeC y c h1
    · exact I.hok.fresh (Nat.le_of_succ_le h1)
  · exact absurd (show p ∈ ([] : List (Addr × Obj)) ++ [] from hp) (by simp)

theorem app_ok {E : Value → Shared → Prop} {D : Addr} {xs : List V} {y : V} {v : Value} {Q : Value → Shared → Prop} (I : Inv X pins σ H s) (hD : H D = some (.lst xs)) (hz : xs.length < sizeLine) (r : RelV y v)
    (h : ∀ s', Inv X pins σ (upd H D (.lst (xs ++ [y]))) s' → Q .none s') : wpAny (model X.prog X.w) X.A (call (.builtin "list.append") [.ref D, v]) Q E s := by
  obtain ⟨hz', its, n, ri, e⟩ := I.hok D _ hD
  have hl := ri.length
  refine append_at (hsz := by rw [List.size_toArray]; omega) e fun h' sb ho' => ?_
  refine h { s with heap := h' } (I.write (t' := s.toks) (by rw [hD]; trivial) (.inl rfl) (fun b u hb q => (sb.2 b hb).trans q) ⟨_, ho'⟩ ⟨by rw [List.length_append]; exact hz, its ++ [v], n + 1, ri.append (.cons r .nil), ?_⟩)
  rw [ho']
  simp

def PTs (X : Cx) (ifs : List Expr) (t : TT) : Prop :=
  ∀ (pins : List (Addr × Obj)) (s : Shared) (σ : St) (H : Hp) (Q : Bool → Hp → Prop), Inv X pins σ H s → t σ H Q →
    wpAny (model X.prog X.w) X.A (forIn ifs true fun c r => if r = true then do let ok ← isTrue c X.env (eval c X.env); pure (ForInStep.yield ok) else pure (ForInStep.yield r)) (TP X pins σ Q) X.xe s
def tYes : TT := fun _ H Q => Q true H
theorem pts_nil : PTs X [] tYes := fun _ _ _ H _ I h => wpAny_tests_nil ⟨H, I, h⟩
theorem pts_one {c : Expr} {t : TT} (h : PT X c t) : PTs X [c] t := fun pins s σ H Q I hw => wpAny_tests_one (h pins s σ H Q I hw)
end

theorem thnF {α : Type} {t : Sem α} {Q Q' : α → Shared → Prop} {M : Model} {A : Around} {E : Value → Shared → Prop} {s : Shared} (h : wpAny M A t Q (fun _ _ => False) s) (hQ : ∀ a s, Q a s → Q' a s) : wpAny M A t Q' E s := wpAny_mono h hQ fun _ _ z => False.elim z

theorem compLoop_any {prog : Program} {w : World} {A : Around} {R : Result → Shared → Prop} {s : Shared} {elt target iter : Expr} {ifs : List Expr} {scope : Scope} {pos : Pos} {it acc : Value} {env : Env} (I : Nat → Shared → Prop)
    (turn : ∀ n s, I n s → wpAny (model prog w) A (pyNext it) (fun r s₁ => match r with
      | none => R (.ok .next) s₁
      | some v => wpAny (model prog w) A (letOwnedTupleGo target it v) (fun _ s₁' => wpAny (model prog w) A (assign target env v) (fun _ s₂ =>
          wpAny (model prog w) A (forIn ifs true fun c r => if r = true then do let ok ← isTrue c env (eval c env); pure (ForInStep.yield ok) else pure (ForInStep.yield r)) (fun ok s₃ =>
            if ok = true then wpAny (model prog w) A (eval elt env) (fun x s₄ =>
              wpAny (model prog w) A (call (.builtin "list.append") [acc, x]) (fun _ s₅ => ∃ m, m < n ∧ I m s₅) (notedBy (model prog w) A env fun e s' => R (.error e) s') s₄) (notedBy (model prog w) A env fun e s' => R (.error e) s') s₃
            else ∃ m, m < n ∧ I m s₃) (notedBy (model prog w) A env fun e s' => R (.error e) s') s₂) (notedBy (model prog w) A env fun e s' => R (.error e) s') s₁') (notedBy (model prog w) A env fun e s' => R (.error e) s') s₁) (notedBy (model prog w) A env fun e s' => R (.error e) s') s)
    (n : Nat) (h : I n s) :
    codeAny (model prog w) A (.compLoop (.ListComp elt [⟨target, iter, ifs, 0⟩] scope pos) 0 it acc env) R s := by
  refine codeAny_loop rfl I (fun n s hI => ?_) n h
  show wpAny _ A ((compTurn (.ListComp elt [⟨target, iter, ifs, 0⟩] scope pos) 0 it acc env).onRaise (fun x => do noteFrame x env; theTreesLotGoes x)) _ _ s
  refine wpAny_noted ?_
  rw [compTurn_list]
  refine wpAny_bind (wpAny_standAt (wpAny_bind (wpAny_mono (turn n s hI) (fun r s₁ h₁ => ?_) fun _ _ h' => h')))
  cases r with
  | none => exact wpAny_pure h₁
  | some v =>
    refine wpAny_bind (wpAny_mono h₁ (fun _ s₁' h₁' => ?_) fun _ _ h' => h')
    refine wpAny_bind (wpAny_mono h₁' (fun _ s₂ h₂ => wpAny_bind (wpAny_mono h₂ (fun ok s₃ h₃ => ?_) fun _ _ h' => h')) fun _ _ h' => h')
    cases ok with
    | false => exact wpAny_pure ⟨rfl, h₃⟩
    | true =>
      exact wpAny_bind (wpAny_bind (wpAny_mono h₃ (fun x s₄ h₄ => wpAny_bind (wpAny_mono h₄ (fun _ s₅ h₅ => wpAny_pure (wpAny_pure ⟨rfl, h₅⟩)) fun _ _ h' => h')) fun _ _ h' => h'))

section
variable {X : Cx}
def tLc (wi : TI) (g : TG) (tt : TT) (te : TE) (vs : List Nat) : TE := fun σ H Q => wi σ H fun J H1 => ∀ D, H1 D = none → ∃ W : Nat → Nat → Hp → Prop, (∃ m, W 0 m (upd H1 D (.lst []))) ∧ ∀ i m H, W i m H →
  (J.stop i H ∧ Q (.ref D) H) ∨ (J.go i H ∧ ∃ Nx : Hp → Prop, (∀ H', Nx H' → ∃ m', m' < m ∧ W (i + 1) m' H') ∧ ∀ x H', J.yld i H x H' → g x (wipe σ vs) H' fun σ2 H2 => wipe σ2 vs = wipe σ vs ∧ tt σ2 H2 fun b H3 =>
    if b = true then te σ2 H3 fun y H4 => ∃ acc, H4 D = some (.lst acc) ∧ acc.length < sizeLine ∧ Nx (upd H4 D (.lst (acc ++ [y]))) else Nx H3)
theorem lc_core {pins : List (Addr × Obj)} {s : Shared} {σ : St} {H : Hp} {Q : VK} {elt tg iter : Expr} {ifs : List Expr} {scope : Scope} {own : List (Str × Nat)} {pos pos' : Pos} {wi : TI} {g : TG} {tt : TT} {te : TE} {use : Option (Value → Sem Unit)} {Qf : Value → Shared → Prop}
    (hc : X.calm = true) (hN : X.N.Nodup) (I : Inv X pins σ H s) (hi : PI X tg iter wi) (ok : BlkOk X.N X.env.scope scope own)
    (hg : ∀ (s : Shared) (H : Hp) (C : Addr) (cl : List (Str × Addr)) (fp : List Addr), PG (X.blk s H scope (compEnvC scope cl C X.env) fp) tg g) (ht : ∀ (s : Shared) (H : Hp) (C : Addr) (cl : List (Str × Addr)) (fp : List Addr), PTs (X.blk s H scope (compEnvC scope cl C X.env) fp) ifs tt)
    (he : ∀ (s : Shared) (H : Hp) (C : Addr) (cl : List (Str × Addr)) (fp : List Addr), PE (X.blk s H scope (compEnvC scope cl C X.env) fp) elt te) (hs : ∀ x, foldedSetIterable iter X.env x = pure x)
    (h : tLc wi g tt te (own.map (·.2)) σ H Q)
    (hRR : ∀ D C s' m H', Inv X pins σ H' s' → Q (.ref D) H' → s'.heap.Ns C m → FpOk X pins H' C → compPost (model X.prog X.w) X.A X.xe use Qf (.ref D) C (.ok .next) s') :
    wpAny (model X.prog X.w) X.A (comprehension (.ListComp elt [⟨tg, iter, ifs, 0⟩] scope pos) scope X.env pos' (newList []) false (eval iter X.env) use) Qf X.xe s := by
  have hfree : ∀ y ∈ scope.names, y.2 = .free → ∃ c, X.env.cells.lookup y.1 = some c := fun y hy e => by
    rcases ok.free y hy e with k | k
    · exact I.ok.has _ (.inl k)
    · exact I.ok.has _ (.inr k)
  refine wpAny_comprehension_free (use := use) rfl hs (closure_ok hfree) ok.kind (fun y hy e => by rw [ok.uniq y hy, e])
    (thn (hi pins s σ H _ I h) fun xv s1 hx => thn hx fun itv s2 h2 => ?_)
  obtain ⟨it, fp, tn, J, H2, e, I2, T, st2, f2, q⟩ := h2
  subst e
  refine wpAny_newObj_type (newEnv_comp ?_) (by show 0 ≤ sizeLine; decide)
  generalize hD : s2.heap.objs.size = D
  have hDn : H2 D = none := I2.hok.fresh (Nat.le_of_eq hD)
  obtain ⟨W, ⟨m0, w0⟩, turn⟩ := q D hDn
  -- the new list
  generalize hs3 : ({ s2 with heap := s2.heap.push { cls := .type "list", data := .seq ([] : List Value).toArray } } : Shared) = s3
  have I3 : Inv X pins σ (upd H2 D (.lst [])) s3 := by
    rw [← hs3]
    refine I2.laid (t' := s2.toks) (fun b o e => Heap.get?_push_of_some _ e) (Nat.le_of_eq hD) ⟨Nat.zero_le _, [], 0, .nil, ?_⟩
    rw [← hD]
    exact Heap.get?_push_size _ rfl
  have h3 : s3.heap = s2.heap.push { cls := .type "list", data := .seq ([] : List Value).toArray } := by rw [← hs3]
  have sz : ∀ b ∈ fp, b < s2.heap.objs.size := fun b hb => by
    obtain ⟨o, e, _⟩ := T.obj _ _ st2 b hb
    exact Heap.lt_size e
  have f3 : ∀ b ∈ fp, FpOk X pins (upd H2 D (.lst [])) b ∧ b < s3.heap.objs.size := fun b hb => by
    have hlt := sz b hb
    refine ⟨⟨?_, (f2 b hb).2⟩, by rw [h3, Heap.size_push]; exact Nat.lt_succ_of_lt hlt⟩
    rw [upd_ne (by rw [← hD]; exact Nat.ne_of_lt hlt)]
    exact (f2 b hb).1
  have st3 : tn 0 s3.heap := T.keep _ _ _ st2 fun b _ o e => by rw [h3]; exact Heap.get?_push_of_some _ e
  have I4 := block_start I3 ok hN f3
  have pg := hg s3 (upd H2 D (.lst [])) s3.heap.objs.size (cellsFrom (s3.heap.objs.size + 1) scope.names (cloFrom X.env.cells scope.names [])) fp
  have pt := ht s3 (upd H2 D (.lst [])) s3.heap.objs.size (cellsFrom (s3.heap.objs.size + 1) scope.names (cloFrom X.env.cells scope.names [])) fp
  have pe := he s3 (upd H2 D (.lst [])) s3.heap.objs.size (cellsFrom (s3.heap.objs.size + 1) scope.names (cloFrom X.env.cells scope.names [])) fp
  show codeAny _ _ (.compStart (.ListComp elt [⟨tg, iter, ifs, 0⟩] scope pos) 0 (.ref it) (.ref D) (compEnvC scope (cellsFrom (s3.heap.objs.size + 1) scope.names (cloFrom X.env.cells scope.names [])) s3.heap.objs.size X.env)) (compPost (model X.prog X.w) X.A X.xe use Qf (.ref D) s3.heap.objs.size) { s3 with heap := pushCells (s3.heap.push { cls := .type "dict", data := .dict #[] }) scope.names }
  have nfp : ∀ b ∈ fp, (upd H2 D (.lst [])) b = none := fun b hb => (f3 b hb).1.1
  generalize hce : compEnvC scope (cellsFrom (s3.heap.objs.size + 1) scope.names (cloFrom X.env.cells scope.names [])) s3.heap.objs.size X.env = ce at I4 pg pt pe ⊢
  have cL : ce.locals = s3.heap.objs.size := by subst hce; rfl
  generalize hH3 : upd H2 D (.lst []) = H3 at I3 I4 pg pt pe w0 nfp f3
  generalize hs4 : ({ s3 with heap := pushCells (s3.heap.push { cls := .type "dict", data := .dict #[] }) scope.names } : Shared) = s4 at I4 ⊢
  have st4 : tn 0 s4.heap := T.keep _ _ _ st3 fun b _ o e => by rw [← hs4]; exact pushCells_keeps _ _ _ _ (Heap.get?_push_of_some _ e)
  have stat : ∀ {σ' : St} {H' : Hp} {s' : Shared}, Inv (X.blk s3 H3 scope ce fp) [] σ' H' s' → (∀ b ∈ fp, H' b = none) → ∀ b ∈ fp, FpOk (X.blk s3 H3 scope ce fp) [] H' b := fun {σ' H' s'} I' hn b hb =>
    ⟨hn b hb, (I'.ok.exf b hb).1, I'.ok.exfs b hb, .inl hb, fun x c e => (I'.ok.exf b hb).2 x c e, fun p hp => absurd (show p ∈ ([] : List (Addr × Obj)) ++ [] from hp) (by simp)⟩
  have loop : codeAny (model X.prog X.w) X.A (.compLoop (.ListComp elt [⟨tg, iter, ifs, 0⟩] scope pos) 0 (.ref it) (.ref D) ce) (compPost (model X.prog X.w) X.A X.xe use Qf (.ref D) s3.heap.objs.size) s4 := by
    refine compLoop_any (fun n s' => ∃ i H', Inv (X.blk s3 H3 scope ce fp) [] (wipe σ (own.map (·.2))) H' s' ∧ tn i s'.heap ∧ (∀ b ∈ fp, H' b = none) ∧ W i n H') ?_ m0 ⟨0, H3, I4, st4, nfp, w0⟩
    rintro n s5 ⟨i, H5, I5, st5, n5, w5⟩
    rcases turn i n H5 w5 with ⟨stop, qq⟩ | ⟨go, Nx, hNx, step⟩
    · have td := T.done (X.blk s3 H3 scope ce fp) rfl rfl rfl hc i [] s5 _ H5 (fun _ _ => False) I5 (stat I5 n5) st5 stop
      refine thnF td fun r s6 ⟨hr, I6⟩ => ?_
      subst hr
      -- back in the def's context
      have I7 : Inv X pins σ H5 s6 := I3.call' (ch := fp) I6.os I6.base I6.hok I6.bare fun b hb => ⟨(f3 b hb).1.2.2.2.1, (f3 b hb).1.2.1, (f3 b hb).1.2.2.2.2.1, (f3 b hb).1.2.2.2.2.2⟩
      have nC : H5 s3.heap.objs.size = none := by
        have z : H5 ce.locals = none := I6.free
        rw [cL] at z
        exact z
      obtain ⟨m, hn, _⟩ := I6.loc
      have hn : s6.heap.Ns ce.locals m := hn
      rw [cL] at hn
      exact hRR D s3.heap.objs.size s6 m H5 I7 qq hn (I3.fpOk (Nat.le_refl _) nC)
    · have ti := T.item (X.blk s3 H3 scope ce fp) rfl rfl rfl hc i [] s5 _ H5 (fun _ _ => False) I5 (stat I5 n5) st5 go
      refine thnF ti fun r s6 ⟨u, hr, h6⟩ => ?_
      subst hr
      refine thnF h6 fun _ s7 ⟨x, H7, I7, r7, y7, st7, n7⟩ => ?_
      have I7' := I7.pinned (stat I7 n7) (T.obj _ _ st7)
      refine thnF (pg _ s7 _ H7 x u _ I7' r7 (step x H7 y7)) fun _ s8 ⟨σ8, H8, I8, hw8, q8⟩ => ?_
      refine thnF (pt _ s8 σ8 H8 _ I8 q8) fun b s9 ⟨H9, I9, q9⟩ => ?_
      -- the turn's end
      have fin : ∀ {s' : Shared} {H' : Hp}, Inv (X.blk s3 H3 scope ce fp) ([] ++ pinsAt fp s7.heap) σ8 H' s' → Nx H' → ∃ m, m < n ∧ ∃ i H', Inv (X.blk s3 H3 scope ce fp) [] (wipe σ (own.map (·.2))) H' s' ∧ tn i s'.heap ∧ (∀ b ∈ fp, H' b = none) ∧ W i m H' := fun {s' H'} I' nx => by
        obtain ⟨m', hm, w'⟩ := hNx H' nx
        have pin' : ∀ b ∈ fp, ∀ o, s7.heap.get? b = some o → s'.heap.get? b = some o ∧ H' b = none := fun b hb o e =>
          let z := I'.pin (b, o) (List.mem_append_right _ (List.mem_append_right _ (mem_pinsAt hb e)))
          ⟨z.1, z.2.1⟩
        have hl : (wipe σ (own.map (·.2))).length = σ8.length := by rw [← hw8, wipe_length]
        refine ⟨m', hm, i + 1, H', (I'.unpinned (pins := [])).weak hl (fun j v e => ?_), T.keep _ _ _ st7 fun b hb o e => (pin' b hb o e).1, fun b hb => ?_, w'⟩
        · rw [← hw8] at e
          exact (wipe_some e).1
        · obtain ⟨o, e, _⟩ := T.obj _ _ st7 b hb
          exact (pin' b hb o e).2
      cases b with
      | false =>
        simp only [Bool.false_eq_true, if_false] at q9 ⊢
        exact fin I9 q9
      | true =>
        simp only [if_true] at q9 ⊢
        refine thnF (pe _ s9 σ8 H9 _ I9 q9) fun z s10 ⟨yv, H10, I10, r10, acc, hD10, hz10, nx⟩ => ?_
        exact app_ok (X := X.blk s3 H3 scope ce fp) I10 hD10 hz10 r10 fun s11 I11 => fin I11 nx
  exact codeAny_compStart_list loop (T.self X.A 0 _ _ _ st4 loop)
theorem pe_lc {elt tg iter : Expr} {ifs : List Expr} {scope : Scope} {own : List (Str × Nat)} {pos : Pos} {wi : TI} {g : TG} {tt : TT} {te : TE} (hc : X.calm = true) (hN : X.N.Nodup) (hi : PI X tg iter wi) (ok : BlkOk X.N X.env.scope scope own)
    (hg : ∀ (s : Shared) (H : Hp) (C : Addr) (cl : List (Str × Addr)) (fp : List Addr), PG (X.blk s H scope (compEnvC scope cl C X.env) fp) tg g) (ht : ∀ (s : Shared) (H : Hp) (C : Addr) (cl : List (Str × Addr)) (fp : List Addr), PTs (X.blk s H scope (compEnvC scope cl C X.env) fp) ifs tt)
    (he : ∀ (s : Shared) (H : Hp) (C : Addr) (cl : List (Str × Addr)) (fp : List Addr), PE (X.blk s H scope (compEnvC scope cl C X.env) fp) elt te) (hs : ∀ x, foldedSetIterable iter X.env x = pure x := by intro _; rfl) :
    PE X (.ListComp elt [⟨tg, iter, ifs, 0⟩] scope pos) (tLc wi g tt te (own.map (·.2))) := by
  intro pins s σ H Q I h
  rw [eval_ListComp]
  refine lc_core hc hN I hi ok hg ht he hs h fun D C s' m H' I' q hn f => ⟨m, hn, fun h'' sb => ?_⟩
  obtain ⟨f0, f1, f2, f3, f4, f5⟩ := f
  exact ⟨.ref D, H', I'.turned (t' := s'.toks) (fun b o hb e => (sb.2 b hb).trans e) f0 f1 f3 f4 f5, rfl, q⟩
theorem ps_setLc {i : Nat} {y : Str} {py : Pos} {elt tg iter : Expr} {ifs : List Expr} {scope : Scope} {own : List (Str × Nat)} {pos spos : Pos} {wi : TI} {g : TG} {tt : TT} {te : TE} (hc : X.calm = true) (hN : X.N.Nodup) (hy : X.N[i]? = some y) (hyl : X.env.scope.names.lookup y = some .local)
    (hsw : swapsWith (.ListComp elt [⟨tg, iter, ifs, 0⟩] scope pos) (some (.Name y py)) spos.line X.env = pure true) (hi : PI X tg iter wi) (ok : BlkOk X.N X.env.scope scope own)
    (hg : ∀ (s : Shared) (H : Hp) (C : Addr) (cl : List (Str × Addr)) (fp : List Addr), PG (X.blk s H scope (compEnvC scope cl C X.env) fp) tg g) (ht : ∀ (s : Shared) (H : Hp) (C : Addr) (cl : List (Str × Addr)) (fp : List Addr), PTs (X.blk s H scope (compEnvC scope cl C X.env) fp) ifs tt)
    (he : ∀ (s : Shared) (H : Hp) (C : Addr) (cl : List (Str × Addr)) (fp : List Addr), PE (X.blk s H scope (compEnvC scope cl C X.env) fp) elt te) (hs : ∀ x, foldedSetIterable iter X.env x = pure x := by intro _; rfl) :
    PS X (.Assign [.Name y py] (.ListComp elt [⟨tg, iter, ifs, 0⟩] scope pos) spos) (tAsg (tLc wi g tt te (own.map (·.2))) (gName i)) := by
  intro pins s σ H D I h
  rw [exec_Assign_Name_used _ _ _ _ hsw]
  refine wpAny_bind (wpAny_standAt (wpAny_bind ?_))
  show wpAny _ X.A (do let _ ← comprehension (.ListComp elt [⟨tg, iter, ifs, 0⟩] scope pos) scope X.env (firstIterPos [⟨tg, iter, ifs, 0⟩] pos) (newList []) false (eval iter X.env) (some (assign (.Name y py) X.env))) _ _ s
  have h : tLc wi g tt te (own.map (·.2)) σ H (fun x H1 => gName i x σ H1 D.nx) := h
  refine wpAny_bind (thn (lc_core (Qf := fun _ s' => SP X pins D .next s') hc hN I hi ok hg ht he hs h fun L C s' m H' I' q hn f => ?_) fun _ s' hq => wpAny_pure (wpAny_pure hq))
  show wpAny _ _ (assign (.Name y py) X.env (.ref L)) _ _ _
  refine wpAny_assign_Name (store_ok2 (v := V.ref L) I' hN hy (.inl hyl) rfl (fun s2 I2 ⟨a, sb, ha⟩ => ?_) (.inr hyl))
  obtain ⟨f0, f1, f2, f3, f4, f5⟩ := f
  have haC : C ≠ a := by
    rcases ha with z | z
    · rw [z]; exact f1
    · exact fun e => f4 y a z e.symm
  refine ⟨m, hn.sameBut sb haC, fun h3 sb3 => ?_⟩
  exact ⟨_, H', I2.turned (t' := s2.toks) (fun b o hb e => (sb3.2 b hb).trans e) f0 f1 f3 f4 f5, q⟩
theorem sw_true {elt : Expr} {gs : List Comprehension} {scope : Scope} {pos py : Pos} {y : Str} {l : Nat} {env : Env} (hk : env.scope.kind = .function) (hy : env.scope.names.lookup y = some .local) (hl : (py.line == pos.line) = true)
    (ha : (scope.names.any fun (n, k) => n == y && (k == .local || k == .cell)) = false) : swapsWith (.ListComp elt gs scope pos) (some (.Name y py)) l env = pure true := by
  have ky : env.kindOf y = some .local := hy
  have hb : env.blockKind = .function := by unfold Env.blockKind; rw [hk]; rfl
  unfold swapsWith
  simp only [hb, ky, ha, Expr.pos, hl]
  rfl
end

theorem lc_range {lo : Int} {n : Nat} {g : TG} {tt : TT} {te : TE} {vs : List Nat} {σ : St} {H1 : Hp} {D : Addr} {Qd : Hp → Prop} (Pv : Nat → Hp → Prop) (h0 : Pv 0 (upd H1 D (.lst [])))
    (hs : ∀ i H, i < n → Pv i H → g (.int (lo + i)) (wipe σ vs) H fun σ2 H2 => wipe σ2 vs = wipe σ vs ∧ tt σ2 H2 fun b H3 =>
      if b = true then te σ2 H3 fun y H4 => ∃ acc, H4 D = some (.lst acc) ∧ acc.length < sizeLine ∧ Pv (i + 1) (upd H4 D (.lst (acc ++ [y]))) else Pv (i + 1) H3) (hd : ∀ H, Pv n H → Qd H) :
    ∃ W : Nat → Nat → Hp → Prop, (∃ m, W 0 m (upd H1 D (.lst []))) ∧ ∀ i m H, W i m H →
      ((Itr lo n).stop i H ∧ Qd H) ∨ ((Itr lo n).go i H ∧ ∃ Nx : Hp → Prop, (∀ H', Nx H' → ∃ m', m' < m ∧ W (i + 1) m' H') ∧ ∀ x H', (Itr lo n).yld i H x H' → g x (wipe σ vs) H' fun σ2 H2 => wipe σ2 vs = wipe σ vs ∧ tt σ2 H2 fun b H3 =>
        if b = true then te σ2 H3 fun y H4 => ∃ acc, H4 D = some (.lst acc) ∧ acc.length < sizeLine ∧ Nx (upd H4 D (.lst (acc ++ [y]))) else Nx H3) := by
  refine ⟨fun i m H => m = n - i ∧ i ≤ n ∧ Pv i H, ⟨n, by simp, Nat.zero_le _, h0⟩, ?_⟩
  rintro i m H ⟨rfl, hi, p⟩
  by_cases hlt : i < n
  · refine .inr ⟨hlt, Pv (i + 1), fun H' p' => ⟨n - (i + 1), by omega, rfl, hlt, p'⟩, fun x H' y => ?_⟩
    obtain ⟨e, y⟩ := y
    subst e y
    exact hs i _ hlt p
  · have e : i = n := by omega
    subst e
    exact .inl ⟨Nat.le_refl _, hd H p⟩
theorem lc_list {K : PySem.W.Frag} {a : Addr} {xs : List V} {g : TG} {tt : TT} {te : TE} {vs : List Nat} {σ : St} {H1 : Hp} {D : Addr} {Qd : Hp → Prop} (Pv : Nat → Hp → Prop) (h0 : Pv 0 (upd H1 D (.lst []))) (hl : ∀ i H, i ≤ xs.length → Pv i H → SqL K H a xs)
    (hs : ∀ i x H, xs[i]? = some x → Pv i H → g x (wipe σ vs) H fun σ2 H2 => wipe σ2 vs = wipe σ vs ∧ tt σ2 H2 fun b H3 =>
      if b = true then te σ2 H3 fun y H4 => ∃ acc, H4 D = some (.lst acc) ∧ acc.length < sizeLine ∧ Pv (i + 1) (upd H4 D (.lst (acc ++ [y]))) else Pv (i + 1) H3) (hd : ∀ H, Pv xs.length H → Qd H) :
    ∃ W : Nat → Nat → Hp → Prop, (∃ m, W 0 m (upd H1 D (.lst []))) ∧ ∀ i m H, W i m H →
      ((Itl K a).stop i H ∧ Qd H) ∨ ((Itl K a).go i H ∧ ∃ Nx : Hp → Prop, (∀ H', Nx H' → ∃ m', m' < m ∧ W (i + 1) m' H') ∧ ∀ x H', (Itl K a).yld i H x H' → g x (wipe σ vs) H' fun σ2 H2 => wipe σ2 vs = wipe σ vs ∧ tt σ2 H2 fun b H3 =>
        if b = true then te σ2 H3 fun y H4 => ∃ acc, H4 D = some (.lst acc) ∧ acc.length < sizeLine ∧ Nx (upd H4 D (.lst (acc ++ [y]))) else Nx H3) := by
  refine ⟨fun i m H => m = xs.length - i ∧ i ≤ xs.length ∧ Pv i H, ⟨xs.length, by simp, Nat.zero_le _, h0⟩, ?_⟩
  rintro i m H ⟨rfl, hi, p⟩
  have q := hl i H hi p
  by_cases hlt : i < xs.length
  · refine .inr ⟨⟨xs, xs[i], q, by simp [hlt]⟩, Pv (i + 1), fun H' p' => ⟨xs.length - (i + 1), by omega, rfl, hlt, p'⟩, fun x H' y => ?_⟩
    obtain ⟨e, y⟩ := y
    subst e
    exact hs i x _ (y xs q) p
  · have e : i = xs.length := by omega
    subst e
    exact .inl ⟨⟨xs, q, Nat.le_refl _⟩, hd H p⟩
end L2

namespace L2
open PySem PySem.Spec PyProof.Rows

section
variable {prog : Program} {w : World} {A : Around} {R : Result → Shared → Prop} {s : Shared} {elt t0 i0 t1 i1 : Expr} {ifs0 ifs1 : List Expr} {scope : Scope} {pos : Pos} {it acc : Value} {env : Env}
end

section
variable {X : Cx}
end
end L2

namespace L2
open PySem PySem.Spec PyProof.Rows

section
variable {κ : Type} [DecidableEq κ]
def valV (kvs : List (κ × V)) (k : κ) : Option V := (kvs.find? fun kv => decide (kv.1 = k)).map (·.2)
def putK (kvs : List (κ × V)) (k : κ) (v : V) : List (κ × V) :=
  if (kvs.any fun kv => decide (kv.1 = k)) = true then kvs.map (fun kv => if kv.1 = k then (kv.1, v) else kv) else kvs ++ [(k, v)]
def dropK (kvs : List (κ × V)) (k : κ) : List (κ × V) := kvs.filter fun kv => decide (kv.1 ≠ k)

theorem RelO.getD {o : Option V} {u : Option Value} {d : V} {d' : Value} (r : RelO o u) (rd : RelV d d') : RelV (o.getD d) (u.getD d') := by
  cases o with
  | none => cases u with
    | none => exact rd
    | some _ => exact (show False from r).elim
  | some _ => cases u with
    | none => exact (show False from r).elim
    | some _ => exact r

theorem KV.any {kvs : List (κ × V)} {vs : List (κ × Value)} (r : KV kvs vs) (k : κ) : (kvs.any fun kv => decide (kv.1 = k)) = vs.any fun kv => decide (kv.1 = k) := by
  unfold KV at r
  induction r with
  | nil => rfl
  | cons h t ih => rw [List.any_cons, List.any_cons, ih, h.1]
theorem KV.drop {kvs : List (κ × V)} {vs : List (κ × Value)} (r : KV kvs vs) (k : κ) : KV (dropK kvs k) (without vs k) := by
  unfold KV at r ⊢
  unfold dropK without
  induction r with
  | nil => exact .nil
  | @cons p q ps qs h t ih =>
    obtain ⟨h1, h2⟩ := h
    rw [List.filter_cons, List.filter_cons]
    by_cases e : p.1 = k
    · have a : ¬ decide (p.1 ≠ k) = true := by simp [e]
      have b : ¬ decide (q.1 ≠ k) = true := by simp [h1.symm.trans e]
      rw [if_neg a, if_neg b]; exact ih
    · have e' : ¬ q.1 = k := fun z => e (h1.trans z)
      have a : decide (p.1 ≠ k) = true := by simp [e]
      have b : decide (q.1 ≠ k) = true := by simp [e']
      rw [if_pos a, if_pos b]; exact .cons ⟨h1, h2⟩ ih
theorem KV.keys {kvs : List (κ × V)} {vs : List (κ × Value)} (r : KV kvs vs) : kvs.map (·.1) = vs.map (·.1) := by
  unfold KV at r
  induction r with
  | nil => rfl
  | cons h t ih => rw [List.map_cons, List.map_cons, ih, h.1]
theorem KV.length {kvs : List (κ × V)} {vs : List (κ × Value)} (r : KV kvs vs) : kvs.length = vs.length := Paired.length r
end


abbrev KT (H : Hp) : List (List Key × V) → List (List Key × Addr × Value) → Prop := Paired fun p q => p.1 = q.1 ∧ H q.2.1 = some (.tup (p.1.map kV)) ∧ RelV p.2 q.2.2
theorem KT.keeps {H H' : Hp} {kvs : List (List Key × V)} {xs : List (List Key × Addr × Value)} (r : KT H kvs xs) (ht : ∀ b ys, H b = some (.tup ys) → H' b = some (.tup ys)) : KT H' kvs xs :=
  Paired.mapP r fun _ _ z => ⟨z.1, ht _ _ z.2.1, z.2.2⟩

section
variable {P : Program} {w : World} {H : Hp} {h : Heap} {a : Addr}
end

def DGet (H : Hp) (a : Addr) (y : V) (r : Option V) : Prop :=
  (∃ kvs k, Rd H a (.dK kvs) ∧ y = kV k ∧ r = valV kvs k) ∨ ∃ kvs k b, Rd H a (.dT kvs) ∧ y = .ref b ∧ H b = some (.tup (k.map kV)) ∧ r = valV kvs k
def DPut (H : Hp) (a : Addr) (y v : V) (H' : Hp) : Prop :=
  (∃ kvs k, H a = some (.dK kvs) ∧ y = kV k ∧ kvs.length < sizeLine ∧ H' = upd H a (.dK (putK kvs k v))) ∨
  ∃ kvs k b, H a = some (.dT kvs) ∧ y = .ref b ∧ H b = some (.tup (k.map kV)) ∧ kvs.length < sizeLine ∧ H' = upd H a (.dT (putK kvs k v))
theorem DGet.k {H : Hp} {a : Addr} {kvs : List (Key × V)} {k : Key} (e : H a = some (.dK kvs)) : DGet H a (kV k) (valV kvs k) := .inl ⟨kvs, k, .inl e, rfl, rfl⟩
theorem DGet.t {H : Hp} {a b : Addr} {kvs : List (List Key × V)} {k : List Key} (e : H a = some (.dT kvs)) (eb : H b = some (.tup (k.map kV))) : DGet H a (.ref b) (valV kvs k) := .inr ⟨kvs, k, b, .inl e, rfl, eb, rfl⟩
theorem DPut.k {H : Hp} {a : Addr} {kvs : List (Key × V)} {k : Key} {v : V} (e : H a = some (.dK kvs)) (hl : kvs.length < sizeLine) : DPut H a (kV k) v (upd H a (.dK (putK kvs k v))) := .inl ⟨kvs, k, e, rfl, hl, rfl⟩
theorem DPut.t {H : Hp} {a b : Addr} {kvs : List (List Key × V)} {k : List Key} {v : V} (e : H a = some (.dT kvs)) (eb : H b = some (.tup (k.map kV))) (hl : kvs.length < sizeLine) :
    DPut H a (.ref b) v (upd H a (.dT (putK kvs k v))) := .inr ⟨kvs, k, b, e, rfl, eb, hl, rfl⟩


section
variable {X : Cx} {pins : List (Addr × Obj)} {σ : St} {H : Hp} {s : Shared} {a : Addr} {y v : V} {u r : Value} {o : Option V} {A : Around} {E : Value → Shared → Prop}

end

section
variable {X : Cx} {pins : List (Addr × Obj)} {σ : St} {H : Hp} {s : Shared} {a : Addr} {kvs : List (Key × V)} {k : Key} {u : Value} {A : Around} {E : Value → Shared → Prop}
end


section
variable {X : Cx} {o i e value : Expr} {pos pos' tpos : Pos} {td ty tv : TE}
end


section
variable {X : Cx} {pos : Pos}
end

structure M2 (X : Cx) (o : Expr) (m : Str) (apos : Pos) (e f : Expr) (cpos : Pos) : Prop where
  base : attributeBase o m X.env (eval o X.env) = eval o X.env
  few : ((backTo cpos (starEach [e, f] X.env)).all (fun x => !x.1) && (backToKw cpos (keywordEach [] X.env)).all (fun x => x.1.isSome)
    && decide (([e, f] : List Expr).length + ([] : List Keyword).length + (if ([] : List Keyword).isEmpty then 0 else 1) < 30)) = true
  line : (apos.endLine == cpos.line) = true
  trees : backTo cpos (starEach [e, f] X.env) = [(false, eval e X.env), (false, eval f X.env)]

section
variable {X : Cx} {pins : List (Addr × Obj)} {σ : St} {H : Hp} {s : Shared} {a : Addr} {y d : V} {u r : Value} {o : Option V} {A : Around} {E : Value → Shared → Prop}
end

section
variable {X : Cx} {o e f : Expr} {apos cpos : Pos} {td ty tx : TE}
end

section
variable {X : Cx} {pins : List (Addr × Obj)} {σ : St} {H : Hp} {s : Shared} {a : Addr} {kvs : List (Key × V)} {A : Around} {E : Value → Shared → Prop}
end


section
variable {X : Cx} {pins : List (Addr × Obj)} {σ : St} {H : Hp} {s : Shared} {a : Addr} {y : V} {u : Value} {A : Around} {E : Value → Shared → Prop}
end
end L2

namespace L2
open PySem PySem.Spec PyProof.Rows

section
variable {prog : Program} {w : World} {A : Around} {E : Value → Shared → Prop}
end

section
variable {X : Cx}
end
end L2

namespace L2
open PySem PySem.Spec PyProof.Rows

section
variable {X : Cx} {pins : List (Addr × Obj)} {σ : St} {H : Hp} {s : Shared} {h' : Heap}
end
section
variable {X : Cx}
end

def RgC (i j c : Int) (n : Nat) : Prop := c ≠ 0 ∧ c.natAbs < 1073741824 ∧ Builtin.Range.small i j c = true ∧ Builtin.Range.rangeSize i j c = n
theorem RgC.neg {i j : Int} (ha : -(2 ^ 62) ≤ i) (ha' : i < 2 ^ 62) (hb : -(2 ^ 62) ≤ j) (hb' : j < 2 ^ 62) : RgC i j (-1) (i - j).toNat :=
  ⟨by decide, by decide, PySem.W.small_down ha ha' hb hb', PySem.W.rangeSize_downNat i j⟩
section
variable {X : Cx} {tg : Expr}
end
section
variable {X : Cx} {tg : Expr}
end

section
variable {prog : Program} {w : World} {A : Around} {E : Value → Shared → Prop} {s : Shared}
end

section
variable {X : Cx} {pins : List (Addr × Obj)} {σ : St} {H : Hp} {s : Shared} {d : Addr} {o : Obj}
end

section
variable {P : Program} {w : World} {K : PySem.W.Frag} {tg : Expr} {d : Addr} {o : Obj} {es : Array DictEntry} {ep : Nat}
end

section
variable {X : Cx} {tg e : Expr} {td : TE} {apos cpos : Pos}
end

end L2

section 
namespace Bits
open PySem PyProof.Rows

end Bits
end 

section 
namespace TL
open PySem PySem.Builtin PySem.Builtin.Str PySem.StrLaws

abbrev tl (x : Str) : List Nat := x.cps.toList
def pre (S l : List Nat) : Bool := l.take S.length == S
def par (S : List Nat) : List Nat → List Nat → Option (List Nat × List Nat)
  | _, [] => none
  | acc, c :: r => if pre S (c :: r) = true then some (acc, (c :: r).drop S.length) else par S (acc ++ [c]) r

end TL
end 

namespace L2
open PySem PySem.Spec PyProof.Rows

section
variable {X : Cx} {pins : List (Addr × Obj)} {σ : St} {H : Hp} {s : Shared} {Q : VK}
end

section
variable {X : Cx}

end

section
variable {X : Cx} {o e : Expr} {to te : TE}
end
end L2

namespace L2
open PySem PySem.Spec PyProof.Rows

section
variable {X : Cx}
end

theorem IsPart.raw {v : Value} {o : Option Int} (p : IsPart v o) : ∃ l : Option (Int × Tok), v = partValue l ∧ l.map (·.1) = o := by
  cases p with
  | none => exact ⟨none, rfl, rfl⟩
  | int i t => exact ⟨some (i, t), rfl, rfl⟩

end L2

namespace Att
open PySem PySem.W PySem.Calls PyProof.Rows

section
variable {prog : Program} {w : World} {A : Around} {E : Value → Shared → Prop} {s : Shared} {K : Frag}

end
end Att

namespace L2
open PySem PySem.Spec PyProof.Rows

end L2

namespace L2
open PySem PySem.Spec PyProof.Rows

end L2


namespace L2
open PySem PySem.Spec PyProof.Rows

def inClass (s : Stmt) (j : Nat) : Stmt := match s with
  | .ClassDef _ _ _ body _ _ _ _ _ _ _ => body.getD j (.Pass ⟨0, 0, 0, 0⟩)
  | _ => .Pass ⟨0, 0, 0, 0⟩
def defArgs (s : Stmt) : Arguments := match s with
  | .FunctionDef _ a _ _ _ _ _ _ _ _ => a
  | _ => { posonlyargs := [], args := [], vararg := none, kwonlyargs := [], kw_defaults := [], kwarg := none, defaults := [] }
def defBody (s : Stmt) : List Stmt := match s with
  | .FunctionDef _ _ b _ _ _ _ _ _ _ => b
  | _ => []
def defScope (s : Stmt) : Scope := match s with
  | .FunctionDef _ _ _ _ _ _ sc _ _ _ => sc
  | _ => { kind := .function, names := [], isGenerator := false, isCoroutine := false }

abbrev CX0 : CXT := fun _ _ _ _ _ _ => False
abbrev E0 : XK := fun _ _ _ => False
theorem pass0 {X : Cx} : Passes CX0 X E0 := fun _ _ _ _ _ _ _ h => h.elim

structure Fun (K : PySem.W.Frag) (x qual : Str) (st : Stmt) (f : Addr) (fd : FuncData) : Prop where
  ex : ∃ (oc : Value) (od : Option Addr) (kV doc pm : Value) (an : Option Addr) (cdv ct : Value) (osl : Array (Option Value)),
    fd = PySem.W.fnOf x qual (defArgs st) (defBody st) (defScope st) .none kV doc pm an cdv ct ∧ K.lookup f = some ⟨oc, od, .func fd, osl⟩ ∧ PySem.W.codeIn K cdv qual = true
  kp : PySem.W.keepIn K (.ref f) = true
section
variable {P : Program} {w : World} {K : PySem.W.Frag} {mg : Str → Option Value} {base : Heap}
theorem Fun.ok {x qual : Str} {st : Stmt} {f : Addr} {fd : FuncData} {N ps : List Str} {k : Nat} {sp : Sp} (F : Fun K x qual st f fd) (S : FnScope N ps (defScope st)) (len : ∀ vs H Q E, sp vs H Q E → vs.length = ps.length)
    (hbody : ∀ (cdv : Value) (A : Around) (outer : List Env) (s : Shared) (H : Hp) (vs : List V) (Q : VK) (E : XK), Room k (A.deeper (envOfC qual (defScope st) s.heap.objs.size f cdv)) → sp vs H Q E →
      ∃ t, PSs (cxOf CX0 P w K mg base N qual (defScope st) f cdv A outer s H E).nox (defBody st) t ∧ t { nx := fun _ H' => Q .non H', rt := Q } (start N vs) H) : FnOk P w K mg base CX0 (k + 1) f fd ps sp := by
  obtain ⟨oc, od, kV, doc, pm, an, cdv, ct, osl, rfl, lk, hcd⟩ := F.ex
  refine fn_of lk hcd S len fun A outer s H vs Q E hr hsp => ?_
  obtain ⟨t, h, q⟩ := hbody cdv A outer s H vs Q E hr hsp
  exact ⟨t, h.nox, q⟩
theorem Fun.binds {x qual : Str} {st : Stmt} {f : Addr} {fd : FuncData} {ps : List Str} (F : Fun K x qual st f fd)
    (h : ∀ (kV doc pm : Value) (an : Option Addr) (cdv ct : Value) (us : List Value), us.length = ps.length → bindArgs (PySem.W.fnOf x qual (defArgs st) (defBody st) (defScope st) .none kV doc pm an cdv ct) ⟨us, []⟩ = pure (ps.zip us)) : Binds K fd ps [] := by
  obtain ⟨oc, od, kV, doc, pm, an, cdv, ct, osl, rfl, lk, hcd⟩ := F.ex
  exact .all (h kV doc pm an cdv ct)
theorem fun_mk {x qual : Str} {st : Stmt} {f : Addr} {oc : Value} {od an : Option Addr} {osl : Array (Option Value)} {kV doc pm cdv ct : Value} (l : K.lookup f = some ⟨oc, od, .func (PySem.W.fnOf x qual (defArgs st) (defBody st) (defScope st) .none kV doc pm an cdv ct), osl⟩)
    (c : PySem.W.codeIn K cdv qual = true) (k : PySem.W.keepIn K (.ref f) = true) : Fun K x qual st f (PySem.W.fnOf x qual (defArgs st) (defBody st) (defScope st) .none kV doc pm an cdv ct) := ⟨⟨oc, od, kV, doc, pm, an, cdv, ct, osl, rfl, l, c⟩, k⟩
end
theorem small1000 {n : Nat} (h : n ≤ 1000) : n < sizeLine := Nat.lt_of_le_of_lt h (by decide)

section
variable {X : Cx}
theorem pv (i : Nat) {x : Str} {pos : Pos} (hN : X.N[i]? = some x := by rfl) (hv : Vis X.env.scope x := by first | exact Or.inl rfl | exact Or.inr (Or.inl rfl) | exact Or.inr (Or.inr rfl)) (hd : (x == ("__debug__" : Str)) = false := by decide)
    (hcd : (x == ("__classdict__" : Str)) = false := by decide) : PE X (.Name x pos) (tVar i) := pe_var hN hv hd hcd
end

theorem iteF {A B : Prop} (h : B) : if false = true then A else B := by
  rw [if_neg Bool.false_ne_true]
  exact h
theorem iteT {A B : Prop} (h : A) : if true = true then A else B := by
  rw [if_pos rfl]
  exact h
theorem ite2 {c A B : Prop} [Decidable c] (h1 : c → A) (h2 : ¬ c → B) : if c then A else B := by
  by_cases h : c
  · rw [if_pos h]
    exact h1 h
  · rw [if_neg h]
    exact h2 h
def Same (H H' : Hp) : Prop := ∀ b o, H b = some o → H' b = some o
theorem Same.refl (H : Hp) : Same H H := fun _ _ h => h
theorem Same.trans {H H1 H2 : Hp} (a : Same H H1) (b : Same H1 H2) : Same H H2 := fun c o h => b c o (a c o h)
theorem Same.free {H H' : Hp} (e : Same H H') {l : Addr} (h : H' l = Option.none) : H l = Option.none := by
  cases q : H l with
  | none => rfl
  | some o =>
    rw [e l o q] at h
    cases h
theorem Same.seq {K : PySem.W.Frag} {H H' : Hp} {a : Addr} {xs : List V} (e : Same H H') (h : SqL K H a xs) : SqL K H' a xs := by
  rcases h with (h | ⟨o, h⟩) | h
  · exact .inl (.inl (e _ _ h))
  · exact .inl (.inr ⟨o, e _ _ h⟩)
  · exact .inr h

section
variable {κ : Type} [DecidableEq κ]
end
theorem at_of {xs : List V} {z : Int} {j : Nat} {v : V} (e : z = (j : Int)) (h : xs[j]? = some v) : atI xs z = some v := by
  rw [e]
  exact atI_nat h
theorem Same.made {H H1 : Hp} {x dx C : Addr} (nx : H x = Option.none) (nd : H dx = Option.none) (k : ∀ b o, (upd (upd H dx (.own x)) x (.ins C dx [])) b = some o → b ≠ x → H1 b = some o) : Same H H1 := fun b o e =>
  k b o (by rw [upd_ne (ne_of_none e nx), upd_ne (ne_of_none e nd)]; exact e) (ne_of_none e nx)
end L2

section
set_option Elab.async false
set_option linter.all false
set_option maxRecDepth 100000
set_option maxHeartbeats 2000000
namespace L2
open PySem PySem.Spec PyProof.Rows
open PySem.W (WData Codec OpenSpec Well WellAll ReadsW ReadsAllW)
mutual
inductive Dw (K : PySem.W.Frag) (H : Hp) : V → WData → Prop
  | non : Dw K H .non .none
  | bl (b : Bool) : Dw K H (.bl b) (.bool b)
  | int (i : Int) : Dw K H (.int i) (.int i)
  | str (x : Str) : Dw K H (.str x) (.str x)
  | byt (b : Array UInt8) : Dw K H (.byt b) (.bytes b.toList)
  | lst {a : Addr} {xs : List V} {ds : List WData} : SqL K H a xs → DwAll K H xs ds → Dw K H (.ref a) (.list ds)
  | tup {a : Addr} {xs : List V} {ds : List WData} : SqT K H a xs → DwAll K H xs ds → Dw K H (.ref a) (.tuple ds)
inductive DwAll (K : PySem.W.Frag) (H : Hp) : List V → List WData → Prop
  | nil : DwAll K H [] []
  | cons {v : V} {vs : List V} {d : WData} {ds : List WData} : Dw K H v d → DwAll K H vs ds → DwAll K H (v :: vs) (d :: ds)
end
theorem dw_ints {K : PySem.W.Frag} {H : Hp} : ∀ ns : List Int, DwAll K H (ns.map V.int) (ns.map WData.int)
  | [] => .nil
  | n :: r => .cons (.int n) (dw_ints r)
theorem ints_dw {K : PySem.W.Frag} {H : Hp} : ∀ (ns : List Int) (xs : List V), DwAll K H xs (ns.map WData.int) → xs = ns.map V.int
  | [], xs, h => by
    cases h
    rfl
  | n :: r, xs, h => by
    cases h with
    | cons h1 h2 =>
      cases h1
      rw [ints_dw r _ h2] <;> rfl
section
variable {P : Program} {w : World} {K : PySem.W.Frag} {H : Hp} {h : Heap} {R : PySem.W.WRecords} {cl : Str → Option Addr}
theorem sqL_at {a : Addr} {xs : List V} (hok : HOk P w H h) (KX : K.In h) (q : SqL K H a xs) : ∃ (its : List Value) (o : Obj) (n : Nat), Vals xs its ∧ h.get? a = some o ∧ o.cls = .type "list" ∧ o.data = .seq its.toArray n := by
  rcases q with q | ⟨o, its, n, e, hc, _, hd, _, hv⟩
  · obtain ⟨_, its, n, hv, e⟩ := (show ObjOk P w H h a (.lst xs) from q.ok hok)
    exact ⟨its, _, n, hv, e, rfl, rfl⟩
  · exact ⟨its.toList, o, n, hv, KX _ _ e, hc, by simp [hd]⟩
theorem sqT_at {a : Addr} {xs : List V} (hok : HOk P w H h) (KX : K.In h) (q : SqT K H a xs) : ∃ (its : List Value) (o : Obj) (n : Nat), Vals xs its ∧ h.get? a = some o ∧ o.cls = .type "tuple" ∧ o.data = .seq its.toArray n := by
  rcases q with q | ⟨o, its, n, e, hc, hd, _, hv⟩
  · obtain ⟨_, its, hv, o, e, hc, n, hd⟩ := (show ObjOk P w H h a (.tup xs) from q.ok hok)
    exact ⟨its, o, n, hv, e, hc, hd⟩
  · exact ⟨its.toList, o, n, hv, KX _ _ e, hc, by simp [hd]⟩
mutual
theorem Dw.reads (hok : HOk P w H h) (KX : K.In h) : ∀ (d : WData) (v : V) (u : Value), Dw K H v d → RelV v u → ∃ as, ReadsW R cl h u d as
  | .none, _, _, x, r => by
    cases x
    cases r
    exact ⟨_, ReadsW.none⟩
  | .bool b, _, _, x, r => by
    cases x
    cases r
    exact ⟨_, ReadsW.bool b⟩
  | .int i, _, _, x, r => by
    cases x
    obtain ⟨t, rfl⟩ := r
    exact ⟨_, ReadsW.int i t⟩
  | .str s, _, _, x, r => by
    cases x
    obtain ⟨t, rfl⟩ := r
    exact ⟨_, ReadsW.str s t⟩
  | .bytes b, _, _, x, r => by
    cases x
    obtain ⟨t, rfl⟩ := r
    exact ⟨_, ReadsW.bytes _ t⟩
  | .list ds, _, _, x, r => by
    cases x with
    | lst hs ha =>
      cases r
      obtain ⟨its, o, n, rv, ho, hc, hd⟩ := sqL_at hok KX hs
      obtain ⟨as, hr⟩ := Dw.readsAll hok KX ds _ its ha rv
      exact ⟨_, ReadsW.list ho hc hd hr⟩
  | .tuple ds, _, _, x, r => by
    cases x with
    | tup hs ha =>
      cases r
      obtain ⟨its, o, n, rv, ho, hc, hd⟩ := sqT_at hok KX hs
      obtain ⟨as, hr⟩ := Dw.readsAll hok KX ds _ its ha rv
      exact ⟨_, ReadsW.tuple ho hc hd hr⟩
  | .float _, _, _, x, _ => by cases x
  | .dict _, _, _, x, _ => by cases x
  | .bytearray _, _, _, x, _ => by cases x
  | .set _, _, _, x, _ => by cases x
  | .frozenset _, _, _, x, _ => by cases x
  | .obj _ _, _, _, x, _ => by cases x
theorem Dw.readsAll (hok : HOk P w H h) (KX : K.In h) : ∀ (ds : List WData) (vs : List V) (us : List Value), DwAll K H vs ds → Vals vs us → ∃ as, ReadsAllW R cl h us ds as
  | [], _, _, x, r => by
    cases x
    cases r
    exact ⟨_, ReadsAllW.nil⟩
  | d :: ds, _, _, x, r => by
    cases x with
    | cons h1 h2 =>
      cases r with
      | cons r1 r2 =>
        obtain ⟨as, q1⟩ := Dw.reads hok KX d _ _ h1 r1
        obtain ⟨bs, q2⟩ := Dw.readsAll hok KX ds _ _ h2 r2
        exact ⟨_, ReadsAllW.cons q1 q2⟩
end
end
mutual
def plW : WData → Bool
  | .none => true
  | .bool _ => true
  | .int _ => true
  | .str _ => true
  | .bytes _ => true
  | .list xs => plWs xs
  | .tuple xs => plWs xs
  | _ => false
def plWs : List WData → Bool
  | [] => true
  | x :: r => plW x && plWs r
end
theorem plWs_map {α : Type} {f : α → WData} (h : ∀ a, plW (f a) = true) : ∀ l : List α, plWs (l.map f) = true
  | [] => rfl
  | x :: r => by
    show (plW (f x) && plWs (r.map f)) = true
    rw [h x, plWs_map h r] <;> rfl
theorem pl_enc : ∀ (c : Codec) (a : c.denote), plW (c.enc a) = true
  | .unit, _ => rfl
  | .bool, _ => rfl
  | .int _ _, _ => rfl
  | .nat _ _, _ => rfl
  | .u8, _ => rfl
  | .bytes _ _, _ => rfl
  | .text _ _ _ _, _ => rfl
  | .list _ _ c, a => plWs_map (fun x => pl_enc c x) a
  | .pair c d, a => by
    show (plW (c.enc a.1) && (plW (d.enc a.2) && true)) = true
    rw [pl_enc c a.1, pl_enc d a.2] <;> rfl
  | .triple c d e, a => by
    show (plW (c.enc a.1) && (plW (d.enc a.2.1) && (plW (e.enc a.2.2) && true))) = true
    rw [pl_enc c a.1, pl_enc d a.2.1, pl_enc e a.2.2] <;> rfl
  | .option c, none => rfl
  | .option c, some x => pl_enc c x
theorem pl_encAll : ∀ (cs : List Codec) (a : Codec.denoteAll cs), plWs (Codec.encAll cs a) = true
  | [], _ => rfl
  | c :: cs, a => by
    show (plW (c.enc a.1) && plWs (Codec.encAll cs a.2)) = true
    rw [pl_enc c a.1, pl_encAll cs a.2] <;> rfl
theorem weight_mem : ∀ {xs : List WData} {d : WData}, d ∈ xs → d.weight ≤ WData.weightAll xs
  | [], d, h => absurd h (by simp)
  | x :: r, d, h => by
    show d.weight ≤ x.weight + 1 + WData.weightAll r
    rcases List.mem_cons.mp h with e | m
    · rw [e]
      omega
    · have z := weight_mem m
      omega
def toV : Value → V
  | .none => .non
  | .bool b => .bl b
  | .int i _ => .int i
  | .str x _ => .str x
  | .bytes b _ => .byt b
  | .ref a => .ref a
  | _ => .non
def OkU (A : List Addr) : Value → Prop
  | .none => True
  | .bool _ => True
  | .int _ _ => True
  | .str _ _ => True
  | .bytes _ _ => True
  | .ref a => a ∈ A
  | _ => False
theorem OkU.mono {A B : List Addr} (h : ∀ a ∈ A, a ∈ B) : ∀ {u : Value}, OkU A u → OkU B u := fun {u} x => by
  cases u with
  | ref a => exact h a x
  | none => trivial
  | bool b => trivial
  | int i t => trivial
  | str s t => trivial
  | bytes b t => trivial
  | _ => exact False.elim x
theorem relV_toV {A : List Addr} {u : Value} (x : OkU A u) : RelV (toV u) u := by
  cases u with
  | ref a => rfl
  | none => rfl
  | bool b => rfl
  | int i t => exact ⟨t, rfl⟩
  | str s t => exact ⟨t, rfl⟩
  | bytes b t => exact ⟨t, rfl⟩
  | _ => exact False.elim x
theorem vals_toV {A : List Addr} : ∀ {vs : List Value}, (∀ u ∈ vs, OkU A u) → Vals (vs.map toV) vs
  | [], _ => .nil
  | u :: r, h => .cons (relV_toV (h u (List.mem_cons_self ..))) (vals_toV fun x hx => h x (List.mem_cons_of_mem _ hx))
def ArgOb (h : Heap) (A : List Addr) (a : Addr) : Prop := ∃ vs : List Value, vs.length ≤ sizeLine ∧ (∀ u ∈ vs, OkU A u) ∧
  (h.get? a = some { cls := .type "list", data := .seq vs.toArray } ∨ h.get? a = some { cls := .type "tuple", data := .seq vs.toArray })
theorem ArgOb.mono {h : Heap} {A B : List Addr} {a : Addr} (k : ∀ a ∈ A, a ∈ B) (x : ArgOb h A a) : ArgOb h B a := by
  obtain ⟨vs, h1, h2, h3⟩ := x
  exact ⟨vs, h1, fun u hu => (h2 u hu).mono k, h3⟩
theorem wellAll_len {P : Params} {h : Heap} : ∀ {vs : List Value} {ds : List WData}, WellAll P h vs ds → vs.length = ds.length
  | _, _, .nil => rfl
  | _, _, .cons _ b => by
    show _ + 1 = _ + 1
    rw [wellAll_len b]
theorem well_list {P : Params} {h : Heap} {v : Value} {ds : List WData} (x : Well P h v (.list ds)) : ∃ (a : Addr) (vs : List Value), v = .ref a ∧ h.get? a = some { cls := .type "list", data := .seq vs.toArray } ∧ WellAll P h vs ds := by
  cases x with
  | list ho hall => exact ⟨_, _, rfl, ho, hall⟩
theorem well_tuple {P : Params} {h : Heap} {v : Value} {ds : List WData} (x : Well P h v (.tuple ds)) : ∃ (a : Addr) (vs : List Value), v = .ref a ∧ h.get? a = some { cls := .type "tuple", data := .seq vs.toArray } ∧ WellAll P h vs ds := by
  cases x with
  | tuple ho hall => exact ⟨_, _, rfl, ho, hall⟩
theorem well_cons {P : Params} {h : Heap} {us : List Value} {d : WData} {ds : List WData} (x : WellAll P h us (d :: ds)) : ∃ (v : Value) (vs : List Value), us = v :: vs ∧ Well P h v d ∧ WellAll P h vs ds := by
  cases x with
  | cons a b => exact ⟨_, _, rfl, a, b⟩
theorem line_of {n : Nat} (h : n ≤ 1048576) : n ≤ sizeLine := Nat.le_trans h (by decide)
section
variable {P : Params} {h : Heap}
mutual
theorem area_one : ∀ (d : WData) (v : Value), Well P h v d → plW d = true → d.weight ≤ 1048576 → ∃ A : List Addr, OkU A v ∧ ∀ a ∈ A, ArgOb h A a
  | .none, _, x, _, _ => by
    cases x
    exact ⟨[], trivial, fun a m => absurd m (by simp)⟩
  | .bool b, _, x, _, _ => by
    cases x
    exact ⟨[], trivial, fun a m => absurd m (by simp)⟩
  | .int i, _, x, _, _ => by
    cases x
    exact ⟨[], trivial, fun a m => absurd m (by simp)⟩
  | .str s, _, x, _, _ => by
    cases x
    exact ⟨[], trivial, fun a m => absurd m (by simp)⟩
  | .bytes b, _, x, _, _ => by
    cases x
    exact ⟨[], trivial, fun a m => absurd m (by simp)⟩
  | .list ds, _, x, p, z => by
    obtain ⟨a, vs, rfl, ho, hall⟩ := well_list x
    have z2 : WData.weightAll ds ≤ 1048576 := z
    obtain ⟨A, h1, h2⟩ := area_all ds _ hall p fun d hd => Nat.le_trans (weight_mem hd) z2
    have k : ∀ b ∈ A, b ∈ a :: A := fun b hb => List.mem_cons_of_mem _ hb
    refine ⟨a :: A, List.mem_cons_self .., fun b hb => ?_⟩
    rcases List.mem_cons.mp hb with e | m
    · rw [e]
      exact ⟨vs, line_of (by rw [wellAll_len hall]; exact Nat.le_trans (PySem.W.length_le_weightAllW ds) z2), fun u hu => (h1 u hu).mono k, .inl ho⟩
    · exact (h2 b m).mono k
  | .tuple ds, _, x, p, z => by
    obtain ⟨a, vs, rfl, ho, hall⟩ := well_tuple x
    have z2 : WData.weightAll ds ≤ 1048576 := z
    obtain ⟨A, h1, h2⟩ := area_all ds _ hall p fun d hd => Nat.le_trans (weight_mem hd) z2
    have k : ∀ b ∈ A, b ∈ a :: A := fun b hb => List.mem_cons_of_mem _ hb
    refine ⟨a :: A, List.mem_cons_self .., fun b hb => ?_⟩
    rcases List.mem_cons.mp hb with e | m
    · rw [e]
      exact ⟨vs, line_of (by rw [wellAll_len hall]; exact Nat.le_trans (PySem.W.length_le_weightAllW ds) z2), fun u hu => (h1 u hu).mono k, .inr ho⟩
    · exact (h2 b m).mono k
  | .float _, _, _, p, _ => Bool.noConfusion (show false = true from p)
  | .dict _, _, _, p, _ => Bool.noConfusion (show false = true from p)
  | .bytearray _, _, _, p, _ => Bool.noConfusion (show false = true from p)
  | .set _, _, _, p, _ => Bool.noConfusion (show false = true from p)
  | .frozenset _, _, _, p, _ => Bool.noConfusion (show false = true from p)
  | .obj _ _, _, _, p, _ => Bool.noConfusion (show false = true from p)
theorem area_all : ∀ (ds : List WData) (vs : List Value), WellAll P h vs ds → plWs ds = true → (∀ d ∈ ds, d.weight ≤ 1048576) → ∃ A : List Addr, (∀ u ∈ vs, OkU A u) ∧ ∀ a ∈ A, ArgOb h A a
  | [], _, x, _, _ => by
    cases x
    exact ⟨[], fun u m => absurd m (by simp), fun a m => absurd m (by simp)⟩
  | d :: ds, _, x, p, z => by
    obtain ⟨v, vs, rfl, x1, x2⟩ := well_cons x
    have q : plW d = true ∧ plWs ds = true := Bool.and_eq_true_iff.mp p
    obtain ⟨A, a1, a2⟩ := area_one d v x1 q.1 (z d (List.mem_cons_self ..))
    obtain ⟨B, b1, b2⟩ := area_all ds vs x2 q.2 fun e he => z e (List.mem_cons_of_mem _ he)
    have kA : ∀ b ∈ A, b ∈ A ++ B := fun b hb => List.mem_append.mpr (.inl hb)
    have kB : ∀ b ∈ B, b ∈ A ++ B := fun b hb => List.mem_append.mpr (.inr hb)
    refine ⟨A ++ B, fun u hu => ?_, fun b hb => ?_⟩
    · rcases List.mem_cons.mp hu with e | m
      · rw [e]
        exact a1.mono kA
      · exact (b1 u m).mono kB
    · rcases List.mem_append.mp hb with m | m
      · exact (a2 b m).mono kA
      · exact (b2 b m).mono kB
end
end
def hoOf (o : Obj) : Option HO := match o.data with
  | .seq vs _ => if (o.cls == Value.type "list") = true then some (.frz o (.lst (vs.toList.map toV))) else some (.frz o (.tup (vs.toList.map toV)))
  | _ => none
def argH (K : PySem.W.Frag) (h : Heap) (A : List Addr) : Hp := fun b => if b ∈ A then (if (K.lookup b).isNone = true then (h.get? b).bind hoOf else none) else none
def OnlyF (H : Hp) : Prop := ∀ b, H b = none ∨ ∃ o u, H b = some (.frz o u)
theorem hoOf_lst (vs : List Value) : hoOf { cls := .type "list", data := .seq vs.toArray } = some (.frz { cls := .type "list", data := .seq vs.toArray } (.lst (vs.map toV))) := by
  show (if (Value.type "list" == Value.type "list") = true then some (HO.frz { cls := .type "list", data := .seq vs.toArray } (.lst (vs.toArray.toList.map toV))) else some (HO.frz { cls := .type "list", data := .seq vs.toArray } (.tup (vs.toArray.toList.map toV)))) = _
  rw [if_pos (beq_self_eq_true _)]
theorem hoOf_tup (vs : List Value) : hoOf { cls := .type "tuple", data := .seq vs.toArray } = some (.frz { cls := .type "tuple", data := .seq vs.toArray } (.tup (vs.map toV))) := by
  show (if (Value.type "tuple" == Value.type "list") = true then some (HO.frz { cls := .type "tuple", data := .seq vs.toArray } (.lst (vs.toArray.toList.map toV))) else some (HO.frz { cls := .type "tuple", data := .seq vs.toArray } (.tup (vs.toArray.toList.map toV)))) = _
  rw [if_neg (by decide)]
section
variable {P : Program} {w : World} {K : PySem.W.Frag} {h : Heap} {A : List Addr}
theorem argH_at {b : Addr} {o : Obj} (hb : b ∈ A) (hk : K.lookup b = none) (e : h.get? b = some o) : argH K h A b = hoOf o := by
  unfold argH
  rw [if_pos hb, hk, if_pos (show (none : Option Obj).isNone = true from rfl), e] <;> rfl
theorem of_argH {b : Addr} {u : HO} (q : argH K h A b = some u) : b ∈ A ∧ K.lookup b = none := by
  unfold argH at q
  by_cases hb : b ∈ A
  · rw [if_pos hb] at q
    cases hk : K.lookup b with
    | none => exact ⟨hb, rfl⟩
    | some o =>
      rw [hk, if_neg (by simp)] at q
      cases q
  · rw [if_neg hb] at q
    cases q
theorem argH_is (ar : ∀ a ∈ A, ArgOb h A a) {b : Addr} {u : HO} (q : argH K h A b = some u) : K.lookup b = none ∧ ∃ vs : List Value, vs.length ≤ sizeLine ∧ (∀ u ∈ vs, OkU A u) ∧
    ((h.get? b = some { cls := .type "list", data := .seq vs.toArray } ∧ u = .frz { cls := .type "list", data := .seq vs.toArray } (.lst (vs.map toV))) ∨
     (h.get? b = some { cls := .type "tuple", data := .seq vs.toArray } ∧ u = .frz { cls := .type "tuple", data := .seq vs.toArray } (.tup (vs.map toV)))) := by
  obtain ⟨hb, hk⟩ := of_argH q
  obtain ⟨vs, h1, h2, h3⟩ := ar b hb
  refine ⟨hk, vs, h1, h2, ?_⟩
  rcases h3 with e | e
  · rw [argH_at hb hk e, hoOf_lst] at q
    exact .inl ⟨e, (Option.some.inj q).symm⟩
  · rw [argH_at hb hk e, hoOf_tup] at q
    exact .inr ⟨e, (Option.some.inj q).symm⟩
theorem argH_only (ar : ∀ a ∈ A, ArgOb h A a) : OnlyF (argH K h A) := fun b => by
  cases q : argH K h A b with
  | none => exact .inl rfl
  | some u =>
    obtain ⟨_, vs, _, _, ⟨_, e⟩ | ⟨_, e⟩⟩ := argH_is ar q
    · exact .inr ⟨_, _, by rw [e]⟩
    · exact .inr ⟨_, _, by rw [e]⟩
theorem argH_ok (ar : ∀ a ∈ A, ArgOb h A a) : HOk P w (argH K h A) h := fun b u q => by
  obtain ⟨_, vs, h1, h2, ⟨e, rfl⟩ | ⟨e, rfl⟩⟩ := argH_is ar q
  · exact ⟨e, by rw [List.length_map]; exact h1, vs, _, vals_toV h2, e⟩
  · exact ⟨e, by rw [List.length_map]; exact h1, vs, vals_toV h2, _, e, rfl, _, rfl⟩
theorem seq_inj {c c' : Value} {vs us : List Value} (e : (some { cls := c, data := .seq vs.toArray } : Option Obj) = some { cls := c', data := .seq us.toArray }) : c = c' ∧ vs = us := by
  have e1 := Option.some.inj e
  have e2 : c = c' := congrArg Obj.cls e1
  have e3 : Data.seq vs.toArray = Data.seq us.toArray := congrArg Obj.data e1
  injection e3 with e4
  refine ⟨e2, ?_⟩
  have e5 := congrArg Array.toList e4
  simpa using e5
theorem argL (KX : K.In h) (ar : ∀ a ∈ A, ArgOb h A a) {a : Addr} {vs : List Value} (ha : a ∈ A) (e : h.get? a = some { cls := .type "list", data := .seq vs.toArray }) : (∀ u ∈ vs, OkU A u) ∧ SqL K (argH K h A) a (vs.map toV) := by
  obtain ⟨us, h1, h2, h3⟩ := ar a ha
  have hu : us = vs := by
    rcases h3 with q | q
    · rw [e] at q
      exact (seq_inj q).2.symm
    · rw [e] at q
      exact absurd (Value.type.inj (seq_inj q).1) (by decide)
  subst hu
  refine ⟨h2, ?_⟩
  cases hk : K.lookup a with
  | none => exact .inl (.inr ⟨_, by rw [argH_at ha hk e, hoOf_lst]⟩)
  | some o =>
    have e2 := KX a o hk
    rw [e] at e2
    obtain rfl := Option.some.inj e2
    exact .inr ⟨_, us.toArray, _, hk, rfl, rfl, rfl, by rw [List.size_toArray]; exact h1, by simpa using vals_toV h2⟩
theorem argT (KX : K.In h) (ar : ∀ a ∈ A, ArgOb h A a) {a : Addr} {vs : List Value} (ha : a ∈ A) (e : h.get? a = some { cls := .type "tuple", data := .seq vs.toArray }) : (∀ u ∈ vs, OkU A u) ∧ SqT K (argH K h A) a (vs.map toV) := by
  obtain ⟨us, h1, h2, h3⟩ := ar a ha
  have hu : us = vs := by
    rcases h3 with q | q
    · rw [e] at q
      exact absurd (Value.type.inj (seq_inj q).1) (by decide)
    · rw [e] at q
      exact (seq_inj q).2.symm
  subst hu
  refine ⟨h2, ?_⟩
  cases hk : K.lookup a with
  | none => exact .inl (.inr ⟨_, by rw [argH_at ha hk e, hoOf_tup]⟩)
  | some o =>
    have e2 := KX a o hk
    rw [e] at e2
    obtain rfl := Option.some.inj e2
    exact .inr ⟨_, us.toArray, _, hk, rfl, rfl, by rw [List.size_toArray]; exact h1, by simpa using vals_toV h2⟩
mutual
theorem dw_one {Pm : Params} (KX : K.In h) (ar : ∀ a ∈ A, ArgOb h A a) : ∀ (d : WData) (v : Value), Well Pm h v d → plW d = true → OkU A v → Dw K (argH K h A) (toV v) d
  | .none, _, x, _, _ => by
    cases x
    exact .non
  | .bool b, _, x, _, _ => by
    cases x
    exact .bl b
  | .int i, _, x, _, _ => by
    cases x
    exact .int i
  | .str s, _, x, _, _ => by
    cases x
    exact .str s
  | .bytes b, _, x, _, _ => by
    cases x
    have z := Dw.byt (K := K) (H := argH K h A) b.toArray
    exact z
  | .list ds, _, x, p, hu => by
    obtain ⟨a, vs, rfl, ho, hall⟩ := well_list x
    obtain ⟨h2, hs⟩ := argL KX ar hu ho
    exact .lst hs (dw_all KX ar ds _ hall p h2)
  | .tuple ds, _, x, p, hu => by
    obtain ⟨a, vs, rfl, ho, hall⟩ := well_tuple x
    obtain ⟨h2, hs⟩ := argT KX ar hu ho
    exact .tup hs (dw_all KX ar ds _ hall p h2)
  | .float _, _, _, p, _ => Bool.noConfusion (show false = true from p)
  | .dict _, _, _, p, _ => Bool.noConfusion (show false = true from p)
  | .bytearray _, _, _, p, _ => Bool.noConfusion (show false = true from p)
  | .set _, _, _, p, _ => Bool.noConfusion (show false = true from p)
  | .frozenset _, _, _, p, _ => Bool.noConfusion (show false = true from p)
  | .obj _ _, _, _, p, _ => Bool.noConfusion (show false = true from p)
theorem dw_all {Pm : Params} (KX : K.In h) (ar : ∀ a ∈ A, ArgOb h A a) : ∀ (ds : List WData) (vs : List Value), WellAll Pm h vs ds → plWs ds = true → (∀ u ∈ vs, OkU A u) → DwAll K (argH K h A) (vs.map toV) ds
  | [], _, x, _, _ => by
    cases x
    exact .nil
  | d :: ds, _, x, p, hu => by
    obtain ⟨v, vs, rfl, x1, x2⟩ := well_cons x
    have q : plW d = true ∧ plWs ds = true := Bool.and_eq_true_iff.mp p
    exact .cons (dw_one KX ar d v x1 q.1 (hu _ (List.mem_cons_self ..))) (dw_all KX ar ds vs x2 q.2 fun u m => hu u (List.mem_cons_of_mem _ m))
end
end
theorem spec_call {P : Program} {w : World} {K : PySem.W.Frag} {mg mb : Str → Option Value} {CX : CXT} {k : Nat} {fa : Addr} {fd : FuncData} {ps : List Str} {sp : Sp} {s₁ : Shared} {vals : List Value} {ds : List WData} {R : PySem.W.WRecords} {cl : Str → Option Addr} {d0 : WData}
    (KX : K.In s₁.heap) (hns : s₁.heap.Ns mainGlobals mg) (hb : s₁.heap.Ns builtinsNs mb) (hbb : ∀ x : Str, x ≠ "__name__" → mb x = bootBuiltins x) (hlim : s₁.heap.NoLimit) (hg : s₁.gens = #[])
    (hwl : WellAll w.params s₁.heap vals ds) (hpl : plWs ds = true) (hwt : ∀ d ∈ ds, d.weight ≤ 1048576) (hr : Room k callerA)
    (F : ∀ base : Heap, K.In base → base.Ns mainGlobals mg → FnOk P w K mg base CX k fa fd ps sp) (hbind : ∀ (s : Shared) (us : List Value), us.length = ps.length → BindsTo s fd ⟨us, []⟩ (ps.zip us)) (hlen : ds.length = ps.length)
    (hsp : ∀ (H : Hp) (xs : List V), OnlyF H → DwAll K H xs ds → sp xs H (fun v H' => Dw K H' v d0) fun _ _ _ => False)
    (hCX : ∀ H e s', CX [] H s₁ (fun _ _ _ => False) e s' → False) :
    codeAny (model P w) callerA (.call (.ref fa) ⟨vals, []⟩) (fun r s' => ∃ u as, r = .ok (.ret u) ∧ ReadsW R cl s'.heap u d0 as ∧ OldK s₁.heap s'.heap ∧ s'.os = s₁.os ∧ AllBare s'.gens) s₁ := by
  obtain ⟨A, ho, ar⟩ := area_all ds vals hwl hpl hwt
  have hO : OnlyF (argH K s₁.heap A) := argH_only ar
  have hok : HOk P w (argH K s₁.heap A) s₁.heap := argH_ok ar
  have hS := dw_all KX ar ds vals hwl hpl ho
  have hV := vals_toV ho
  have hK : ∀ b u, argH K s₁.heap A b = some u → K.lookup b = none := fun b u q => (argH_is ar q).1
  have noA : ∀ {b : Addr} {o : Obj} {es : Array DictEntry} {ep : Nat}, s₁.heap.get? b = some o → o.data = .dict es ep → argH K s₁.heap A b = none := fun {b o es ep} e d => by
    cases q : argH K s₁.heap A b with
    | none => rfl
    | some u =>
      obtain ⟨_, vs, _, _, ⟨e2, _⟩ | ⟨e2, _⟩⟩ := argH_is ar q
      · rw [e2] at e
        cases e
        have d' : Data.seq vs.toArray _ = Data.dict es ep := d
        cases d'
      · rw [e2] at e
        cases e
        have d' : Data.seq vs.toArray _ = Data.dict es ep := d
        cases d'
  generalize argH K s₁.heap A = H at hO hok hS hK noA
  have base_of : ∀ {b : Addr} {o : Obj}, s₁.heap.get? b = some o → H b = none → (hidT s₁.heap H).get? b = some o := fun e n => hidT_get e n
  have nsK : ∀ {b : Addr} {m : Str → Option Value}, s₁.heap.Ns b m → (hidT s₁.heap H).Ns b m := fun {b m} ⟨o, es, ep, e, d, r⟩ => ⟨o, es, ep, base_of e (noA e d), d, r⟩
  have nK : ∀ b o, K.lookup b = some o → H b = none := fun b o e => by
    cases q : H b with
    | none => rfl
    | some u =>
      rw [hK b u q] at e
      cases e
  have hKb : K.In (hidT s₁.heap H) := fun b o e => base_of (KX b o e) (nK b o e)
  have hM : Mod K mg (hidT s₁.heap H) := ⟨hKb, nsK hns, ⟨mb, nsK hb, hbb⟩, let ⟨mc, h1, h2⟩ := hlim; ⟨mc, nsK h1, h2⟩⟩
  have e0 : Env0 P w K mg (hidT s₁.heap H) callerA [] s₁ H := ⟨rfl, hM, fun b o e => of_hidT e, Nat.le_of_eq (hidT_size _ _), trivial, fun b hb => absurd (show b ∈ ([] : List Addr) from hb) (by simp), hok, .of_eq hg⟩
  have hl : vals.length = ps.length := by rw [wellAll_len hwl]; exact hlen
  refine codeAny_mono ((F _ hKb (nsK hns)).run callerA [] s₁ H ⟨vals, []⟩ vals (vals.map toV) _ _ hr e0 (hbind s₁ vals hl) hV (hsp H _ hO hS)) fun r s' x => ?_
  cases r with
  | error e => exact (hCX H e s' x).elim
  | ok fl =>
    cases fl with
    | next => exact False.elim x
    | brk => exact False.elim x
    | cont => exact False.elim x
    | ret u =>
      obtain ⟨v, H', os, bare, un, hok', r', q⟩ := x
      have kept : ∀ b o, s₁.heap.get? b = some o → s'.heap.get? b = some o := fun b o e => by
        cases q2 : H b with
        | none => exact un.keep b o e q2 (by intro z; exact absurd (show b ∈ ([] : List Addr) from z) (by simp)) (by simp)
        | some u2 =>
          rcases hO b with z | ⟨ob, u3, z⟩
          · rw [q2] at z
            cases z
          · have z2 := un.frzs b ob _ z
            obtain ⟨e1, _⟩ := hok b _ z
            obtain ⟨e2, _⟩ := hok' b _ z2
            rw [e] at e1
            cases e1
            exact e2
      have KX' : K.In s'.heap := fun b o e => kept b o (KX b o e)
      obtain ⟨as, hrd⟩ := Dw.reads (R := R) (cl := cl) hok' KX' d0 v u q r'
      exact ⟨u, as, rfl, hrd, OldK.of_keep kept, os, bare⟩
theorem layable_weight {ds : List WData} (h : WData.layableAll ds = true) : ∀ d ∈ ds, d.weight ≤ 1048576 := fun d hd =>
  (PySem.W.layableW_iff.mp (List.all_eq_true.mp h d hd)).2.2
theorem encAll_len : ∀ (cs : List Codec) (a : Codec.denoteAll cs), (Codec.encAll cs a).length = cs.length
  | [], _ => rfl
  | c :: cs, a => by
    show (Codec.encAll cs a.2).length + 1 = cs.length + 1
    rw [encAll_len cs a.2]
theorem walk_spec {r : OpenSpec} {k : Nat} {q : Program} {loose : List Str} {XP : (Str → Option Value) → Heap → Prop} {YP : World → Heap → Prop} {d : DefRec} {K : Params → PySem.W.Frag} {CX : World → CXT} {ps : List Str} {sp : World → Sp}
    (hwell : r.wellSaid = true) (hdf : d.params.defaults = []) (hlen : r.args.length = ps.length) (hr : Room k callerA)
    (hY : ∀ (w : World) (h : Heap), YP w h → (K w.params).In h)
    (F : ∀ (w : World) (mg : Str → Option Value) (fa : Addr) (h : Heap), YP w h → (K w.params).In h → h.Ns mainGlobals mg → mg d.name = some (.ref fa) →
      ∃ fd : FuncData, (∀ (s : Shared) (us : List Value), us.length = ps.length → BindsTo s fd ⟨us, []⟩ (ps.zip us)) ∧
        ∀ base : Heap, (K w.params).In base → base.Ns mainGlobals mg → FnOk r.prog w (K w.params) mg base (CX w) k fa fd ps (sp w))
    (hsp : ∀ (w : World) (H : Hp) (xs : List V) (a : Codec.denoteAll r.args), OnlyF H → Codec.withinAll r.args a = true → Codec.app r.args r.asked a = true → DwAll (K w.params) H xs (Codec.encAll r.args a) →
      sp w xs H (fun v H' => Dw (K w.params) H' v (r.ret.enc (Codec.app r.args r.f a))) fun _ _ _ => False)
    (hCX : ∀ (w : World) (H : Hp) (s : Shared) (e : Value) (s' : Shared), CX w [] H s (fun _ _ _ => False) e s' → False) :
    PySem.W.WalkOS q loose XP YP r d [] (fun f vs => PySem.call f vs) := by
  intro w s_0 s₁ mg mb G Y fa o pm cd doc dV kV ho hd hcd hD hmg hg args vals as hpre hlay hrd hwl hlo
  obtain ⟨a, e1, e2⟩ := PySem.W.os_pre_some hpre
  obtain ⟨e3, hwi⟩ := Codec.encAll_of_decAll r.args args a e1
  subst e3
  have KX := hY w _ Y
  obtain ⟨fd, hb, hF⟩ := F w mg fa _ Y KX G.T.g hmg
  refine PySem.W.enter_call (codeAny_mono (spec_call (R := []) (cl := classAt s_0.heap) (d0 := r.ret.enc (Codec.app r.args r.f a)) KX G.T.g G.T.b G.T.builtins G.T.nolimit hg hwl (pl_encAll _ _) (layable_weight hlay) hr hF hb (by rw [encAll_len]; exact hlen)
    (fun H xs hO hS => hsp w H xs a hO hwi e2 hS) fun H e s' => hCX w H s₁ e s') fun r' s' hq => ?_)
  obtain ⟨u, as', rfl, h1, h2, h3, h4⟩ := hq
  exact ⟨.inl ⟨u, _, as', rfl, fun _ => rfl, h1, (OpenSpec.post_iff hwell hwi _ _).mpr rfl, fun z => Bool.noConfusion (show false = true from z)⟩, h2, h3, h4⟩
theorem walk_specK {r : OpenSpec} {k : Nat} {q : Program} {loose : List Str} {XP : (Str → Option Value) → Heap → Prop} {YP : World → Heap → Prop} {d : DefRec} {K : Params → PySem.W.Frag} {CX : CXT} {ps : List Str} {sp : PySem.W.Frag → Sp}
    (hwell : r.wellSaid = true) (hdf : d.params.defaults = []) (hlen : r.args.length = ps.length) (hr : Room k callerA)
    (hY : ∀ (w : World) (h : Heap), YP w h → (K w.params).In h)
    (F : ∀ (w : World) (mg : Str → Option Value) (fa : Addr) (h : Heap), YP w h → (K w.params).In h → h.Ns mainGlobals mg → mg d.name = some (.ref fa) →
      ∃ fd : FuncData, (∀ (s : Shared) (us : List Value), us.length = ps.length → BindsTo s fd ⟨us, []⟩ (ps.zip us)) ∧
        ∀ base : Heap, (K w.params).In base → base.Ns mainGlobals mg → FnOk r.prog w (K w.params) mg base CX k fa fd ps (sp (K w.params)))
    (hsp : ∀ (K : PySem.W.Frag) (H : Hp) (xs : List V) (a : Codec.denoteAll r.args), OnlyF H → Codec.withinAll r.args a = true → Codec.app r.args r.asked a = true → DwAll K H xs (Codec.encAll r.args a) →
      sp K xs H (fun v H' => Dw K H' v (r.ret.enc (Codec.app r.args r.f a))) fun _ _ _ => False)
    (hCX : ∀ (H : Hp) (s : Shared) (e : Value) (s' : Shared), CX [] H s (fun _ _ _ => False) e s' → False) :
    PySem.W.WalkOS q loose XP YP r d [] (fun f vs => PySem.call f vs) :=
  walk_spec (K := K) (CX := fun _ => CX) (sp := fun w => sp (K w.params)) hwell hdf hlen hr hY F (fun w H xs a h1 h2 h3 h4 => hsp (K w.params) H xs a h1 h2 h3 h4) fun _ H s e s' => hCX H s e s'
end L2
end
end
section
set_option Elab.async false
set_option linter.all false
set_option maxRecDepth 100000
/-! The mathematics of the round way: what the program's loops reckon is what the specification says. -/
namespace Rw
open Kp280 (Triple)
/-- the nearer by its square, of like ones the one at hand -/
def near (n z m : Nat) : Nat := if Kp279.gap (m * m) n < Kp279.gap (z * z) n then m else z
/-- what nearest_by_square gives of a list -/
def nearest (n : Nat) : List Nat → Nat
  | [] => 0
  | a :: r => (a :: r).foldl (near n) a
theorem near_self (n a : Nat) : near n a a = a := by unfold near; split <;> rfl
theorem nearest_cons (n a : Nat) (r : List Nat) : nearest n (a :: r) = r.foldl (near n) a := by
  show (a :: r).foldl (near n) a = _
  rw [List.foldl_cons, near_self]
/-- the numbers 1 to k -/
def ups (k : Nat) : List Nat := (List.range (k + 1)).drop 1
theorem ups_eq (k : Nat) : ups k = (List.range k).map (· + 1) := by
  unfold ups
  rw [List.range_succ_eq_map, List.drop_one, List.tail_cons]
/-- those that fit -/
def fitting (n : Nat) (t : Triple) : List Nat := (ups (2 * n)).filter (Kp280.fits t)
theorem fold_pos (n : Nat) (p : Nat → Bool) : ∀ (l : List Nat) (z : Nat), z ≠ 0 → (∀ m ∈ l, m ≠ 0) →
    l.foldl (fun (z m : Nat) => if p m then (if z = 0 then m else if Kp279.gap (m * m) n < Kp279.gap (z * z) n then m else z) else z) z = (l.filter p).foldl (near n) z
  | [], z, _, _ => rfl
  | a :: r, z, hz, hl => by
    have ha : a ≠ 0 := hl a (List.mem_cons_self ..)
    have hr : ∀ m ∈ r, m ≠ 0 := fun m h => hl m (List.mem_cons_of_mem _ h)
    rw [List.foldl_cons, List.filter_cons]
    cases p a with
    | false => exact fold_pos n p r z hz hr
    | true =>
      simp only [if_true, if_neg hz, List.foldl_cons]
      have e : near n z a ≠ 0 := by unfold near; split <;> assumption
      exact fold_pos n p r (near n z a) e hr
theorem fold_zero (n : Nat) (p : Nat → Bool) : ∀ (l : List Nat), (∀ m ∈ l, m ≠ 0) →
    l.foldl (fun (z m : Nat) => if p m then (if z = 0 then m else if Kp279.gap (m * m) n < Kp279.gap (z * z) n then m else z) else z) 0 = nearest n (l.filter p)
  | [], _ => rfl
  | a :: r, hl => by
    have ha : a ≠ 0 := hl a (List.mem_cons_self ..)
    have hr : ∀ m ∈ r, m ≠ 0 := fun m h => hl m (List.mem_cons_of_mem _ h)
    rw [List.foldl_cons, List.filter_cons]
    cases p a with
    | false => exact fold_zero n p r hr
    | true =>
      simp only [if_true]
      rw [nearest_cons]
      exact fold_pos n p r a ha hr
theorem ups_pos {k m : Nat} (h : m ∈ ups k) : m ≠ 0 ∧ m ≤ k := by
  rw [ups_eq] at h
  obtain ⟨a, ha, rfl⟩ := List.mem_map.mp h
  have := List.mem_range.mp ha
  omega
theorem taken_eq (n : Nat) (t : Triple) : Kp280.taken n t = nearest n (fitting n t) := fold_zero n (Kp280.fits t) (ups (2 * n)) fun m h => (ups_pos h).1
theorem foldl_near_mem (n : Nat) : ∀ (l : List Nat) (z : Nat), l.foldl (near n) z = z ∨ l.foldl (near n) z ∈ l
  | [], z => .inl rfl
  | a :: r, z => by
    rw [List.foldl_cons]
    rcases foldl_near_mem n r (near n z a) with h | h
    · rw [h]
      unfold near
      split
      · exact .inr (List.mem_cons_self ..)
      · exact .inl rfl
    · exact .inr (List.mem_cons_of_mem _ h)
theorem nearest_mem {n : Nat} : ∀ {l : List Nat}, l ≠ [] → nearest n l ∈ l
  | [], h => absurd rfl h
  | a :: r, _ => by
    rw [nearest_cons]
    rcases foldl_near_mem n r a with h | h
    · rw [h]; exact List.mem_cons_self ..
    · exact List.mem_cons_of_mem _ h

/-! ### a step can be done: reckoned by the kernel over all n -/
structure OkT (n : Nat) (t : Triple) : Prop where
  k0 : t.k ≠ 0
  ks : t.k.natAbs ≤ 100
  m0 : Kp280.taken n t ≠ 0
  dv : ((Kp280.taken n t : Int) * (Kp280.taken n t : Int) - (n : Int)) % t.k = 0
def forceN (x : Nat) (g : Nat → Bool) : Bool := match x with
  | 0 => g 0
  | y + 1 => g (Nat.succ y)
theorem forceN_eq (x : Nat) (g : Nat → Bool) : forceN x g = g x := by cases x <;> rfl
/-- taken, in numbers from 0 up: f more numbers, the next is N - f -/
def tk (n a b K N : Nat) : Nat → Nat → Nat
  | 0, z => z
  | f + 1, z => match Nat.mod (Nat.add a (Nat.mul (Nat.sub N f) b)) K with
    | 0 => match z with
      | 0 => tk n a b K N f (Nat.sub N f)
      | Nat.succ y => match Nat.blt (Nat.add (Nat.sub (Nat.mul (Nat.sub N f) (Nat.sub N f)) n) (Nat.sub n (Nat.mul (Nat.sub N f) (Nat.sub N f)))) (Nat.add (Nat.sub (Nat.mul (Nat.succ y) (Nat.succ y)) n) (Nat.sub n (Nat.mul (Nat.succ y) (Nat.succ y)))) with
        | true => tk n a b K N f (Nat.sub N f)
        | false => tk n a b K N f (Nat.succ y)
    | Nat.succ _ => tk n a b K N f z
/-- each of f triples from here can be stepped from -/
def chk (n : Nat) : Nat → Nat → Nat → Nat → Bool
  | 0, _, _, _ => true
  | f + 1, a, b, K => forceN a fun a => forceN b fun b => forceN K fun K => forceN (tk n a b K (2 * n) (2 * n) 0) fun m => (!Nat.beq K 0) && (Nat.ble K 100 && ((!Nat.beq m 0) &&
      (Nat.beq (Nat.mod (Nat.add (Nat.sub (m * m) n) (Nat.sub n (m * m))) K) 0 && chk n f ((a * m + n * b) / K) ((a + b * m) / K) ((Nat.add (Nat.sub (m * m) n) (Nat.sub n (m * m))) / K))))
theorem fits_nat (t : Triple) (m : Nat) : Kp280.fits t m = decide ((t.a + m * t.b) % t.k.natAbs = 0) := by
  unfold Kp280.fits
  have e : ((t.a : Int) + (m : Int) * (t.b : Int)) = ((t.a + m * t.b : Nat) : Int) := by rw [Int.natCast_add, Int.natCast_mul]
  rw [e]
  by_cases h : (t.a + m * t.b) % t.k.natAbs = 0
  · rw [decide_eq_true h]
    have d : (t.k.natAbs : Int) ∣ ((t.a + m * t.b : Nat) : Int) := Int.natCast_dvd_natCast.mpr (Nat.dvd_of_mod_eq_zero h)
    have d2 : t.k ∣ ((t.a + m * t.b : Nat) : Int) := Int.natAbs_dvd.mp d
    rw [Int.emod_eq_zero_of_dvd d2]
    rfl
  · rw [decide_eq_false h]
    refine beq_eq_false_iff_ne.mpr fun z => h ?_
    have d2 : t.k ∣ ((t.a + m * t.b : Nat) : Int) := Int.dvd_of_emod_eq_zero z
    exact Nat.mod_eq_zero_of_dvd (Int.natCast_dvd_natCast.mp (Int.natAbs_dvd.mpr d2))
theorem gap_sum (a b : Nat) : Kp279.gap a b = (a - b) + (b - a) := by unfold Kp279.gap; split <;> omega
/-- the numbers N - f + 1 to N -/
def lastN (N f : Nat) : List Nat := (List.range f).map fun i => N - f + 1 + i
theorem lastN_succ {N f : Nat} (h : f + 1 ≤ N) : lastN N (f + 1) = (N - f) :: lastN N f := by
  unfold lastN
  rw [List.range_succ_eq_map, List.map_cons, List.map_map]
  congr 1
  · omega
  · apply List.map_congr_left
    intro i _
    show N - (f + 1) + 1 + (i + 1) = N - f + 1 + i
    omega
theorem lastN_all (N : Nat) : lastN N N = ups N := by
  rw [ups_eq]
  unfold lastN
  apply List.map_congr_left
  intro i _
  omega
abbrev stepZ (n : Nat) (t : Triple) (z m : Nat) : Nat := if Kp280.fits t m then (if z = 0 then m else if Kp279.gap (m * m) n < Kp279.gap (z * z) n then m else z) else z
theorem tk_succ (n a b K N f z : Nat) : tk n a b K N (f + 1) z = match Nat.mod (Nat.add a (Nat.mul (Nat.sub N f) b)) K with
    | 0 => match z with
      | 0 => tk n a b K N f (Nat.sub N f)
      | Nat.succ y => match Nat.blt (Nat.add (Nat.sub (Nat.mul (Nat.sub N f) (Nat.sub N f)) n) (Nat.sub n (Nat.mul (Nat.sub N f) (Nat.sub N f)))) (Nat.add (Nat.sub (Nat.mul (Nat.succ y) (Nat.succ y)) n) (Nat.sub n (Nat.mul (Nat.succ y) (Nat.succ y)))) with
        | true => tk n a b K N f (Nat.sub N f)
        | false => tk n a b K N f (Nat.succ y)
    | Nat.succ _ => tk n a b K N f z := rfl
theorem tk_fold (n : Nat) (t : Triple) (N : Nat) : ∀ (f z : Nat), f ≤ N → tk n t.a t.b t.k.natAbs N f z = (lastN N f).foldl (stepZ n t) z
  | 0, z, _ => rfl
  | f + 1, z, h => by
    rw [lastN_succ h, List.foldl_cons]
    have ih := fun z => tk_fold n t N f z (by omega)
    rw [← ih]
    rw [tk_succ]
    have e1 : Kp280.fits t (N - f) = decide (Nat.mod (Nat.add t.a (Nat.mul (Nat.sub N f) t.b)) t.k.natAbs = 0) := fits_nat t (N - f)
    unfold stepZ
    rw [e1]
    cases Nat.mod (Nat.add t.a (Nat.mul (Nat.sub N f) t.b)) t.k.natAbs with
    | succ y => rfl
    | zero =>
      cases z with
      | zero => rfl
      | succ y =>
        have e2 : Nat.blt (Nat.add (Nat.sub (Nat.mul (Nat.sub N f) (Nat.sub N f)) n) (Nat.sub n (Nat.mul (Nat.sub N f) (Nat.sub N f)))) (Nat.add (Nat.sub (Nat.mul (Nat.succ y) (Nat.succ y)) n) (Nat.sub n (Nat.mul (Nat.succ y) (Nat.succ y)))) = decide (Kp279.gap ((N - f) * (N - f)) n < Kp279.gap ((y + 1) * (y + 1)) n) := by
          rw [gap_sum, gap_sum]
          apply Bool.eq_iff_iff.mpr
          rw [decide_eq_true_iff]
          exact Iff.of_eq Nat.blt_eq
        simp only [e2]
        by_cases q : Kp279.gap ((N - f) * (N - f)) n < Kp279.gap ((y + 1) * (y + 1)) n
        · simp only [decide_eq_true q, if_pos q]; rfl
        · simp only [decide_eq_false q, if_neg q]; rfl
theorem tk_taken (n : Nat) (t : Triple) : tk n t.a t.b t.k.natAbs (2 * n) (2 * n) 0 = Kp280.taken n t := by
  rw [tk_fold n t (2 * n) (2 * n) 0 (Nat.le_refl _), lastN_all]
  rfl
theorem abs_sub (x n : Nat) : ((x : Int) - (n : Int)).natAbs = (x - n) + (n - x) := by omega
theorem next_abs (n : Nat) (t : Triple) (d : ((Kp280.taken n t : Int) * (Kp280.taken n t : Int) - (n : Int)) % t.k = 0) :
    (Kp280.next n t).k.natAbs = ((Kp280.taken n t * Kp280.taken n t - n) + (n - Kp280.taken n t * Kp280.taken n t)) / t.k.natAbs := by
  show (((Kp280.taken n t : Int) * (Kp280.taken n t : Int) - (n : Int)) / t.k).natAbs = _
  rw [Int.natAbs_ediv_of_dvd (Int.dvd_of_emod_eq_zero d), ← Int.natCast_mul, abs_sub]
theorem chk_ok : ∀ (f n : Nat) (t : Triple), chk n f t.a t.b t.k.natAbs = true → ∀ j, j < f → OkT n (Kp280.walk n j t)
  | 0, n, t, _, j, hj => absurd hj (Nat.not_lt_zero _)
  | f + 1, n, t, h, j, hj => by
    unfold chk at h
    simp only [forceN_eq, tk_taken, Bool.and_eq_true] at h
    obtain ⟨h1, h2, h3, h4, h5⟩ := h
    have k0 : t.k ≠ 0 := by
      intro e
      rw [e] at h1
      exact absurd h1 (by decide)
    have ks : t.k.natAbs ≤ 100 := Nat.le_of_ble_eq_true h2
    have m0 : Kp280.taken n t ≠ 0 := by
      intro e
      rw [e] at h3
      exact absurd h3 (by decide)
    have dv : ((Kp280.taken n t : Int) * (Kp280.taken n t : Int) - (n : Int)) % t.k = 0 := by
      have e : ((Kp280.taken n t * Kp280.taken n t - n) + (n - Kp280.taken n t * Kp280.taken n t)) % t.k.natAbs = 0 := Nat.eq_of_beq_eq_true h4
      rw [← abs_sub] at e
      have d := Nat.dvd_of_mod_eq_zero e
      rw [Int.natAbs_dvd_natAbs] at d
      rw [← Int.natCast_mul]
      exact Int.emod_eq_zero_of_dvd d
    cases j with
    | zero => exact ⟨k0, ks, m0, dv⟩
    | succ j =>
      have e := next_abs n t dv
      refine chk_ok f n (Kp280.next n t) ?_ j (by omega)
      rw [e]
      exact h5
theorem chk_all : ∀ n, n < 61 → Kp279.okN n = true → chk n 60 (Kp280.first n).a (Kp280.first n).b (Kp280.first n).k.natAbs = true := by decide +kernel
theorem okN_lt {n : Nat} (h : Kp279.okN n = true) : 2 ≤ n ∧ n < 61 := by
  unfold Kp279.okN at h
  rw [Bool.and_eq_true, Bool.and_eq_true] at h
  have h1 := of_decide_eq_true h.1.1
  have h2 : n ≤ 60 := of_decide_eq_true h.1.2
  omega
/-- the j-th triple of n's walk -/
abbrev tr (n j : Nat) : Triple := Kp280.walk n j (Kp280.first n)
theorem tr_ok {n j : Nat} (h : Kp279.okN n = true) (hj : j < 60) : OkT n (tr n j) := chk_ok 60 n (Kp280.first n) (chk_all n (okN_lt h).2 h) j hj
theorem walk_succ (n : Nat) : ∀ (j : Nat) (t : Triple), Kp280.walk n (j + 1) t = Kp280.next n (Kp280.walk n j t)
  | 0, _ => rfl
  | j + 1, t => walk_succ n j (Kp280.next n t)
theorem tr_succ (n j : Nat) : tr n (j + 1) = Kp280.next n (tr n j) := walk_succ n j _
/-! ### the way -/
theorem way_len (n : Nat) : ∀ (f : Nat) (t : Triple), 0 < (Kp280.way n f t).length
  | 0, t => Nat.zero_lt_one
  | f + 1, t => by
    unfold Kp280.way
    split <;> exact Nat.zero_lt_succ _
theorem way_map (n : Nat) : ∀ (f : Nat) (t : Triple), Kp280.way n f t = (List.range (Kp280.way n f t).length).map fun j => Kp280.walk n j t
  | 0, t => rfl
  | f + 1, t => by
    unfold Kp280.way
    split
    · rfl
    · rw [List.length_cons, List.range_succ_eq_map, List.map_cons, List.map_map]
      conv => lhs; rw [way_map n f (Kp280.next n t)]
      rfl
theorem way_not (n : Nat) : ∀ (f : Nat) (t : Triple) (j : Nat), j + 1 < (Kp280.way n f t).length → (Kp280.walk n j t).k ≠ 1
  | 0, t, j, h => by
    have h : j + 1 < 1 := h
    omega
  | f + 1, t, j, h => by
    unfold Kp280.way at h
    split at h
    · have h : j + 1 < 1 := h
      omega
    · rename_i hk
      cases j with
      | zero => exact hk
      | succ j => exact way_not n f (Kp280.next n t) j (by rw [List.length_cons] at h; omega)
/-- how many steps n's way has -/
def long (n : Nat) : Nat := (Kp280.all n).length - 1
theorem all_len (n : Nat) : (Kp280.all n).length = long n + 1 := by
  have := way_len n 60 (Kp280.first n)
  unfold long Kp280.all
  omega
theorem all_map (n : Nat) : Kp280.all n = (List.range (long n + 1)).map (tr n) := by
  rw [← all_len]
  exact way_map n 60 _
theorem tr_not {n j : Nat} (h : j < long n) : (tr n j).k ≠ 1 := way_not n 60 (Kp280.first n) j (by
  have := all_len n
  unfold Kp280.all at this
  omega)
theorem getLastD_range {α : Type} (g : Nat → α) (d : α) (k : Nat) : ((List.range (k + 1)).map g).getLastD d = g k := by
  rw [List.range_succ, List.map_append, List.map_cons, List.map_nil, List.getLastD_concat]
theorem last_tr (n : Nat) : Kp280.last n = tr n (long n) := by
  unfold Kp280.last
  rw [all_map, getLastD_range]
theorem ends_all : ∀ n, n < 61 → Kp279.okN n = true → (Kp280.last n).k = 1 ∧ (Kp280.all n).length ≤ 60 := by decide +kernel
theorem long_lt {n : Nat} (h : Kp279.okN n = true) : long n < 60 := by
  have := (ends_all n (okN_lt h).2 h).2
  have := all_len n
  omega
theorem tr_end {n : Nat} (h : Kp279.okN n = true) : (tr n (long n)).k = 1 := by
  rw [← last_tr]
  exact (ends_all n (okN_lt h).2 h).1
/-! ### the first -/
theorem first_all : ∀ n, n < 61 → 2 ≤ n → nearest n (ups n) = (Kp280.first n).a := by decide +kernel
theorem first_b (n : Nat) : (Kp280.first n).b = 1 := rfl
theorem first_k (n : Nat) : (Kp280.first n).k = ((Kp280.first n).a : Int) * ((Kp280.first n).a : Int) - (n : Int) := rfl
/-! ### squares -/
theorem root_all : ∀ n, n < 61 → ∀ r, r < 9 → n ≤ r * r → (∀ q, q < r → q * q < n) → decide (r * r = n) = (Kp279.root n * Kp279.root n == n) := by decide +kernel
/-! ### short -/
theorem one_some (n : Nat) (a : Kp279.Pair) : (Kp279.one n a).isSome = decide (Kp279.diff n a = 1 ∨ Kp279.diff n a = -1 ∨ Kp279.diff n a = 2 ∨ Kp279.diff n a = -2 ∨ Kp279.diff n a = 4 ∨ Kp279.diff n a = -4) := by
  unfold Kp279.one
  generalize Kp279.diff n a = d
  simp only []
  symm
  repeat' split
  all_goals first | (show decide _ = true; exact decide_eq_true (by omega)) | (show decide _ = false; exact decide_eq_false (by omega))
theorem diff_all : ∀ n, n < 61 → Kp279.okN n = true → (Kp280.all n).all (fun t => Kp279.diff n ⟨t.a, t.b⟩ == t.k) = true := by decide +kernel
theorem short_all : ∀ n, n < 61 → Kp279.okN n = true → (Kp280.short n).isSome = true := by decide +kernel
end Rw
end
section
set_option Elab.async false
set_option linter.all false
set_option maxRecDepth 100000
namespace Rw
open Kp280 (Triple)
/-- a call's number, and its argument (0 where it has none) -/
def numOf : Kp280.Call → Nat × Nat
  | .begin_ n => (0, n)
  | .step_ => (1, 0)
  | .steps j => (2, j)
  | .taken => (3, 0)
  | .fits m => (4, m)
  | .all => (5, 0)
  | .diffs => (6, 0)
  | .least n => (7, n)
  | .long n => (8, n)
  | .short => (9, 0)
  | .longest b => (10, b)
  | .greatest b => (11, b)
  | .minus n => (12, n)
  | .again => (13, 0)
  | .done => (14, 0)
  | .told => (15, 0)
def hasArg (p : Nat) : Bool := p == 0 || p == 2 || p == 4 || p == 7 || p == 8 || p == 10 || p == 11 || p == 12
theorem call0 {z : Int} {r : List Int} (h : PyKp280.shape z = some (0, 0)) : PyFlat.call PyKp280.shape (z :: r) = some ([[z]], r) := by
  unfold PyFlat.call
  simp only []
  rw [h]
  simp only [Nat.not_lt_zero, if_false, PyFlat.rows, List.take_zero, List.drop_zero]
theorem call1n {z : Int} (h : PyKp280.shape z = some (1, 0)) : PyFlat.call PyKp280.shape [z] = none := by
  unfold PyFlat.call
  simp only []
  rw [h]
  rfl
theorem call1c {z x : Int} {r : List Int} (h : PyKp280.shape z = some (1, 0)) : PyFlat.call PyKp280.shape (z :: x :: r) = some ([[z, x]], r) := by
  unfold PyFlat.call
  simp only []
  rw [h]
  have e : ¬ (x :: r).length < 1 := by rw [List.length_cons]; omega
  simp only [if_neg e, PyFlat.rows]
  rfl
/-- what one call of the list is -/
def OneCall (z : Int) (r : List Int) (f : Nat) (raw : List (List (List Int))) : Prop := ∃ (c : Kp280.Call) (rest : List Int) (cl : List (List Int)) (cs : List (List (List Int))), raw = cl :: cs ∧ PyFlat.calls PyKp280.shape f rest = some cs ∧ PyInside.calls PyKp280.bound cs = true ∧
  z = ((numOf c).1 : Int) ∧ ((hasArg (numOf c).1 = true ∧ r = ((numOf c).2 : Int) :: rest) ∨ (hasArg (numOf c).1 = false ∧ (numOf c).2 = 0 ∧ r = rest)) ∧
  ∀ s, Kp280Neutral.step s (PyKp280.whole cl) = ((Kp280.step s c).1, (Kp280.step s c).2.num :: (Kp280.step s c).2.nums)
theorem one0 {z : Int} {r : List Int} {f : Nat} {raw : List (List (List Int))} (c : Kp280.Call) (hs : PyKp280.shape z = some (0, 0)) (hz : z = ((numOf c).1 : Int)) (ha : hasArg (numOf c).1 = false) (h0 : (numOf c).2 = 0)
    (hw : ∀ s, Kp280Neutral.step s (PyKp280.whole [[z]]) = ((Kp280.step s c).1, (Kp280.step s c).2.num :: (Kp280.step s c).2.nums))
    (h : PyFlat.calls PyKp280.shape (f + 1) (z :: r) = some raw) (hb : PyInside.calls PyKp280.bound raw = true) : OneCall z r f raw := by
  unfold PyFlat.calls at h
  rw [call0 hs] at h
  simp only [] at h
  cases e : PyFlat.calls PyKp280.shape f r with
  | none => rw [e] at h; cases h
  | some cs =>
    rw [e] at h
    cases h
    have hb2 : PyInside.calls PyKp280.bound cs = true := by
      unfold PyInside.calls at hb ⊢
      rw [List.all_cons, Bool.and_eq_true] at hb
      exact hb.2
    exact ⟨c, r, [[z]], cs, rfl, e, hb2, hz, .inr ⟨ha, h0, rfl⟩, hw⟩
theorem one1 {z : Int} {r : List Int} {f : Nat} {raw : List (List (List Int))} (c : Nat → Kp280.Call) (hs : PyKp280.shape z = some (1, 0)) (hbd : PyKp280.bound z = ([(0, 4294967295)], [])) (hz : ∀ x, z = ((numOf (c x)).1 : Int)) (ha : ∀ x, hasArg (numOf (c x)).1 = true) (h1 : ∀ x, (numOf (c x)).2 = x)
    (hw : ∀ x s, Kp280Neutral.step s (PyKp280.whole [[z, x]]) = ((Kp280.step s (c x.toNat)).1, (Kp280.step s (c x.toNat)).2.num :: (Kp280.step s (c x.toNat)).2.nums))
    (h : PyFlat.calls PyKp280.shape (f + 1) (z :: r) = some raw) (hb : PyInside.calls PyKp280.bound raw = true) : OneCall z r f raw := by
  unfold PyFlat.calls at h
  cases r with
  | nil => rw [call1n hs] at h; cases h
  | cons x r =>
    rw [call1c hs] at h
    simp only [] at h
    cases e : PyFlat.calls PyKp280.shape f r with
    | none => rw [e] at h; cases h
    | some cs =>
      rw [e] at h
      cases h
      unfold PyInside.calls at hb
      rw [List.all_cons, Bool.and_eq_true] at hb
      have hx : PyInside.within 0 4294967295 x = true := by
        have q := hb.1
        unfold PyInside.call at q
        simp only [hbd] at q
        rw [Bool.and_eq_true] at q
        have q1 : (PyInside.within 0 4294967295 x && true) = true := q.1
        rw [Bool.and_true] at q1
        exact q1
      have hx0 : 0 ≤ x := by
        unfold PyInside.within at hx
        rw [Bool.and_eq_true] at hx
        exact of_decide_eq_true hx.1
      exact ⟨c x.toNat, r, [[z, x]], cs, rfl, e, hb.2, hz _, .inl ⟨ha _, by rw [h1, Int.toNat_of_nonneg hx0]⟩, hw x⟩
theorem one_none {z : Int} {r : List Int} {f : Nat} {raw : List (List (List Int))} (hs : PyKp280.shape z = none) (h : PyFlat.calls PyKp280.shape (f + 1) (z :: r) = some raw) : False := by
  unfold PyFlat.calls PyFlat.call at h
  simp only [] at h
  rw [hs] at h
  cases h
theorem one_call {z : Int} {r : List Int} {f : Nat} {raw : List (List (List Int))} (h : PyFlat.calls PyKp280.shape (f + 1) (z :: r) = some raw) (hb : PyInside.calls PyKp280.bound raw = true) : OneCall z r f raw := by
  by_cases e0 : z = 0
  · subst e0; exact one1 .begin_ rfl rfl (fun _ => rfl) (fun _ => rfl) (fun _ => rfl) (fun _ _ => rfl) h hb
  by_cases e1 : z = 1
  · subst e1; exact one0 .step_ rfl rfl rfl rfl (fun _ => rfl) h hb
  by_cases e2 : z = 2
  · subst e2; exact one1 .steps rfl rfl (fun _ => rfl) (fun _ => rfl) (fun _ => rfl) (fun _ _ => rfl) h hb
  by_cases e3 : z = 3
  · subst e3; exact one0 .taken rfl rfl rfl rfl (fun _ => rfl) h hb
  by_cases e4 : z = 4
  · subst e4; exact one1 .fits rfl rfl (fun _ => rfl) (fun _ => rfl) (fun _ => rfl) (fun _ _ => rfl) h hb
  by_cases e5 : z = 5
  · subst e5; exact one0 .all rfl rfl rfl rfl (fun _ => rfl) h hb
  by_cases e6 : z = 6
  · subst e6; exact one0 .diffs rfl rfl rfl rfl (fun _ => rfl) h hb
  by_cases e7 : z = 7
  · subst e7; exact one1 .least rfl rfl (fun _ => rfl) (fun _ => rfl) (fun _ => rfl) (fun _ _ => rfl) h hb
  by_cases e8 : z = 8
  · subst e8; exact one1 .long rfl rfl (fun _ => rfl) (fun _ => rfl) (fun _ => rfl) (fun _ _ => rfl) h hb
  by_cases e9 : z = 9
  · subst e9; exact one0 .short rfl rfl rfl rfl (fun _ => rfl) h hb
  by_cases e10 : z = 10
  · subst e10; exact one1 .longest rfl rfl (fun _ => rfl) (fun _ => rfl) (fun _ => rfl) (fun _ _ => rfl) h hb
  by_cases e11 : z = 11
  · subst e11; exact one1 .greatest rfl rfl (fun _ => rfl) (fun _ => rfl) (fun _ => rfl) (fun _ _ => rfl) h hb
  by_cases e12 : z = 12
  · subst e12; exact one1 .minus rfl rfl (fun _ => rfl) (fun _ => rfl) (fun _ => rfl) (fun _ _ => rfl) h hb
  by_cases e13 : z = 13
  · subst e13; exact one0 .again rfl rfl rfl rfl (fun _ => rfl) h hb
  by_cases e14 : z = 14
  · subst e14; exact one0 .done rfl rfl rfl rfl (fun _ => rfl) h hb
  by_cases e15 : z = 15
  · subst e15; exact one0 .told rfl rfl rfl rfl (fun _ => rfl) h hb
  refine (one_none ?_ h).elim
  unfold PyKp280.shape
  simp only [e0, e1, e2, e3, e4, e5, e6, e7, e8, e9, e10, e11, e12, e13, e14, e15, if_false]
theorem flat_len (l : List Triple) : (l.flatMap fun t => [(t.a : Int), (t.b : Int)]).length = 2 * l.length := by
  induction l with
  | nil => rfl
  | cons a r ih =>
    rw [List.flatMap_cons, List.length_append, ih, List.length_cons]
    show 2 + 2 * r.length = 2 * (r.length + 1)
    omega
/-- the state is one that the calls come to -/
def GoodS : Kp280.State → Prop
  | none => True
  | some d => Kp279.okN d.n = true ∧ d.steps ≤ long d.n ∧ d.t = tr d.n d.steps
/-- the answer's numbers -/
abbrev nums (a : Kp280.Ans) : List Int := a.num :: a.nums
/-- no answer has more than 130 numbers -/
theorem nums_len {st : Kp280.State} (g : GoodS st) (c : Kp280.Call) : (nums (Kp280.step st c).2).length ≤ 130 := by
  cases st with
  | none =>
    cases c <;> try (show 1 ≤ 130; decide)
    rename_i n
    show (nums (if Kp279.okN n then ((some ⟨n, Kp280.first n, 0⟩ : Kp280.State), Kp280.say 0) else (none, Kp280.say (-22))).2).length ≤ 130
    split <;> (show 1 ≤ 130; decide)
  | some d =>
    have hl := long_lt g.1
    have ha := all_len d.n
    cases c with
    | begin_ n =>
      show (nums (if Kp279.okN n then ((some ⟨n, Kp280.first n, 0⟩ : Kp280.State), Kp280.say 0) else (some d, Kp280.say (-22))).2).length ≤ 130
      split <;> (show 1 ≤ 130; decide)
    | step_ =>
      show (nums (if d.t.k = 1 then ((some d : Kp280.State), Kp280.say (-16)) else (some { d with t := Kp280.next d.n d.t, steps := d.steps + 1 }, Kp280.tellTriple (Kp280.next d.n d.t))).2).length ≤ 130
      split
      · show 1 ≤ 130; decide
      · show 4 ≤ 130; decide
    | steps j =>
      show (nums (if 60 < j then Kp280.say (-22) else Kp280.tellTriple (tr d.n j))).length ≤ 130
      split
      · decide
      · show 4 ≤ 130; decide
    | taken => show 2 ≤ 130; decide
    | fits m =>
      show (nums (if m = 0 ∨ 1000 < m then Kp280.say (-22) else Kp280.say (if Kp280.fits d.t m then 1 else 0))).length ≤ 130
      split
      · decide
      · show 1 ≤ 130; decide
    | all =>
      show ((Kp280.all d.n).flatMap fun t => [(t.a : Int), (t.b : Int)]).length + 1 ≤ 130
      rw [flat_len]
      omega
    | diffs =>
      show ((Kp280.all d.n).map fun t => t.k).length + 1 ≤ 130
      rw [List.length_map]
      omega
    | least n =>
      show (nums (if Kp279.okN n then Kp280.step.Kp279Ans (Kp280.least n) else Kp280.say (-22))).length ≤ 130
      split
      · show 3 ≤ 130; decide
      · decide
    | long n =>
      show (nums (if Kp279.okN n then Kp280.say (((Kp280.all n).length - 1 : Nat) : Int) else Kp280.say (-22))).length ≤ 130
      split <;> (show 1 ≤ 130; decide)
    | short =>
      show (nums (match Kp280.short d.n with | some t => Kp280.tellTriple t | none => Kp280.say (-33))).length ≤ 130
      split
      · show 4 ≤ 130; decide
      · decide
    | longest b =>
      show (nums (if b < 2 ∨ Kp279.MOST < b then Kp280.say (-22) else ⟨(Kp280.longest b : Int), [((Kp280.all (Kp280.longest b)).length - 1 : Nat)]⟩)).length ≤ 130
      split
      · decide
      · show 2 ≤ 130; decide
    | greatest b =>
      show (nums (if b < 2 ∨ Kp279.MOST < b then Kp280.say (-22) else ⟨(Kp280.greatest b : Int), [((Kp280.least (Kp280.greatest b)).x : Int)]⟩)).length ≤ 130
      split
      · decide
      · show 2 ≤ 130; decide
    | minus n =>
      show (nums (if Kp279.okN n = false then Kp280.say (-22) else match Kp280.minus n with | some t => Kp280.step.Kp279Ans ⟨t.a, t.b⟩ | none => Kp280.say (-33))).length ≤ 130
      split
      · decide
      · split
        · show 3 ≤ 130; decide
        · decide
    | again => show 4 ≤ 130; decide
    | done => show 1 ≤ 130; decide
    | told => show 5 ≤ 130; decide
end Rw
end
section
set_option Elab.async false
set_option linter.all false
set_option maxRecDepth 100000
/-! what the calls of the second stage ask: the greatest of rows, the first with a difference of some -/
namespace Rw
open Kp280 (Triple)
/-- the greater by its measure, of like ones the one at hand -/
def better (z r : Nat × Nat) : Nat × Nat := if z.2 < r.2 then r else z
theorem better_self (a : Nat × Nat) : better a a = a := by unfold better; split <;> rfl
/-- what tell_greatest_row finds -/
def bestOf : List (Nat × Nat) → Nat × Nat
  | [] => (0, 0)
  | a :: r => (a :: r).foldl better a
theorem bestOf_cons (a : Nat × Nat) (r : List (Nat × Nat)) : bestOf (a :: r) = r.foldl better a := by
  show (a :: r).foldl better a = _
  rw [List.foldl_cons, better_self]
theorem fold_best (g : Nat → Nat) : ∀ (l : List Nat) (z : Nat), z ≠ 0 → (∀ m ∈ l, m ≠ 0) →
    (l.map fun n => (n, g n)).foldl better (z, g z) = (l.foldl (fun (z n : Nat) => if z = 0 then n else if g z < g n then n else z) z, g (l.foldl (fun (z n : Nat) => if z = 0 then n else if g z < g n then n else z) z))
  | [], z, _, _ => rfl
  | a :: r, z, hz, hl => by
    have ha : a ≠ 0 := hl a (List.mem_cons_self ..)
    have hr : ∀ m ∈ r, m ≠ 0 := fun m h => hl m (List.mem_cons_of_mem _ h)
    rw [List.map_cons, List.foldl_cons, List.foldl_cons, if_neg hz]
    unfold better
    by_cases q : g z < g a
    · simp only [if_pos q]
      exact fold_best g r a ha hr
    · simp only [if_neg q]
      exact fold_best g r z hz hr
theorem best_nons (g : Nat → Nat) : ∀ (l : List Nat), l ≠ [] → (∀ m ∈ l, m ≠ 0) →
    bestOf (l.map fun n => (n, g n)) = (l.foldl (fun (z n : Nat) => if z = 0 then n else if g z < g n then n else z) 0, g (l.foldl (fun (z n : Nat) => if z = 0 then n else if g z < g n then n else z) 0))
  | [], h, _ => absurd rfl h
  | a :: r, _, hl => by
    rw [List.map_cons, bestOf_cons, List.foldl_cons, if_pos rfl]
    exact fold_best g r a (hl a (List.mem_cons_self ..)) fun m h => hl m (List.mem_cons_of_mem _ h)
theorem nons_all : ∀ b, b < 61 → 2 ≤ b → Kp280.nons b = ((List.range (b - 1)).map (· + 2)).filter Kp279.okN := by decide +kernel
theorem nons_len : ∀ b, b < 61 → 2 ≤ b → Kp280.nons b ≠ [] := by decide +kernel
theorem nons_ok {b m : Nat} (h : m ∈ Kp280.nons b) : Kp279.okN m = true := (List.mem_filter.mp h).2
theorem nons_pos {b m : Nat} (h : m ∈ Kp280.nons b) : m ≠ 0 := by
  have := okN_lt (nons_ok h)
  omega
theorem longest_row {b : Nat} (h : b < 61) (h2 : 2 ≤ b) : bestOf ((Kp280.nons b).map fun n => (n, long n)) = (Kp280.longest b, long (Kp280.longest b)) := by
  rw [best_nons long _ (nons_len b h h2) fun m h => nons_pos h]
  have e : (fun (z n : Nat) => if z = 0 then n else if long z < long n then n else z) = (fun (z n : Nat) => if z = 0 then n else if (Kp280.all z).length < (Kp280.all n).length then n else z) := by
    funext z n
    rw [all_len, all_len]
    by_cases h0 : z = 0
    · rw [if_pos h0, if_pos h0]
    · rw [if_neg h0, if_neg h0]
      by_cases q : long z < long n
      · rw [if_pos q, if_pos (by omega)]
      · rw [if_neg q, if_neg (by omega)]
  rw [e]
  rfl
theorem greatest_row {b : Nat} (h : b < 61) (h2 : 2 ≤ b) : bestOf ((Kp280.nons b).map fun n => (n, (Kp280.last n).a)) = (Kp280.greatest b, (Kp280.least (Kp280.greatest b)).x) := by
  rw [best_nons (fun n => (Kp280.last n).a) _ (nons_len b h h2) fun m h => nons_pos h]
  rfl
/-! ### the first that serves -/
theorem find_at {α : Type} (p : α → Bool) : ∀ (l : List α) (i : Nat) (t : α), l[i]? = some t → p t = true → (∀ u ∈ l.take i, p u = false) → l.find? p = some t
  | [], i, t, h, _, _ => by cases h
  | a :: r, 0, t, h, hp, _ => by
    cases h
    rw [List.find?_cons, hp]
  | a :: r, i + 1, t, h, hp, hn => by
    rw [List.find?_cons, hn a (List.mem_cons_self ..)]
    exact find_at p r i t h hp fun u hu => hn u (List.mem_cons_of_mem _ hu)
theorem find_none {α : Type} (p : α → Bool) : ∀ (l : List α), (∀ u ∈ l, p u = false) → l.find? p = none
  | [], _ => rfl
  | a :: r, hn => by
    rw [List.find?_cons, hn a (List.mem_cons_self ..)]
    exact find_none p r fun u hu => hn u (List.mem_cons_of_mem _ hu)
theorem find_same {α : Type} (p q : α → Bool) : ∀ (l : List α), (∀ u ∈ l, p u = q u) → l.find? p = l.find? q
  | [], _ => rfl
  | a :: r, hn => by
    rw [List.find?_cons, List.find?_cons, hn a (List.mem_cons_self ..), find_same p q r fun u hu => hn u (List.mem_cons_of_mem _ hu)]
end Rw
end
section
set_option Elab.async false
set_option linter.all false
set_option maxRecDepth 100000
set_option maxHeartbeats 4000000
namespace Rw
open PySem PySem.Spec PyProof.Rows L2
open PySem.W (Codec)
open Kp280 (Triple)
/-! ### two rules more: range(..) as a value, list of it -/
section
variable {X : Cx}
theorem call_range2 : CallR X (.type "range") (fun xs H Q => ∃ i j : Int, xs = [.int i, .int j] ∧ ∀ p, H p = none → Q (.ref p) (upd H p (.rng i j))) := by
  intro pins s σ H xs us Q I r h
  obtain ⟨i, j, rfl, q⟩ := h
  obtain ⟨u, u', rfl, ⟨t, rfl⟩, ⟨t', rfl⟩⟩ := vals2 r
  refine call_range_2 ⟨.ref s.heap.objs.size, _, I.laid (o := .rng i j) (fun b o e => Heap.get?_push_of_some _ e) (Nat.le_refl _) ?_, rfl, q _ (I.hok.fresh (Nat.le_refl _))⟩
  exact ⟨_, _, _, Heap.get?_push_size _ rfl⟩
theorem vals_range {lo : Int} : ∀ (n : Nat) (k : Int) (its : List Value), its.length = n → (∀ (i : Nat) (v : Value), its[i]? = some v → ∃ t, v = .int (k + i * 1) t) → Vals ((List.range n).map fun i => V.int (k + (i : Nat))) its
  | 0, _, its, h, _ => by
    cases its with
    | nil => exact .nil
    | cons a r => cases h
  | n + 1, k, its, h, hi => by
    cases its with
    | nil => cases h
    | cons a r =>
      rw [List.range_succ_eq_map, List.map_cons, List.map_map]
      obtain ⟨t, e⟩ := hi 0 a rfl
      refine .cons ⟨t, by rw [e]; simp⟩ ?_
      have ih := vals_range (lo := lo) n (k + 1) r (by simpa using h) (fun i v hv => by
        obtain ⟨t, e⟩ := hi (i + 1) v (by simpa using hv)
        exact ⟨t, by rw [e]; congr 1; simp; omega⟩)
      have e2 : (List.range n).map (fun i => V.int (k + 1 + (i : Nat))) = (List.range n).map ((fun i => V.int (k + (i : Nat))) ∘ Nat.succ) := by
        apply List.map_congr_left
        intro i _
        show V.int (k + 1 + (i : Nat)) = V.int (k + ((i + 1 : Nat) : Int))
        congr 1
        omega
      rw [← e2]
      exact ih
theorem call_list_rng (hc : X.calm = true) : CallR X (.type "list") (fun xs H Q => ∃ (p : Addr) (i j : Int), xs = [.ref p] ∧ H p = some (.rng i j) ∧ -1000 ≤ i ∧ i ≤ j ∧ j ≤ 1000 ∧ ∀ l, H l = none → Q (.ref l) (upd H l (.lst ((List.range (j - i).toNat).map fun m => V.int (i + (m : Nat)))))) := by
  intro pins s σ H xs us Q I r h
  obtain ⟨p, i, j, rfl, hp, h1, h2, h3, q⟩ := h
  obtain ⟨u, rfl, rx⟩ := vals1 r
  cases rx
  obtain ⟨t, u, v, e⟩ := I.hok p _ hp
  have hn : Builtin.Range.rangeSize i j 1 = ((j - i).toNat : Nat) := by rw [rangeSize_one]; split <;> omega
  refine call_list_range (I.ok.hd hc) (show IsRange s.heap p i j 1 t u v from e) (small_one (by omega) (by omega) (by omega) (by omega)) hn (by omega) fun h' tk acc' c' kp e' it => ?_
  have hz : ((List.range (j - i).toNat).map fun m => V.int (i + (m : Nat))).length ≤ sizeLine := by
    rw [List.length_map, List.length_range]
    exact Nat.le_of_lt (Nat.lt_of_le_of_lt (show (j - i).toNat ≤ 2000 by omega) (by decide))
  refine ⟨.ref s.heap.objs.size, _, I.laid (t' := tk) (o := .lst ((List.range (j - i).toNat).map fun m => V.int (i + (m : Nat)))) kp (Nat.le_refl _) ?_, rfl, q _ (I.hok.fresh (Nat.le_refl _))⟩
  exact ⟨hz, acc'.toList, c', vals_range (lo := i) _ i acc'.toList (by simpa using it.1) (fun m v hv => it.2 m v (by simpa using hv)), e'⟩
end
end Rw
end
section
set_option Elab.async false
set_option linter.all false
set_option maxRecDepth 100000
set_option maxHeartbeats 4000000
namespace Rw
open PySem PySem.Spec PyProof.Rows L2
open PySem.W (Codec)
open Kp280 (Triple)
/-! ### the text by places -/
def top (i : Nat) : Stmt := PySem.Challenge.pw_roundway_s01_answers.main.body.getD i (.Pass ⟨0, 0, 0, 0⟩)
abbrev sTri : Stmt := inClass (top 28) 0
abbrev sSq : Stmt := top 29
abbrev sBnd : Stmt := top 30
abbrev sTold : Stmt := top 31
abbrev sNear : Stmt := top 32
abbrev sFirst : Stmt := top 33
abbrev sFit : Stmt := top 34
abbrev sTaken : Stmt := top 35
abbrev sNext : Stmt := top 36
abbrev sAfter : Stmt := top 37
abbrev sWay : Stmt := top 38
abbrev sTellT : Stmt := top 40
abbrev sPairs : Stmt := top 41
abbrev sDiffs : Stmt := top 42
abbrev sLeast : Stmt := top 43
abbrev sFD : Stmt := top 39
abbrev sLong : Stmt := top 44
abbrev sMinus : Stmt := top 45
abbrev sEv : Stmt := top 46
abbrev sRow : Stmt := top 47
abbrev sLgst : Stmt := top 48
abbrev sGrst : Stmt := top 49
abbrev sApart : Stmt := top 50
/-! ### a triple as an object -/
def tf (t : Triple) : List (Str × V) := putF "k" (.int t.k) (putF "b" (.int t.b) (putF "a" (.int t.a) []))
theorem tf_a (t : Triple) : (tf t).lookup ("a" : Str) = some (.int t.a) := by
  unfold tf
  rw [lookup_putF, if_neg (by decide +kernel), lookup_putF, if_neg (by decide +kernel), lookup_putF, if_pos rfl]
theorem tf_b (t : Triple) : (tf t).lookup ("b" : Str) = some (.int t.b) := by
  unfold tf
  rw [lookup_putF, if_neg (by decide +kernel), lookup_putF, if_pos rfl]
theorem tf_k (t : Triple) : (tf t).lookup ("k" : Str) = some (.int t.k) := by
  unfold tf
  rw [lookup_putF, if_pos rfl]
/-- a Triple that is t stands at p -/
def TripAt (C : Addr) (H : Hp) (p : Addr) (t : Triple) : Prop := ∃ dx, H p = some (.ins C dx (tf t))
theorem TripAt.same {C : Addr} {H H' : Hp} {p : Addr} {t : Triple} (h : TripAt C H p t) (s : Same H H') : TripAt C H' p t := by
  obtain ⟨dx, h⟩ := h
  exact ⟨dx, s _ _ h⟩
theorem same_new {H H' : Hp} {p : Addr} {o : HO} (s : Same H H') (h : H' p = Option.none) : Same H (upd H' p o) := fun b u e => by
  rw [upd_ne (ne_of_none (s _ _ e) h)]
  exact s _ _ e
theorem bt_abs : bootBuiltins "abs" = some (.builtin "abs") := by decide +kernel
theorem bt_len : bootBuiltins "len" = some (.builtin "len") := by decide +kernel
theorem bt_range : bootBuiltins "range" = some (.type "range") := by decide +kernel
theorem bt_list : bootBuiltins "list" = some (.type "list") := by decide +kernel
/-- what the top has written -/
structure Txt (K : PySem.W.Frag) (mg : Str → Option Value) (C : Addr) : Prop where
  cl : Cls K C
  nA : NoAttr K C "a"
  nB : NoAttr K C "b"
  nK : NoAttr K C "k"
  mgC : mg "Triple" = some (.ref C)
  abs : mg "abs" = Option.none
  len : mg "len" = Option.none
  range : mg "range" = Option.none
  list : mg "list" = Option.none
  leastN : ∃ t, mg "LEAST_N" = some (.int 2 t)
  greatestN : ∃ t, mg "GREATEST_N" = some (.int 60 t)
  told22 : ∃ t, mg "NOT_AS_TOLD" = some (.int (-22) t)
/-! ### the promise of each def -/
def spTri (C : Addr) : Sp := fun vs H Q _ => ∃ (p dx : Addr) (t : Triple), vs = [.ref p, .int t.a, .int t.b, .int t.k] ∧ H p = some (.ins C dx []) ∧ ∀ H' : Hp, TripAt C H' p t → (∀ b o, H b = some o → b ≠ p → H' b = some o) → Q .non H'
def spSq : Sp := fun vs H Q _ => ∃ n : Nat, vs = [.int n] ∧ n < 61 ∧ Q (.bl (Kp279.root n * Kp279.root n == n)) H
def spBnd : Sp := fun vs H Q _ => ∃ n : Nat, vs = [.int n] ∧ Q (.bl (decide (2 ≤ n) && decide (n ≤ 60))) H
def spTold : Sp := fun vs H Q _ => ∃ n : Nat, vs = [.int n] ∧ Q (.bl (Kp279.okN n)) H
def spNear (K : PySem.W.Frag) : Sp := fun vs H Q _ => ∃ (a : Addr) (l : List Nat) (n : Nat), vs = [.ref a, .int n] ∧ SqL K H a (l.map fun m => V.int (m : Nat)) ∧ l ≠ [] ∧ (∀ m ∈ l, m ≤ 1000) ∧ Q (.int (nearest n l)) H
def spFirst (C : Addr) : Sp := fun vs H Q _ => ∃ n : Nat, vs = [.int n] ∧ 2 ≤ n ∧ n < 61 ∧ ∀ (H' : Hp) (p : Addr), Same H H' → H p = Option.none → TripAt C H' p (Kp280.first n) → Q (.ref p) H'
section
variable {P : Program} {w : World} {K : PySem.W.Frag} {mg : Str → Option Value} {base : Heap}
/-! ### one theorem a def -/
theorem scTri : FnScope ["self", "a", "b", "k"] ["self", "a", "b", "k"] (defScope sTri) := ⟨rfl, rfl, rfl, by decide +kernel, rfl, by decide +kernel, by decide +kernel⟩
theorem ok_tri {f C : Addr} {fd : FuncData} (F : Fun K "__init__" "Triple.__init__" sTri f fd) (T : Txt K mg C) : FnOk P w K mg base CX0 1 f fd ["self", "a", "b", "k"] (spTri C) := by
  refine F.ok scTri (fun vs H Q E h => ?_) (fun cdv A outer s H vs Q E hr h => ?_)
  · obtain ⟨p, dx, t, rfl, _⟩ := h
    rfl
  · obtain ⟨p, dx, t, rfl, hp, k⟩ := h
    refine ⟨_, pss_cons (ps_fld (pv 0) (pv 1) rfl) (pss_cons (ps_fld (pv 0) (pv 2) rfl) (pss_one (ps_fld (pv 0) (pv 3) rfl))), ?_⟩
    refine ⟨_, rfl, _, rfl, p, C, dx, _, rfl, hp, T.cl, T.nA, (by show 0 < 1000; decide), ?_⟩
    refine ⟨_, rfl, _, rfl, p, C, dx, _, rfl, upd_same, T.cl, T.nB, (by show 1 < 1000; decide), ?_⟩
    refine ⟨_, rfl, _, rfl, p, C, dx, _, rfl, upd_same, T.cl, T.nK, (by show 2 < 1000; decide), ?_⟩
    exact k _ ⟨dx, upd_same⟩ fun b o e hb => by rw [upd_ne hb, upd_ne hb, upd_ne hb]; exact e
theorem scSq : FnScope ["number", "root"] ["number"] (defScope sSq) := ⟨rfl, rfl, rfl, by decide +kernel, rfl, by decide +kernel, by decide +kernel⟩
theorem ok_sq {f : Addr} {fd : FuncData} (F : Fun K "is_square" "is_square" sSq f fd) : FnOk P w K mg base CX0 1 f fd ["number"] spSq := by
  refine F.ok scSq (fun vs H Q E h => ?_) (fun cdv A outer s H vs Q E hr h => ?_)
  · obtain ⟨n, rfl, _⟩ := h
    rfl
  · obtain ⟨n, rfl, hn, k⟩ := h
    refine ⟨_, pss_cons (ps_set (i := 1) scSq.nd rfl (Or.inl rfl) pe_int)
      (pss_cons (ps_while PassesOwn.never (pt_cmpR op_lt (pe_op op_mul (pv 1) (pv 1)) (pv 0) (nomark _)) (pss_one (ps_aug (i := 1) scSq.nd rfl (Or.inl rfl) pe_int ip_add)))
      (pss_one (ps_ret (pe_cmpR op_eq (pe_op op_mul (pv 1) (pv 1)) (pv 0) (nomark _))))), ?_⟩
    refine while_by (fun σ H' => ∃ r : Nat, σ = [some (.int n), some (.int r)] ∧ H' = H ∧ r < 9 ∧ ∀ q, q < r → q * q < n) (fun σ _ => 9 - (match σ with | [_, some (.int r)] => r.toNat | _ => 0))
      ⟨0, rfl, rfl, by decide, fun q hq => absurd hq (Nat.not_lt_zero _)⟩ ?_ ?_
    · rintro σ H' ⟨r, rfl, rfl, hr9, hq⟩
      have hm : CMul (r : Int) (r : Int) := .inl ⟨by omega, by omega⟩
      refine ⟨_, rfl, _, rfl, _, _, rfl, rfl, hm, _, rfl, _, _, rfl, rfl, _, rfl, ?_⟩
      refine ite2 (fun hlt => ?_) (fun hge => ?_)
      · have hlt := of_decide_eq_true hlt
        have hl : r * r < n := by rw [← Int.natCast_mul] at hlt; omega
        have h8 : r < 8 := by
          refine Nat.lt_of_not_le fun z => ?_
          have := Nat.mul_le_mul z z
          omega
        refine ⟨_, rfl, _, _, rfl, rfl, ⟨r + 1, rfl, rfl, by omega, fun q hq' => ?_⟩, ?_⟩
        · by_cases e : q = r
          · subst e; exact hl
          · exact hq q (by omega)
        · show 9 - ((r : Int) + 1).toNat < 9 - (r : Int).toNat
          omega
      · have hge : ¬ (r : Int) * (r : Int) < (n : Int) := fun z => hge (decide_eq_true z)
        have hl : n ≤ r * r := by rw [← Int.natCast_mul] at hge; omega
        refine ⟨_, rfl, _, rfl, _, _, rfl, rfl, hm, _, rfl, rfl, ?_⟩
        have e := root_all n hn r hr9 hl hq
        have e2 : decide (V.int ((r : Int) * (r : Int)) = V.int (n : Int)) = (Kp279.root n * Kp279.root n == n) := by
          rw [← e, ← Int.natCast_mul]
          apply Bool.eq_iff_iff.mpr
          rw [decide_eq_true_iff, decide_eq_true_iff]
          exact ⟨fun z => (by injection z with z; omega), fun z => by rw [z]⟩
        show Q (.bl (decide (V.int ((r : Int) * (r : Int)) = V.int (n : Int)))) _
        rw [e2]
        exact k
    · rintro σ H' Q1 Q2 hQ ⟨x, h1, y, h2, i, j, h3, h4, h5, z, h6, i', j', h7, h8, b, h9, h10⟩
      exact ⟨x, h1, y, h2, i, j, h3, h4, h5, z, h6, i', j', h7, h8, b, h9, hQ _ _ h10⟩
end
end Rw
end
section
set_option Elab.async false
set_option linter.all false
set_option maxRecDepth 100000
set_option maxHeartbeats 4000000
namespace Rw
open PySem PySem.Spec PyProof.Rows L2
open PySem.W (Codec)
open Kp280 (Triple)
theorem vint_eq {i j : Int} : decide (V.int i = V.int j) = decide (i = j) := by
  apply Bool.eq_iff_iff.mpr
  rw [decide_eq_true_iff, decide_eq_true_iff]
  exact ⟨fun z => (by injection z), fun z => by rw [z]⟩
theorem abs_gap (x n : Nat) : (if ((x : Int) - (n : Int)) < 0 then -((x : Int) - (n : Int)) else ((x : Int) - (n : Int))) = ((Kp279.gap x n : Nat) : Int) := by
  unfold Kp279.gap
  split <;> split <;> omega
section
variable {P : Program} {w : World} {K : PySem.W.Frag} {mg : Str → Option Value} {base : Heap}
theorem scBnd : FnScope ["number"] ["number"] (defScope sBnd) := ⟨rfl, rfl, rfl, by decide +kernel, rfl, by decide +kernel, by decide +kernel⟩
theorem ok_bnd {f C : Addr} {fd : FuncData} (F : Fun K "is_in_bounds" "is_in_bounds" sBnd f fd) (T : Txt K mg C) : FnOk P w K mg base CX0 1 f fd ["number"] spBnd := by
  obtain ⟨t1, e1⟩ := T.leastN
  obtain ⟨t2, e2⟩ := T.greatestN
  refine F.ok scBnd (fun vs H Q E h => ?_) (fun cdv A outer s H vs Q E hr h => ?_)
  · obtain ⟨n, rfl, _⟩ := h
    rfl
  · obtain ⟨n, rfl, k⟩ := h
    refine ⟨_, pss_one (ps_ret (pe_chain op_le op_le (pe_glob (v := .int 2) rfl e1 ⟨_, rfl⟩) (pv 0) (pe_glob (v := .int 60) rfl e2 ⟨_, rfl⟩))), ?_⟩
    refine ⟨_, rfl, _, _, rfl, rfl, _, rfl, ?_⟩
    refine ite2 (fun h1 => ?_) (fun h1 => ?_)
    · have h1 := of_decide_eq_true h1
      have h2 : 2 ≤ n := by omega
      rw [decide_eq_true h2, Bool.true_and] at k
      refine ⟨_, _, rfl, rfl, ?_⟩
      have e : decide ((n : Int) ≤ 60) = decide (n ≤ 60) := by
        apply Bool.eq_iff_iff.mpr
        rw [decide_eq_true_iff, decide_eq_true_iff]
        omega
      show Q (.bl (decide ((n : Int) ≤ 60))) H
      rw [e]
      exact k
    · have h2 : ¬ 2 ≤ n := fun z => h1 (decide_eq_true (by omega))
      rw [decide_eq_false h2, Bool.false_and] at k
      exact k
theorem scTold : FnScope ["n"] ["n"] (defScope sTold) := ⟨rfl, rfl, rfl, by decide +kernel, rfl, by decide +kernel, by decide +kernel⟩
theorem ok_told {f fS fB C : Addr} {fd fdS fdB : FuncData} (F : Fun K "is_as_told" "is_as_told" sTold f fd) (T : Txt K mg C)
    (FB : Fun K "is_in_bounds" "is_in_bounds" sBnd fB fdB) (bB : Binds K fdB ["number"] []) (mB : mg "is_in_bounds" = some (.ref fB))
    (FS : Fun K "is_square" "is_square" sSq fS fdS) (bS : Binds K fdS ["number"] []) (mS : mg "is_square" = some (.ref fS)) : FnOk P w K mg base CX0 2 f fd ["n"] spTold := by
  have GS : FnOk P w K mg base CX0 1 fS fdS ["number"] spSq := ok_sq FS
  have GB : FnOk P w K mg base CX0 1 fB fdB ["number"] spBnd := ok_bnd FB T
  refine F.ok scTold (fun vs H Q E h => ?_) (fun cdv A outer s H vs Q E hr h => ?_)
  · obtain ⟨n, rfl, _⟩ := h
    rfl
  · obtain ⟨n, rfl, k⟩ := h
    refine ⟨_, pss_one (ps_ret (pe_and (pe_call GB hr rfl mB FB.kp bB .nil pass0 (pa_cons (pv 0) pa_nil))
      (pe_one (pe_not (pe_call GS hr rfl mS FS.kp bS .nil pass0 (pa_cons (pv 0) pa_nil)))))), ?_⟩
    have ek : Kp279.okN n = (decide (2 ≤ n) && decide (n ≤ 60) && (Kp279.root n * Kp279.root n != n)) := rfl
    rw [ek] at k
    refine ⟨_, rfl, n, rfl, _, rfl, ?_⟩
    refine ite2 (fun h1 => ?_) (fun h1 => ?_)
    · rw [h1, Bool.true_and] at k
      rw [Bool.and_eq_true] at h1
      have h4 : n ≤ 60 := of_decide_eq_true h1.2
      exact ⟨_, rfl, n, rfl, by omega, _, rfl, k⟩
    · have h1 : (decide (2 ≤ n) && decide (n ≤ 60)) = false := by
        cases e : (decide (2 ≤ n) && decide (n ≤ 60)) with
        | true => exact absurd e h1
        | false => rfl
      rw [h1, Bool.false_and] at k
      exact k
theorem scNear : FnScope ["numbers", "n", "best", "number"] ["numbers", "n"] (defScope sNear) := ⟨rfl, rfl, rfl, by decide +kernel, rfl, by decide +kernel, by decide +kernel⟩
theorem ok_near {f C : Addr} {fd : FuncData} (F : Fun K "nearest_by_square" "nearest_by_square" sNear f fd) (T : Txt K mg C) : FnOk P w K mg base CX0 1 f fd ["numbers", "n"] (spNear K) := by
  refine F.ok scNear (fun vs H Q E h => ?_) (fun cdv A outer s H vs Q E hr h => ?_)
  · obtain ⟨a, l, n, rfl, _⟩ := h
    rfl
  · obtain ⟨a, l, n, rfl, hl, hne, hb, k⟩ := h
    refine ⟨_, pss_cons (ps_set (i := 2) scNear.nd rfl (Or.inl rfl) (pe_ix ix_list (pv 0) pe_int (fun _ _ => rfl)))
      (pss_cons (ps_for PassesOwn.never rfl (pi_list (pv 0)) (pg_name (i := 3) scNear.nd rfl (Or.inl rfl))
        (pss_one (ps_if (pt_cmpR op_lt (pe_callB call_abs (by rfl) T.abs bt_abs (pa_cons (pe_op op_sub (pe_op op_mul (pv 3) (pv 3)) (pv 1)) pa_nil))
            (pe_callB call_abs (by rfl) T.abs bt_abs (pa_cons (pe_op op_sub (pe_op op_mul (pv 2) (pv 2)) (pv 1)) pa_nil)) (nomark _))
          (pss_one (ps_set (i := 2) scNear.nd rfl (Or.inl rfl) (pv 3))) pss_nil)))
      (pss_one (ps_ret (pv 2)))), ?_⟩
    cases l with
    | nil => exact absurd rfl hne
    | cons z0 lr =>
    have key : ∀ i : Nat, ((z0 :: lr).take i).foldl (near n) z0 ≤ 1000 := fun i => by
      rcases foldl_near_mem n ((z0 :: lr).take i) z0 with h | h
      · rw [h]; exact hb z0 (List.mem_cons_self ..)
      · exact hb _ (List.mem_of_mem_take h)
    refine ⟨_, rfl, a, _, _, _, rfl, rfl, hl, atI_nat (j := 0) rfl, ?_⟩
    refine ⟨_, rfl, a, rfl, ⟨_, hl⟩, for_list (K := K) (a := a) (xs := (z0 :: lr).map fun m => V.int (m : Nat)) (fun i σ H' => H' = H ∧ ∃ v : Option V, σ = [some (.ref a), some (.int n), some (.int ((((z0 :: lr).take i).foldl (near n) z0 : Nat) : Int)), v])
      ⟨rfl, none, rfl⟩ (fun i σ H' _ ⟨e, _⟩ => by rw [e]; exact hl) ?_ ?_⟩
    · rintro i y σ H' hi ⟨rfl, v, rfl⟩
      obtain ⟨m, hm, rfl⟩ : ∃ m, (z0 :: lr)[i]? = some m ∧ y = V.int (m : Nat) := by
        rw [List.getElem?_map] at hi
        cases e : (z0 :: lr)[i]? with
        | none => rw [e] at hi; cases hi
        | some m => rw [e] at hi; exact ⟨m, rfl, (Option.some.inj hi).symm⟩
      have mb : m ≤ 1000 := hb m (List.mem_of_getElem? hm)
      have zb := key i
      have e3 : (z0 :: lr).take (i + 1) = (z0 :: lr).take i ++ [m] := by
        rw [List.take_add_one, hm]
        rfl
      have e4 : ((z0 :: lr).take (i + 1)).foldl (near n) z0 = near n (((z0 :: lr).take i).foldl (near n) z0) m := by
        rw [e3, List.foldl_append]
        rfl
      generalize hz : ((z0 :: lr).take i).foldl (near n) z0 = z at *
      refine ⟨_, rfl, _, rfl, _, _, rfl, rfl, .inl ⟨by omega, by omega⟩, _, rfl, _, _, rfl, rfl, _, rfl, _, rfl, _, rfl, _, _, rfl, rfl, .inl ⟨by omega, by omega⟩, _, rfl, _, _, rfl, rfl, _, rfl, _, _, rfl, rfl, _, rfl, ?_⟩
      rw [← Int.natCast_mul, ← Int.natCast_mul, abs_gap, abs_gap]
      refine ite2 (fun h1 => ?_) (fun h1 => ?_)
      · have h1 : Kp279.gap (m * m) n < Kp279.gap (z * z) n := by have := of_decide_eq_true h1; omega
        refine ⟨_, rfl, rfl, some (V.int m), ?_⟩
        show [some (V.ref a), some (V.int n), some (V.int m), some (V.int m)] = _
        rw [e4]
        unfold near
        rw [if_pos h1]
      · have h1 : ¬ Kp279.gap (m * m) n < Kp279.gap (z * z) n := fun q => h1 (decide_eq_true (by omega))
        refine ⟨rfl, some (V.int m), ?_⟩
        rw [e4]
        unfold near
        rw [if_neg h1]
        rfl
    · rintro σ H' ⟨rfl, v, rfl⟩
      refine ⟨_, rfl, ?_⟩
      rw [List.length_map, List.take_length]
      exact k
theorem scFirst : FnScope ["n", "a"] ["n"] (defScope sFirst) := ⟨rfl, rfl, rfl, by decide +kernel, rfl, by decide +kernel, by decide +kernel⟩
theorem ok_first {f fT fN C : Addr} {fd fdT fdN : FuncData} (F : Fun K "first_triple" "first_triple" sFirst f fd) (T : Txt K mg C) (M : Mk K C fT) (FT : Fun K "__init__" "Triple.__init__" sTri fT fdT) (bT : Binds K fdT ["self", "a", "b", "k"] [])
    (FN : Fun K "nearest_by_square" "nearest_by_square" sNear fN fdN) (bN : Binds K fdN ["numbers", "n"] []) (mN : mg "nearest_by_square" = some (.ref fN)) : FnOk P w K mg base CX0 3 f fd ["n"] (spFirst C) := by
  have GT : FnOk P w K mg base CX0 1 fT fdT ["self", "a", "b", "k"] (spTri C) := ok_tri FT T
  have GN : FnOk P w K mg base CX0 1 fN fdN ["numbers", "n"] (spNear K) := ok_near FN T
  refine F.ok scFirst (fun vs H Q E h => ?_) (fun cdv A outer s H vs Q E hr h => ?_)
  · obtain ⟨n, rfl, _⟩ := h
    rfl
  · obtain ⟨n, rfl, h2, h61, k⟩ := h
    have hr1 : Room 1 _ := hr.mono (by decide)
    refine ⟨_, pss_cons (ps_set (i := 1) scFirst.nd rfl (Or.inl rfl) (pe_call GN hr1 rfl mN FN.kp bN .nil pass0 (pa_cons (pe_callTy (call_list_rng rfl) (by rfl) T.list bt_list (pa_cons (pe_callTy call_range2 (by rfl) T.range bt_range (pa_cons pe_int (pa_cons (pe_op op_add (pv 0) pe_int) pa_nil))) pa_nil)) (pa_cons (pv 0) pa_nil))))
      (pss_one (ps_ret (pe_make M GT hr rfl T.mgC bT .nil pass0 (pa_cons (pv 1) (pa_cons pe_int (pa_cons (pe_op op_sub (pe_op op_mul (pv 1) (pv 1)) (pv 0)) pa_nil)))))), ?_⟩
    refine ⟨_, rfl, _, _, rfl, rfl, 1, _, rfl, fun r hr0 => ⟨r, 1, _, rfl, upd_same, by omega, by omega, by omega, fun l hl => ⟨_, rfl, ?_⟩⟩⟩
    have s1 : Same H (upd H r (.rng 1 (n + 1))) := same_new (Same.refl H) hr0
    have s2 := same_new (o := .lst ((List.range ((n : Int) + 1 - 1).toNat).map fun m => V.int (1 + (m : Nat)))) s1 hl
    have el : ((List.range ((n : Int) + 1 - 1).toNat).map fun m => V.int (1 + (m : Nat))) = (ups n).map fun m => V.int (m : Nat) := by
      rw [ups_eq, List.map_map, show ((n : Int) + 1 - 1).toNat = n by omega]
      apply List.map_congr_left
      intro i _
      show V.int (1 + (i : Nat)) = V.int ((i + 1 : Nat) : Int)
      congr 1
      omega
    have une : ups n ≠ [] := by
      rw [ups_eq]
      cases n with
      | zero => omega
      | succ n => rw [List.range_succ_eq_map]; exact fun z => by cases z
    refine ⟨l, ups n, n, rfl, ?_, une, fun m hm => by have := (ups_pos hm).2; omega, ?_⟩
    · rw [← el]
      exact SqL.of upd_same
    · rw [first_all n h61 h2]
      have ab : (Kp280.first n).a ≤ 60 := by
        rw [← first_all n h61 h2]
        have := (ups_pos (nearest_mem (n := n) une)).2
        omega
      refine ⟨_, rfl, _, rfl, _, rfl, _, _, rfl, rfl, .inl ⟨by omega, by omega⟩, _, rfl, _, _, rfl, rfl, ?_⟩
      intro x dx nx nd ndx
      refine ⟨x, dx, Kp280.first n, rfl, upd_same, fun H' c kp => ⟨rfl, ?_⟩⟩
      exact k H' x (s2.trans (Same.made nx nd kp)) (s2.free nx) c
end
end Rw
end
section
set_option Elab.async false
set_option linter.all false
set_option maxRecDepth 100000
set_option maxHeartbeats 4000000
namespace Rw
open PySem PySem.Spec PyProof.Rows L2
open PySem.W (Codec)
open Kp280 (Triple)
def spFit (C : Addr) : Sp := fun vs H Q _ => ∃ (p : Addr) (t : Triple) (m : Nat), vs = [.ref p, .int m] ∧ TripAt C H p t ∧ t.k ≠ 0 ∧ m ≤ 1000 ∧ Q (.bl (Kp280.fits t m)) H
def spTaken (C : Addr) : Sp := fun vs H Q _ => ∃ (p : Addr) (t : Triple) (n : Nat), vs = [.ref p, .int n] ∧ TripAt C H p t ∧ n < 61 ∧ t.k ≠ 0 ∧ Kp280.taken n t ≠ 0 ∧ ∀ H' : Hp, Same H H' → Q (.int (Kp280.taken n t)) H'
def spNext (C : Addr) : Sp := fun vs H Q _ => ∃ (p : Addr) (t : Triple) (n : Nat), vs = [.ref p, .int n] ∧ TripAt C H p t ∧ n < 61 ∧ OkT n t ∧ ∀ (H' : Hp) (q : Addr), Same H H' → H q = Option.none → TripAt C H' q (Kp280.next n t) → Q (.ref q) H'
theorem fits_fmod (t : Triple) (m : Nat) : decide (V.int (((t.a : Int) + (m : Int) * (t.b : Int)).fmod t.k) = V.int 0) = Kp280.fits t m := by
  rw [vint_eq]
  unfold Kp280.fits
  apply Bool.eq_iff_iff.mpr
  rw [decide_eq_true_iff, beq_iff_eq]
  exact ⟨fun z => Int.emod_eq_zero_of_dvd (Int.dvd_of_fmod_eq_zero z), fun z => Int.fmod_eq_zero_of_dvd (Int.dvd_of_emod_eq_zero z)⟩
theorem taken_le {n : Nat} {t : Triple} (h : Kp280.taken n t ≠ 0) : Kp280.taken n t ≤ 2 * n ∧ fitting n t ≠ [] := by
  rw [taken_eq] at h ⊢
  have hne : fitting n t ≠ [] := fun z => by rw [z] at h; exact h rfl
  have := nearest_mem (n := n) hne
  exact ⟨(ups_pos (List.mem_filter.mp this).1).2, hne⟩
section
variable {P : Program} {w : World} {K : PySem.W.Frag} {mg : Str → Option Value} {base : Heap}
theorem scFit : FnScope ["triple", "m"] ["triple", "m"] (defScope sFit) := ⟨rfl, rfl, rfl, by decide +kernel, rfl, by decide +kernel, by decide +kernel⟩
theorem ok_fit {f C : Addr} {fd : FuncData} (F : Fun K "is_fitting" "is_fitting" sFit f fd) (T : Txt K mg C) : FnOk P w K mg base CX0 1 f fd ["triple", "m"] (spFit C) := by
  refine F.ok scFit (fun vs H Q E h => ?_) (fun cdv A outer s H vs Q E hr h => ?_)
  · obtain ⟨p, t, m, rfl, _⟩ := h
    rfl
  · obtain ⟨p, t, m, rfl, ⟨dx, hp⟩, hk, hm, k⟩ := h
    refine ⟨_, pss_one (ps_ret (pe_cmpR op_eq (pe_op op_modN (pe_op op_add (pe_fld (pv 0) rfl) (pe_op op_mul (pv 1) (pe_fld (pv 0) rfl))) (pe_fld (pv 0) rfl)) pe_int (nomark _))), ?_⟩
    refine ⟨_, rfl, p, C, dx, _, _, rfl, hp, T.cl, T.nA, tf_a _, _, rfl, _, rfl, p, C, dx, _, _, rfl, hp, T.cl, T.nB, tf_b _, _, _, rfl, rfl, .inl ⟨by omega, by omega⟩, _, _, rfl, rfl,
      _, rfl, p, C, dx, _, _, rfl, hp, T.cl, T.nK, tf_k _, _, _, rfl, rfl, hk, rfl, ?_⟩
    show Q (.bl (decide (V.int (((t.a : Int) + (m : Int) * (t.b : Int)).fmod t.k) = V.int 0))) H
    rw [fits_fmod]
    exact k
theorem scTaken : FnScope ["triple", "n", "fitting", "m"] ["triple", "n"] (defScope sTaken) := ⟨rfl, rfl, rfl, by decide +kernel, rfl, by decide +kernel, by decide +kernel⟩
theorem ok_taken {f fF fN C : Addr} {fd fdF fdN : FuncData} (F : Fun K "number_taken" "number_taken" sTaken f fd) (T : Txt K mg C)
    (FF : Fun K "is_fitting" "is_fitting" sFit fF fdF) (bF : Binds K fdF ["triple", "m"] []) (mF : mg "is_fitting" = some (.ref fF))
    (FN : Fun K "nearest_by_square" "nearest_by_square" sNear fN fdN) (bN : Binds K fdN ["numbers", "n"] []) (mN : mg "nearest_by_square" = some (.ref fN)) : FnOk P w K mg base CX0 2 f fd ["triple", "n"] (spTaken C) := by
  have GF : FnOk P w K mg base CX0 1 fF fdF ["triple", "m"] (spFit C) := ok_fit FF T
  have GN : FnOk P w K mg base CX0 1 fN fdN ["numbers", "n"] (spNear K) := ok_near FN T
  refine F.ok scTaken (fun vs H Q E h => ?_) (fun cdv A outer s H vs Q E hr h => ?_)
  · obtain ⟨p, t, n, rfl, _⟩ := h
    rfl
  · obtain ⟨p, t, n, rfl, hp, hn, hk, ht, k⟩ := h
    refine ⟨_, pss_cons (ps_setLc (i := 2) (own := [("m", 3)]) rfl scTaken.nd rfl rfl (sw_true rfl rfl rfl (by decide +kernel))
        (pi_range2 (by rfl) T.range (pa_cons pe_int (pa_cons (pe_op op_add (pe_op op_mul pe_int (pv 1)) pe_int) pa_nil))) (show BlkOk ["triple", "n", "fitting", "m"] (defScope sTaken) _ [("m", 3)] from ⟨rfl, by decide +kernel, by decide +kernel, by decide +kernel, by decide +kernel⟩)
        (fun s H C cl fp => pg_name (i := 3) scTaken.nd rfl (Or.inl rfl))
        (fun s H C cl fp => pts_one (pt_val (pe_call GF hr rfl mF FF.kp bF .nil pass0 (pa_cons (pv 0) (pa_cons (pv 3) pa_nil)))))
        (fun s H C cl fp => pv 3))
      (pss_one (ps_ret (pe_call GN hr rfl mN FN.kp bN .nil pass0 (pa_cons (pv 2) (pa_cons (pv 1) pa_nil))))), ?_⟩
    have hm : CMul 2 (n : Int) := .inl ⟨by decide, by decide⟩
    have e2n : (2 * (n : Int) + 1 - 1).toNat = 2 * n := by omega
    refine ⟨_, rfl, _, _, rfl, rfl, hm, _, _, rfl, rfl, 1, _, rfl, ⟨by decide, by decide, by omega, by omega⟩, fun D hD => ?_⟩
    show ∃ W : Nat → Nat → Hp → Prop, _
    rw [e2n]
    refine lc_range (lo := 1) (n := 2 * n) (fun i H' => Same H H' ∧ H' D = some (.lst ((((List.range i).map (· + 1)).filter (Kp280.fits t)).map fun m => V.int (m : Nat)))) ⟨same_new (Same.refl H) hD, upd_same⟩ ?_ ?_
    · rintro i H' hi ⟨s1, hl⟩
      have ei : (1 : Int) + (i : Nat) = ((i + 1 : Nat) : Int) := by omega
      rw [ei]
      have er : (((List.range (i + 1)).map (· + 1)).filter (Kp280.fits t)) = (((List.range i).map (· + 1)).filter (Kp280.fits t)) ++ (if Kp280.fits t (i + 1) = true then [i + 1] else []) := by
        rw [List.range_succ, List.map_append, List.filter_append]
        congr 1
        show List.filter (Kp280.fits t) [i + 1] = _
        rw [List.filter_cons, List.filter_nil]
      refine ⟨rfl, _, rfl, _, rfl, p, t, i + 1, rfl, hp.same s1, hk, by omega, _, rfl, ?_⟩
      refine ite2 (fun hf => ?_) (fun hf => ?_)
      · refine ⟨_, rfl, _, hl, ?_, ?_, ?_⟩
        · rw [List.length_map]
          refine Nat.lt_of_le_of_lt (List.length_filter_le _ _) ?_
          rw [List.length_map, List.length_range]
          exact small1000 (by omega)
        · exact fun b o e => by
            by_cases hb : b = D
            · subst hb; rw [hD] at e; cases e
            · rw [upd_ne hb]; exact s1 _ _ e
        · rw [upd_same, er, if_pos hf, List.map_append]
          rfl
      · refine ⟨s1, ?_⟩
        rw [hl, er, if_neg hf, List.append_nil]
    · rintro H' ⟨s1, hl⟩
      have ef : ((List.range (2 * n)).map (· + 1)).filter (Kp280.fits t) = fitting n t := by
        unfold fitting
        rw [ups_eq]
      rw [ef] at hl
      refine ⟨_, rfl, _, rfl, D, fitting n t, n, rfl, SqL.of hl, (taken_le ht).2, fun m hm => ?_, ?_⟩
      · have := (ups_pos (List.mem_filter.mp hm).1).2
        omega
      · rw [← taken_eq]
        exact k H' s1
theorem scNext : FnScope ["triple", "n", "m", "size", "a", "b"] ["triple", "n"] (defScope sNext) := ⟨rfl, rfl, rfl, by decide +kernel, rfl, by decide +kernel, by decide +kernel⟩
theorem ok_next {f fK fT C : Addr} {fd fdK fdT : FuncData} (F : Fun K "next_triple" "next_triple" sNext f fd) (T : Txt K mg C) (M : Mk K C fT) (FT : Fun K "__init__" "Triple.__init__" sTri fT fdT) (bT : Binds K fdT ["self", "a", "b", "k"] [])
    (GK : FnOk P w K mg base CX0 2 fK fdK ["triple", "n"] (spTaken C)) (FK : Fun K "number_taken" "number_taken" sTaken fK fdK) (bK : Binds K fdK ["triple", "n"] []) (mK : mg "number_taken" = some (.ref fK)) : FnOk P w K mg base CX0 3 f fd ["triple", "n"] (spNext C) := by
  have GT : FnOk P w K mg base CX0 1 fT fdT ["self", "a", "b", "k"] (spTri C) := ok_tri FT T
  refine F.ok scNext (fun vs H Q E h => ?_) (fun cdv A outer s H vs Q E hr h => ?_)
  · obtain ⟨p, t, n, rfl, _⟩ := h
    rfl
  · obtain ⟨p, t, n, rfl, hp, hn, ok, k⟩ := h
    refine ⟨_, pss_cons (ps_set (i := 2) scNext.nd rfl (Or.inl rfl) (pe_call GK hr rfl mK FK.kp bK .nil pass0 (pa_cons (pv 0) (pa_cons (pv 1) pa_nil))))
      (pss_cons (ps_set (i := 3) scNext.nd rfl (Or.inl rfl) (pe_callB call_abs (by rfl) T.abs bt_abs (pa_cons (pe_fld (pv 0) rfl) pa_nil)))
      (pss_cons (ps_set (i := 4) scNext.nd rfl (Or.inl rfl) (pe_op op_fdiv (pe_op op_add (pe_op op_mul (pe_fld (pv 0) rfl) (pv 2)) (pe_op op_mul (pv 1) (pe_fld (pv 0) rfl))) (pv 3)))
      (pss_cons (ps_set (i := 5) scNext.nd rfl (Or.inl rfl) (pe_op op_fdiv (pe_op op_add (pe_fld (pv 0) rfl) (pe_op op_mul (pe_fld (pv 0) rfl) (pv 2))) (pv 3)))
      (pss_one (ps_ret (pe_make M GT hr rfl T.mgC bT .nil pass0 (pa_cons (pv 4) (pa_cons (pv 5) (pa_cons (pe_op op_fdivN (pe_op op_sub (pe_op op_mul (pv 2) (pv 2)) (pv 1)) (pe_fld (pv 0) rfl)) pa_nil))))))))), ?_⟩
    have tl := (taken_le ok.m0).1
    have k0 := ok.k0
    have ks := ok.ks
    refine ⟨_, rfl, _, rfl, p, t, n, rfl, hp, hn, ok.k0, ok.m0, fun H1 s1 => ?_⟩
    obtain ⟨dx, hp1⟩ := hp.same s1
    generalize hm : Kp280.taken n t = m at *
    have eK : (if t.k < 0 then -t.k else t.k) = (t.k.natAbs : Int) := by split <;> omega
    refine ⟨_, rfl, p, C, dx, _, _, rfl, hp1, T.cl, T.nK, tf_k _, _, rfl, ?_⟩
    rw [eK]
    have cd : ∀ x : Int, CDiv x (t.k.natAbs : Int) := fun x => ⟨by omega, by omega⟩
    refine ⟨_, rfl, p, C, dx, _, _, rfl, hp1, T.cl, T.nA, tf_a _, _, rfl, _, _, rfl, rfl, .inr ⟨by omega, by omega⟩, _, rfl, _, rfl, p, C, dx, _, _, rfl, hp1, T.cl, T.nB, tf_b _, _, _, rfl, rfl, .inl ⟨by omega, by omega⟩, _, _, rfl, rfl,
      _, rfl, _, _, rfl, rfl, cd _, ?_⟩
    refine ⟨_, rfl, p, C, dx, _, _, rfl, hp1, T.cl, T.nA, tf_a _, _, rfl, p, C, dx, _, _, rfl, hp1, T.cl, T.nB, tf_b _, _, rfl, _, _, rfl, rfl, .inr ⟨by omega, by omega⟩, _, _, rfl, rfl,
      _, rfl, _, _, rfl, rfl, cd _, ?_⟩
    refine ⟨_, rfl, _, rfl, _, rfl, _, rfl, _, _, rfl, rfl, .inl ⟨by omega, by omega⟩, _, rfl, _, _, rfl, rfl, _, rfl, p, C, dx, _, _, rfl, hp1, T.cl, T.nK, tf_k _, _, _, rfl, rfl, ⟨k0, by omega⟩, ?_⟩
    intro x dx nx nd ndx
    refine ⟨x, dx, Kp280.next n t, ?_, upd_same, fun H' c kp => ⟨rfl, ?_⟩⟩
    · have e1 : ((t.a : Int) * (m : Int) + (n : Int) * (t.b : Int)) / (t.k.natAbs : Int) = (((Kp280.next n t).a : Nat) : Int) := by
        show _ = (((t.a * Kp280.taken n t + n * t.b) / t.k.natAbs : Nat) : Int)
        rw [hm, Int.natCast_ediv, Int.natCast_add, Int.natCast_mul, Int.natCast_mul]
      have e2 : ((t.a : Int) + (t.b : Int) * (m : Int)) / (t.k.natAbs : Int) = (((Kp280.next n t).b : Nat) : Int) := by
        show _ = (((t.a + t.b * Kp280.taken n t) / t.k.natAbs : Nat) : Int)
        rw [hm, Int.natCast_ediv, Int.natCast_add, Int.natCast_mul]
      have e3 : ((m : Int) * (m : Int) - (n : Int)).fdiv t.k = (Kp280.next n t).k := by
        show _ = ((Kp280.taken n t : Int) * (Kp280.taken n t : Int) - (n : Int)) / t.k
        have d := ok.dv
        rw [hm] at d
        rw [hm]
        exact Int.fdiv_eq_ediv_of_dvd (Int.dvd_of_emod_eq_zero d)
      show [V.ref x, V.int (((t.a : Int) * (m : Int) + (n : Int) * (t.b : Int)) / (t.k.natAbs : Int)), V.int (((t.a : Int) + (t.b : Int) * (m : Int)) / (t.k.natAbs : Int)), V.int (((m : Int) * (m : Int) - (n : Int)).fdiv t.k)] = _
      rw [e1, e2, e3]
    · exact k H' x (s1.trans (Same.made nx nd kp)) (s1.free nx) c
end
end Rw
end
section
set_option Elab.async false
set_option linter.all false
set_option maxRecDepth 100000
set_option maxHeartbeats 4000000
namespace Rw
open PySem PySem.Spec PyProof.Rows L2
open PySem.W (Codec)
open Kp280 (Triple)
/-- the list at p holds triples, which are ts -/
def TripsAt (C : Addr) (H : Hp) (p : Addr) (ts : List Triple) : Prop := ∃ as : List Addr, H p = some (.lst (as.map V.ref)) ∧ as.length = ts.length ∧ ∀ (j : Nat) (a : Addr) (t : Triple), as[j]? = some a → ts[j]? = some t → TripAt C H a t
theorem TripsAt.same {C : Addr} {H H' : Hp} {p : Addr} {ts : List Triple} (h : TripsAt C H p ts) (s : Same H H') : TripsAt C H' p ts := by
  obtain ⟨as, h1, h2, h3⟩ := h
  exact ⟨as, s _ _ h1, h2, fun j a t ha ht => (h3 j a t ha ht).same s⟩
/-- an int list comes out, new -/
def Gives (H : Hp) (Q : VK) (l : List Int) : Prop := ∀ (H' : Hp) (p : Addr), Same H H' → H p = Option.none → H' p = some (.lst (l.map V.int)) → Q (.ref p) H'
def spAfter (C : Addr) : Sp := fun vs H Q _ => ∃ n j : Nat, vs = [.int n, .int j] ∧ Kp279.okN n = true ∧ j ≤ 60 ∧ ∀ (H' : Hp) (q : Addr), Same H H' → H q = Option.none → TripAt C H' q (tr n j) → Q (.ref q) H'
def spWay (C : Addr) : Sp := fun vs H Q _ => ∃ n : Nat, vs = [.int n] ∧ Kp279.okN n = true ∧ ∀ (H' : Hp) (q : Addr), Same H H' → H q = Option.none → TripsAt C H' q (Kp280.all n) → Q (.ref q) H'
def spTellT (C : Addr) : Sp := fun vs H Q _ => ∃ (p : Addr) (t : Triple), vs = [.ref p] ∧ TripAt C H p t ∧ Gives H Q [0, t.a, t.b, t.k]
def spPairs (C : Addr) : Sp := fun vs H Q _ => ∃ (p : Addr) (ts : List Triple), vs = [.ref p] ∧ TripsAt C H p ts ∧ ts.length ≤ 100 ∧ Gives H Q ((ts.length : Int) :: ts.flatMap fun t => [(t.a : Int), (t.b : Int)])
def spDiffs (C : Addr) : Sp := fun vs H Q _ => ∃ (p : Addr) (ts : List Triple), vs = [.ref p] ∧ TripsAt C H p ts ∧ ts.length ≤ 100 ∧ Gives H Q ((ts.length : Int) :: ts.map fun t => t.k)
def spLeast : Sp := fun vs H Q _ => ∃ n : Nat, vs = [.int n] ∧ Gives H Q (if Kp279.okN n then [0, ((Kp280.least n).x : Int), ((Kp280.least n).y : Int)] else [-22])
section
variable {P : Program} {w : World} {K : PySem.W.Frag} {mg : Str → Option Value} {base : Heap}
theorem scAfter : FnScope ["n", "j", "triple", "turn"] ["n", "j"] (defScope sAfter) := ⟨rfl, rfl, rfl, by decide +kernel, rfl, by decide +kernel, by decide +kernel⟩
theorem ok_after {f fF fX C : Addr} {fd fdF fdX : FuncData} (F : Fun K "triple_after" "triple_after" sAfter f fd) (T : Txt K mg C)
    (GF : FnOk P w K mg base CX0 3 fF fdF ["n"] (spFirst C)) (FF : Fun K "first_triple" "first_triple" sFirst fF fdF) (bF : Binds K fdF ["n"] []) (mF : mg "first_triple" = some (.ref fF))
    (GX : FnOk P w K mg base CX0 3 fX fdX ["triple", "n"] (spNext C)) (FX : Fun K "next_triple" "next_triple" sNext fX fdX) (bX : Binds K fdX ["triple", "n"] []) (mX : mg "next_triple" = some (.ref fX)) : FnOk P w K mg base CX0 4 f fd ["n", "j"] (spAfter C) := by
  refine F.ok scAfter (fun vs H Q E h => ?_) (fun cdv A outer s H vs Q E hr h => ?_)
  · obtain ⟨n, j, rfl, _⟩ := h
    rfl
  · obtain ⟨n, j, rfl, hn, hj, k⟩ := h
    have hb := okN_lt hn
    refine ⟨_, pss_cons (ps_set (i := 2) scAfter.nd rfl (Or.inl rfl) (pe_call GF hr rfl mF FF.kp bF .nil pass0 (pa_cons (pv 0) pa_nil)))
      (pss_cons (ps_for PassesOwn.never rfl (pi_range1 rfl T.range (pa_cons (pv 1) pa_nil)) (pg_name (i := 3) scAfter.nd rfl (Or.inl rfl))
        (pss_one (ps_set (i := 2) scAfter.nd rfl (Or.inl rfl) (pe_call GX hr rfl mX FX.kp bX .nil pass0 (pa_cons (pv 2) (pa_cons (pv 0) pa_nil))))))
      (pss_one (ps_ret (pv 2)))), ?_⟩
    refine ⟨_, rfl, n, rfl, hb.1, hb.2, fun H1 q s1 hq ht => ?_⟩
    refine ⟨_, rfl, (j : Int), rfl, by omega, by omega, ?_⟩
    rw [show ((j : Int)).toNat = j by omega]
    refine for_range (lo := 0) (n := j) (fun i σ H' => ∃ (q : Addr) (v : Option V), σ = [some (.int n), some (.int j), some (.ref q), v] ∧ Same H H' ∧ H q = Option.none ∧ TripAt C H' q (tr n i)) ⟨q, none, rfl, s1, hq, ht⟩ ?_ ?_
    · rintro i σ H' hi ⟨q, v, rfl, s2, hq, ht⟩
      refine ⟨_, rfl, _, rfl, q, tr n i, n, rfl, ht, hb.2, tr_ok hn (by omega), fun H2 q2 s3 hq2 ht2 => ?_⟩
      rw [← tr_succ] at ht2
      exact ⟨q2, _, rfl, s2.trans s3, s2.free hq2, ht2⟩
    · rintro σ H' ⟨q, v, rfl, s2, hq, ht⟩
      exact ⟨_, rfl, k H' q s2 hq ht⟩
theorem scWay : FnScope ["n", "triple", "way"] ["n"] (defScope sWay) := ⟨rfl, rfl, rfl, by decide +kernel, rfl, by decide +kernel, by decide +kernel⟩
theorem get_snoc {α : Type} {l : List α} {x : α} {j : Nat} {y : α} (h : (l ++ [x])[j]? = some y) : l[j]? = some y ∨ (j = l.length ∧ y = x) := by
  rcases Nat.lt_trichotomy j l.length with e | e | e
  · rw [List.getElem?_append_left e] at h
    exact .inl h
  · subst e
    rw [List.getElem?_append_right (Nat.le_refl _), Nat.sub_self] at h
    exact .inr ⟨rfl, (Option.some.inj h).symm⟩
  · rw [List.getElem?_eq_none (by rw [List.length_append, List.length_singleton]; omega)] at h
    cases h
theorem TripsAt.snoc {C : Addr} {H : Hp} {p q : Addr} {ts : List Triple} {as : List Addr} {t : Triple} (h1 : H p = some (.lst (as.map V.ref))) (h2 : as.length = ts.length) (h3 : ∀ (j : Nat) (a : Addr) (t : Triple), as[j]? = some a → ts[j]? = some t → TripAt C H a t) (hq : TripAt C H q t) :
    TripsAt C (upd H p (.lst (as.map V.ref ++ [.ref q]))) p (ts ++ [t]) := by
  have mv : ∀ {a : Addr} {u : Triple}, TripAt C H a u → TripAt C (upd H p (.lst (as.map V.ref ++ [.ref q]))) a u := fun {a u} ⟨dx, e⟩ => ⟨dx, by rw [upd_ne (ne_of e h1 (by intro z; cases z))]; exact e⟩
  refine ⟨as ++ [q], by rw [upd_same, List.map_append]; rfl, by rw [List.length_append, List.length_append, h2]; rfl, fun j a u ha hu => ?_⟩
  rcases get_snoc ha with ha | ⟨e1, e2⟩
  · rcases get_snoc hu with hu | ⟨e3, e4⟩
    · exact mv (h3 j a u ha hu)
    · rw [e3, ← h2, List.getElem?_eq_none (Nat.le_refl _)] at ha
      cases ha
  · rcases get_snoc hu with hu | ⟨e3, e4⟩
    · rw [e1, h2, List.getElem?_eq_none (Nat.le_refl _)] at hu
      cases hu
    · rw [e2, e4]
      exact mv hq
theorem ok_way {f fF fX C : Addr} {fd fdF fdX : FuncData} (F : Fun K "way_of" "way_of" sWay f fd) (T : Txt K mg C)
    (GF : FnOk P w K mg base CX0 3 fF fdF ["n"] (spFirst C)) (FF : Fun K "first_triple" "first_triple" sFirst fF fdF) (bF : Binds K fdF ["n"] []) (mF : mg "first_triple" = some (.ref fF))
    (GX : FnOk P w K mg base CX0 3 fX fdX ["triple", "n"] (spNext C)) (FX : Fun K "next_triple" "next_triple" sNext fX fdX) (bX : Binds K fdX ["triple", "n"] []) (mX : mg "next_triple" = some (.ref fX)) : FnOk P w K mg base CX0 4 f fd ["n"] (spWay C) := by
  refine F.ok scWay (fun vs H Q E h => ?_) (fun cdv A outer s H vs Q E hr h => ?_)
  · obtain ⟨n, rfl, _⟩ := h
    rfl
  · obtain ⟨n, rfl, hn, k⟩ := h
    have hb := okN_lt hn
    have hL := long_lt hn
    refine ⟨_, pss_cons (ps_set (i := 1) scWay.nd rfl (Or.inl rfl) (pe_call GF hr rfl mF FF.kp bF .nil pass0 (pa_cons (pv 0) pa_nil)))
      (pss_cons (ps_set (i := 2) scWay.nd rfl (Or.inl rfl) (pe_lst (pa_cons (pv 1) pa_nil)))
      (pss_cons (ps_while PassesOwn.never (pt_cmpR op_ne (pe_fld (pv 1) rfl) pe_int (nomark _))
        (pss_cons (ps_set (i := 1) scWay.nd rfl (Or.inl rfl) (pe_call GX hr rfl mX FX.kp bX .nil pass0 (pa_cons (pv 1) (pa_cons (pv 0) pa_nil))))
        (pss_one (ps_expr (pe_bm PySem.F.plainAttrs_list PySem.F.slot_list_append PySem.F.type_list_append mt_append (pv 2) (pa_cons (pv 1) pa_nil))))))
      (pss_one (ps_ret (pv 2))))), ?_⟩
    refine ⟨_, rfl, n, rfl, hb.1, hb.2, fun H1 q s1 hq ht => ?_⟩
    refine ⟨_, rfl, (by show 1 ≤ sizeLine; decide), fun p hp => ?_⟩
    have s2 : Same H1 (upd H1 p (.lst [.ref q])) := same_new (Same.refl _) hp
    have hpH : H p = Option.none := s1.free hp
    refine while_by (fun σ H' => ∃ (q : Addr) (j : Nat) (as : List Addr), σ = [some (.int n), some (.ref q), some (.ref p)] ∧ Same H H' ∧ j ≤ long n ∧ TripAt C H' q (tr n j) ∧ H' p = some (.lst (as.map V.ref)) ∧ as.length = j + 1 ∧
        ∀ (i : Nat) (a : Addr) (t : Triple), as[i]? = some a → ((List.range (j + 1)).map (tr n))[i]? = some t → TripAt C H' a t) (fun _ H' => 100 - (match H' p with | some (.lst xs) => xs.length | _ => 0))
      ⟨q, 0, [q], rfl, s1.trans s2, Nat.zero_le _, ht.same s2, upd_same, rfl, fun i a t ha hu => ?_⟩ ?_ ?_
    · cases i with
      | zero =>
        cases ha
        cases hu
        exact ht.same s2
      | succ i => cases ha
    · rintro σ H' ⟨q, j, as, rfl, s3, hj, ⟨dx, htq⟩, hl, hlen, hall⟩
      refine ⟨_, rfl, q, C, dx, _, _, rfl, htq, T.cl, T.nK, tf_k _, rfl, _, rfl, ?_⟩
      rw [vint_eq]
      by_cases e1 : (tr n j).k = 1
      · rw [decide_eq_true e1]
        refine iteF ⟨_, rfl, ?_⟩
        have ej : j = long n := by
          rcases Nat.lt_or_ge j (long n) with z | z
          · exact absurd e1 (tr_not z)
          · omega
        subst ej
        refine k H' p s3 hpH ?_
        rw [all_map]
        exact ⟨as, hl, by rw [hlen, List.length_map, List.length_range], hall⟩
      · rw [decide_eq_false e1]
        refine iteT ?_
        have ej : j < long n := by
          rcases Nat.lt_or_ge j (long n) with z | z
          · exact z
          · have : j = long n := by omega
            subst this
            exact absurd (tr_end hn) e1
        refine ⟨_, rfl, _, rfl, q, tr n j, n, rfl, ⟨dx, htq⟩, hb.2, tr_ok hn (by omega), fun H2 q2 s4 hq2 ht2 => ?_⟩
        rw [← tr_succ] at ht2
        refine ⟨_, rfl, .inl ⟨rfl, _, SqL.of (s4 _ _ hl)⟩, _, rfl, p, _, _, rfl, rfl, s4 _ _ hl, by rw [List.length_map, hlen]; exact small1000 (by omega), ?_⟩
        obtain ⟨as2, h1, h2, h3⟩ := TripsAt.snoc (s4 _ _ hl) (ts := (List.range (j + 1)).map (tr n)) (by rw [hlen, List.length_map, List.length_range]) (fun i a t ha hu => (hall i a t ha hu).same s4) ht2
        refine ⟨⟨q2, j + 1, as2, rfl, ?_, ej, ?_, h1, ?_, ?_⟩, ?_⟩
        · intro b o e
          by_cases hbp : b = p
          · subst hbp; rw [hpH] at e; cases e
          · rw [upd_ne hbp]; exact s4 _ _ (s3 _ _ e)
        · obtain ⟨dx2, e⟩ := ht2
          exact ⟨dx2, by rw [upd_ne (ne_of e (s4 _ _ hl) (by intro z; cases z))]; exact e⟩
        · rw [h2, List.length_append, List.length_map, List.length_range]
          rfl
        · rw [List.range_succ, List.map_append]
          exact h3
        · show 100 - (match upd H2 p (.lst (as.map V.ref ++ [.ref q2])) p with | some (.lst xs) => xs.length | _ => 0) < 100 - (match H' p with | some (.lst xs) => xs.length | _ => 0)
          rw [upd_same, hl]
          show 100 - (as.map V.ref ++ [V.ref q2]).length < 100 - (as.map V.ref).length
          rw [List.length_append, List.length_map, hlen, List.length_singleton]
          omega
    · rintro σ H' Q1 Q2 hQ ⟨x, h1, a, C', dx, fs, v, h2, h3, h4, h5, h6, h7, b, h8, h9⟩
      exact ⟨x, h1, a, C', dx, fs, v, h2, h3, h4, h5, h6, h7, b, h8, hQ _ _ h9⟩
end
end Rw
end
section
set_option Elab.async false
set_option linter.all false
set_option maxRecDepth 100000
set_option maxHeartbeats 4000000
namespace Rw
open PySem PySem.Spec PyProof.Rows L2
open PySem.W (Codec)
open Kp280 (Triple)
section
variable {P : Program} {w : World} {K : PySem.W.Frag} {mg : Str → Option Value} {base : Heap}
theorem scTellT : FnScope ["triple"] ["triple"] (defScope sTellT) := ⟨rfl, rfl, rfl, by decide +kernel, rfl, by decide +kernel, by decide +kernel⟩
theorem ok_tellT {f C : Addr} {fd : FuncData} (F : Fun K "tell_triple" "tell_triple" sTellT f fd) (T : Txt K mg C) : FnOk P w K mg base CX0 1 f fd ["triple"] (spTellT C) := by
  refine F.ok scTellT (fun vs H Q E h => ?_) (fun cdv A outer s H vs Q E hr h => ?_)
  · obtain ⟨p, t, rfl, _⟩ := h
    rfl
  · obtain ⟨p, t, rfl, ⟨dx, hp⟩, k⟩ := h
    refine ⟨_, pss_one (ps_ret (pe_lst (pa_cons pe_int (pa_cons (pe_fld (pv 0) rfl) (pa_cons (pe_fld (pv 0) rfl) (pa_cons (pe_fld (pv 0) rfl) pa_nil)))))), ?_⟩
    refine ⟨_, rfl, p, C, dx, _, _, rfl, hp, T.cl, T.nA, tf_a _, _, rfl, p, C, dx, _, _, rfl, hp, T.cl, T.nB, tf_b _, _, rfl, p, C, dx, _, _, rfl, hp, T.cl, T.nK, tf_k _, (by show 4 ≤ sizeLine; decide), fun l hl => ?_⟩
    exact k _ l (same_new (Same.refl _) hl) hl upd_same
theorem scPairs : FnScope ["way", "numbers", "triple"] ["way"] (defScope sPairs) := ⟨rfl, rfl, rfl, by decide +kernel, rfl, by decide +kernel, by decide +kernel⟩
theorem ok_pairs {f C : Addr} {fd : FuncData} (F : Fun K "tell_pairs" "tell_pairs" sPairs f fd) (T : Txt K mg C) : FnOk P w K mg base CX0 1 f fd ["way"] (spPairs C) := by
  refine F.ok scPairs (fun vs H Q E h => ?_) (fun cdv A outer s H vs Q E hr h => ?_)
  · obtain ⟨p, ts, rfl, _⟩ := h
    rfl
  · obtain ⟨p, ts, rfl, ⟨as, hp, hlen, hall⟩, h100, k⟩ := h
    refine ⟨_, pss_cons (ps_set (i := 1) scPairs.nd rfl (Or.inl rfl) (pe_lst (pa_cons (pe_callB call_len_seq (by rfl) T.len bt_len (pa_cons (pv 0) pa_nil)) pa_nil)))
      (pss_cons (ps_for PassesOwn.never rfl (pi_list (pv 0)) (pg_name (i := 2) scPairs.nd rfl (Or.inl rfl))
        (pss_cons (ps_expr (pe_bm PySem.F.plainAttrs_list PySem.F.slot_list_append PySem.F.type_list_append mt_append (pv 1) (pa_cons (pe_fld (pv 2) rfl) pa_nil)))
        (pss_one (ps_expr (pe_bm PySem.F.plainAttrs_list PySem.F.slot_list_append PySem.F.type_list_append mt_append (pv 1) (pa_cons (pe_fld (pv 2) rfl) pa_nil))))))
      (pss_one (ps_ret (pv 1)))), ?_⟩
    refine ⟨_, rfl, p, _, rfl, .inl (SqL.of hp), (by show 1 ≤ sizeLine; decide), fun l hl => ?_⟩
    have e0 : ((as.map V.ref).length : Int) = (ts.length : Int) := by rw [List.length_map, hlen]
    rw [e0]
    have s1 : Same H (upd H l (.lst [.int ts.length])) := same_new (Same.refl _) hl
    refine ⟨_, rfl, p, rfl, ⟨_, SqL.of (s1 _ _ hp)⟩, for_list (K := K) (a := p) (xs := as.map V.ref) (fun i σ H' => ∃ v : Option V, σ = [some (.ref p), some (.ref l), v] ∧ Same H H' ∧ H' l = some (.lst (((ts.length : Int) :: (ts.take i).flatMap fun t => [(t.a : Int), (t.b : Int)]).map V.int)))
      ⟨none, rfl, s1, upd_same⟩ (fun i σ H' _ ⟨_, _, s2, _⟩ => SqL.of (s2 _ _ hp)) ?_ ?_⟩
    · rintro i y σ H' hi ⟨v, rfl, s2, hl2⟩
      obtain ⟨a, ha, rfl⟩ : ∃ a, as[i]? = some a ∧ y = V.ref a := by
        rw [List.getElem?_map] at hi
        cases e : as[i]? with
        | none => rw [e] at hi; cases hi
        | some a => rw [e] at hi; exact ⟨a, rfl, (Option.some.inj hi).symm⟩
      have hil : i < as.length := (List.getElem?_eq_some_iff.mp ha).1
      obtain ⟨t, ht⟩ : ∃ t, ts[i]? = some t := ⟨_, List.getElem?_eq_getElem (by omega)⟩
      obtain ⟨dx, hta⟩ := (hall i a t ha ht).same s2
      have nal : a ≠ l := ne_of hta hl2 (by intro z; cases z)
      have ln : (((ts.length : Int) :: (ts.take i).flatMap fun t => [(t.a : Int), (t.b : Int)]).map V.int).length = 2 * i + 1 := by
        rw [List.length_map, List.length_cons, flat_len, List.length_take, Nat.min_eq_left (by omega)]
      refine ⟨_, rfl, .inl ⟨rfl, _, SqL.of hl2⟩, _, rfl, a, C, dx, _, _, rfl, hta, T.cl, T.nA, tf_a _, l, _, _, rfl, rfl, hl2, by rw [ln]; exact small1000 (by omega), ?_⟩
      refine ⟨_, rfl, .inl ⟨rfl, _, SqL.of upd_same⟩, _, rfl, a, C, dx, _, _, rfl, (by rw [upd_ne nal]; exact hta), T.cl, T.nB, tf_b _, l, _, _, rfl, rfl, upd_same, by rw [List.length_append, ln]; exact small1000 (by show 2 * i + 1 + 1 ≤ 1000; omega), ?_⟩
      refine ⟨_, rfl, ?_, ?_⟩
      · intro b o e
        by_cases hbl : b = l
        · subst hbl; rw [hl] at e; cases e
        · rw [upd_ne hbl, upd_ne hbl]; exact s2 _ _ e
      · rw [upd_same, List.take_add_one, ht]
        show some (HO.lst _) = some (HO.lst (((ts.length : Int) :: (ts.take i ++ [t]).flatMap fun t => [(t.a : Int), (t.b : Int)]).map V.int))
        rw [List.flatMap_append, List.map_cons, List.map_cons, List.map_append, List.append_assoc]
        rfl
    · rintro σ H' ⟨v, rfl, s2, hl2⟩
      rw [List.length_map, hlen, List.take_length] at hl2
      exact ⟨_, rfl, k H' l s2 hl hl2⟩
theorem scDiffs : FnScope ["way", "triple"] ["way"] (defScope sDiffs) := ⟨rfl, rfl, rfl, by decide +kernel, rfl, by decide +kernel, by decide +kernel⟩
theorem ok_diffs {f C : Addr} {fd : FuncData} (F : Fun K "tell_differences" "tell_differences" sDiffs f fd) (T : Txt K mg C) : FnOk P w K mg base CX0 1 f fd ["way"] (spDiffs C) := by
  refine F.ok scDiffs (fun vs H Q E h => ?_) (fun cdv A outer s H vs Q E hr h => ?_)
  · obtain ⟨p, ts, rfl, _⟩ := h
    rfl
  · obtain ⟨p, ts, rfl, ⟨as, hp, hlen, hall⟩, h100, k⟩ := h
    refine ⟨_, pss_one (ps_ret (pe_op op_cat (pe_lst (pa_cons (pe_callB call_len_seq (by rfl) T.len bt_len (pa_cons (pv 0) pa_nil)) pa_nil))
      (pe_lc (own := [("triple", 1)]) (te := tFld K (tVar 1) "k") rfl scDiffs.nd (pi_list (pv 0)) (show BlkOk ["way", "triple"] (defScope sDiffs) _ [("triple", 1)] from ⟨rfl, by decide +kernel, by decide +kernel, by decide +kernel, by decide +kernel⟩)
        (fun s H C cl fp => pg_name (i := 1) scDiffs.nd rfl (Or.inl rfl)) (fun s H C cl fp => pts_nil) (fun s H C cl fp => pe_fld (pv 1) rfl)))), ?_⟩
    refine ⟨_, rfl, p, _, rfl, .inl (SqL.of hp), (by show 1 ≤ sizeLine; decide), fun l hl => ?_⟩
    have e0 : ((as.map V.ref).length : Int) = (ts.length : Int) := by rw [List.length_map, hlen]
    rw [e0]
    have s1 : Same H (upd H l (.lst [.int ts.length])) := same_new (Same.refl _) hl
    refine ⟨_, rfl, p, rfl, ⟨_, SqL.of (s1 _ _ hp)⟩, fun D hD => ?_⟩
    have hDH : H D = Option.none := s1.free hD
    have nDl : l ≠ D := fun z => by rw [← z, upd_same] at hD; cases hD
    refine lc_list (K := K) (a := p) (xs := as.map V.ref) (fun i H' => Same H H' ∧ H' l = some (.lst [.int ts.length]) ∧ H' D = some (.lst (((ts.take i).map fun t => t.k).map V.int)))
      ⟨s1.trans (same_new (Same.refl _) hD), by rw [upd_ne nDl, upd_same], upd_same⟩ (fun i H' _ ⟨s2, _⟩ => SqL.of (s2 _ _ hp)) ?_ ?_
    · rintro i y H' hi ⟨s2, hl2, hD2⟩
      obtain ⟨a, ha, rfl⟩ : ∃ a, as[i]? = some a ∧ y = V.ref a := by
        rw [List.getElem?_map] at hi
        cases e : as[i]? with
        | none => rw [e] at hi; cases hi
        | some a => rw [e] at hi; exact ⟨a, rfl, (Option.some.inj hi).symm⟩
      have hil : i < as.length := (List.getElem?_eq_some_iff.mp ha).1
      obtain ⟨t, ht⟩ : ∃ t, ts[i]? = some t := ⟨_, List.getElem?_eq_getElem (by omega)⟩
      obtain ⟨dx, hta⟩ := (hall i a t ha ht).same s2
      refine ⟨rfl, ?_⟩
      refine iteT (B := Same H H' ∧ H' l = some (.lst [.int ts.length]) ∧ H' D = some (.lst (((ts.take (i + 1)).map fun t => t.k).map V.int))) ?_
      refine ⟨_, rfl, a, C, dx, _, _, rfl, hta, T.cl, T.nK, tf_k _, _, hD2, ?_, ?_, ?_, ?_⟩
      · rw [List.length_map, List.length_map, List.length_take]
        exact small1000 (Nat.le_trans (Nat.min_le_right _ _) (by omega))
      · intro b o e
        by_cases hbl : b = D
        · subst hbl; rw [hDH] at e; cases e
        · rw [upd_ne hbl]; exact s2 _ _ e
      · rw [upd_ne nDl]; exact hl2
      · rw [upd_same, List.take_add_one, ht]
        show _ = some (HO.lst (((ts.take i ++ [t]).map fun t => t.k).map V.int))
        rw [List.map_append, List.map_append]
        rfl
    · rintro H' ⟨s2, hl2, hD2⟩
      rw [List.length_map, hlen, List.take_length] at hD2
      refine ⟨l, D, _, _, rfl, rfl, hl2, hD2, ?_, fun q hq => ?_⟩
      · rw [List.length_map, List.length_map]
        exact Nat.le_of_lt (small1000 (by show 1 + ts.length ≤ 1000; omega))
      · refine k _ q (same_new s2 hq) (s2.free hq) ?_
        rw [upd_same]
        rfl
theorem scLeast : FnScope ["n", "last"] ["n"] (defScope sLeast) := ⟨rfl, rfl, rfl, by decide +kernel, rfl, by decide +kernel, by decide +kernel⟩
theorem ok_least {f fT fW C : Addr} {fd fdT fdW : FuncData} (F : Fun K "tell_least" "tell_least" sLeast f fd) (T : Txt K mg C)
    (GT : FnOk P w K mg base CX0 2 fT fdT ["n"] spTold) (FT : Fun K "is_as_told" "is_as_told" sTold fT fdT) (bT : Binds K fdT ["n"] []) (mT : mg "is_as_told" = some (.ref fT))
    (GW : FnOk P w K mg base CX0 4 fW fdW ["n"] (spWay C)) (FW : Fun K "way_of" "way_of" sWay fW fdW) (bW : Binds K fdW ["n"] []) (mW : mg "way_of" = some (.ref fW)) : FnOk P w K mg base CX0 5 f fd ["n"] spLeast := by
  obtain ⟨t22, e22⟩ := T.told22
  refine F.ok scLeast (fun vs H Q E h => ?_) (fun cdv A outer s H vs Q E hr h => ?_)
  · obtain ⟨n, rfl, _⟩ := h
    rfl
  · obtain ⟨n, rfl, k⟩ := h
    have hr2 : Room 2 _ := hr.mono (by decide)
    refine ⟨_, pss_cons (ps_if (pt_not (pt_val (pe_call GT hr2 rfl mT FT.kp bT .nil pass0 (pa_cons (pv 0) pa_nil)))) (pss_one (ps_ret (pe_lst (pa_cons (pe_glob (v := .int (-22)) rfl e22 ⟨_, rfl⟩) pa_nil)))) pss_nil)
      (pss_cons (ps_set (i := 1) scLeast.nd rfl (Or.inl rfl) (pe_ix ix_list (pe_call GW hr rfl mW FW.kp bW .nil pass0 (pa_cons (pv 0) pa_nil)) (pe_un un_neg pe_int) (fun _ _ => rfl)))
      (pss_one (ps_ret (pe_lst (pa_cons pe_int (pa_cons (pe_fld (pv 1) rfl) (pa_cons (pe_fld (pv 1) rfl) pa_nil))))))), ?_⟩
    refine ⟨_, rfl, n, rfl, _, rfl, ?_⟩
    cases hn : Kp279.okN n with
    | false =>
      rw [hn] at k
      refine iteT ⟨(by show 1 ≤ sizeLine; decide), fun l hl => ?_⟩
      exact k _ l (same_new (Same.refl _) hl) hl upd_same
    | true =>
      rw [hn] at k
      refine iteF ⟨_, rfl, n, rfl, hn, fun H1 p s1 hpn ⟨as, hp, hlen, hall⟩ => ?_⟩
      have hL : as.length = long n + 1 := by rw [hlen, all_len]
      obtain ⟨a, ha⟩ : ∃ a, as[long n]? = some a := ⟨_, List.getElem?_eq_getElem (by omega)⟩
      have ht : (Kp280.all n)[long n]? = some (Kp280.last n) := by
        rw [all_map, last_tr, List.getElem?_map, List.getElem?_range (by omega)]
        rfl
      obtain ⟨dx, hta⟩ := hall _ a _ ha ht
      have hat : atI (as.map V.ref) (-1) = some (V.ref a) := by
        obtain ⟨pre, x, e⟩ : ∃ pre x, as = pre ++ [x] := ⟨as.dropLast, as.getLast (by intro z; rw [z] at hL; cases hL), (List.dropLast_concat_getLast _).symm⟩
        have el : pre.length = long n := by rw [e, List.length_append, List.length_singleton] at hL; omega
        rw [e, List.getElem?_append_right (by omega), el, Nat.sub_self] at ha
        cases ha
        rw [e, List.map_append]
        exact atI_last _ _
      refine ⟨_, rfl, p, _, _, _, rfl, rfl, SqL.of hp, hat, ?_⟩
      refine ⟨_, rfl, a, C, dx, _, _, rfl, hta, T.cl, T.nA, tf_a _, _, rfl, a, C, dx, _, _, rfl, hta, T.cl, T.nB, tf_b _, (by show 3 ≤ sizeLine; decide), fun l hl => ?_⟩
      exact k _ l (same_new s1 hl) (s1.free hl) upd_same
end
end Rw
end
section
set_option Elab.async false
set_option linter.all false
set_option maxRecDepth 100000
set_option maxHeartbeats 4000000
namespace Rw
open PySem PySem.Spec PyProof.Rows L2
open PySem.W (Codec)
open Kp280 (Triple)
/-- some way's first triple whose difference stands among ds -/
def spFD (K : PySem.W.Frag) (C : Addr) : Sp := fun vs H Q _ => ∃ (p d : Addr) (ts : List Triple) (ds : List Int), vs = [.ref p, .ref d] ∧ TripsAt C H p ts ∧ SqT K H d (ds.map V.int) ∧
  (∀ (t : Triple) (a : Addr), ts.find? (fun t => inV (.int t.k) (ds.map V.int)) = some t → TripAt C H a t → Q (.ref a) H) ∧ (ts.find? (fun t => inV (.int t.k) (ds.map V.int)) = none → Q .non H)
def spLong : Sp := fun vs H Q _ => ∃ n : Nat, vs = [.int n] ∧ Gives H Q (if Kp279.okN n then [(long n : Int)] else [-22])
def spMinus : Sp := fun vs H Q _ => ∃ n : Nat, vs = [.int n] ∧ Gives H Q (if Kp279.okN n then (match Kp280.minus n with | some t => [0, (t.a : Int), (t.b : Int)] | none => [-33]) else [-22])
theorem flat_ints (l : List Int) : (l.map V.int).all flatV = true := by
  rw [List.all_map]
  exact List.all_eq_true.mpr fun _ _ => rfl
theorem inV_minus (k : Int) : inV (V.int k) (([-1] : List Int).map V.int) = (k == -1) := by
  show ((-1 == k) || false) = (k == -1)
  rw [Bool.or_false]
  apply Bool.eq_iff_iff.mpr
  rw [beq_iff_eq, beq_iff_eq]
  exact ⟨fun z => z.symm, fun z => z.symm⟩
theorem minus_find (n : Nat) : (Kp280.all n).find? (fun t => inV (.int t.k) (([-1] : List Int).map V.int)) = Kp280.minus n := find_same _ _ _ fun t _ => inV_minus t.k
theorem inV_short (k : Int) : inV (V.int k) (([1, -1, 2, -2, 4, -4] : List Int).map V.int) = decide (k = 1 ∨ k = -1 ∨ k = 2 ∨ k = -2 ∨ k = 4 ∨ k = -4) := by
  show ((1 == k) || ((-1 == k) || ((2 == k) || ((-2 == k) || ((4 == k) || ((-4 == k) || false)))))) = _
  apply Bool.eq_iff_iff.mpr
  rw [decide_eq_true_iff]
  simp only [Bool.or_eq_true, beq_iff_eq, Bool.false_eq_true, or_false]
  omega
theorem short_find {n : Nat} (h : Kp279.okN n = true) : (Kp280.all n).find? (fun t => inV (.int t.k) (([1, -1, 2, -2, 4, -4] : List Int).map V.int)) = Kp280.short n := find_same _ _ _ fun t ht => by
  have e := List.all_eq_true.mp (diff_all n (okN_lt h).2 h) t ht
  have e : Kp279.diff n ⟨t.a, t.b⟩ = t.k := beq_iff_eq.mp e
  rw [inV_short, one_some, e]
theorem get_map {α β : Type} {g : α → β} {l : List α} {i : Nat} {y : β} (h : (l.map g)[i]? = some y) : ∃ a, l[i]? = some a ∧ y = g a := by
  rw [List.getElem?_map] at h
  cases e : l[i]? with
  | none => rw [e] at h; cases h
  | some a => rw [e] at h; exact ⟨a, rfl, (Option.some.inj h).symm⟩
section
variable {P : Program} {w : World} {K : PySem.W.Frag} {mg : Str → Option Value} {base : Heap}
theorem scFD : FnScope ["way", "differences", "triple"] ["way", "differences"] (defScope sFD) := ⟨rfl, rfl, rfl, by decide +kernel, rfl, by decide +kernel, by decide +kernel⟩
theorem ok_FD {f C : Addr} {fd : FuncData} (F : Fun K "first_of_differences" "first_of_differences" sFD f fd) (T : Txt K mg C) : FnOk P w K mg base CX0 1 f fd ["way", "differences"] (spFD K C) := by
  refine F.ok scFD (fun vs H Q E h => ?_) (fun cdv A outer s H vs Q E hr h => ?_)
  · obtain ⟨p, d, ts, ds, rfl, _⟩ := h
    rfl
  · obtain ⟨p, d, ts, ds, rfl, ⟨as, hp, hlen, hall⟩, hd, k1, k2⟩ := h
    refine ⟨_, pss_cons (ps_for PassesOwn.never rfl (pi_list (pv 0)) (pg_name (i := 2) scFD.nd rfl (Or.inl rfl))
        (pss_one (ps_if (pt_cmpR op_in_seq (pe_fld (pv 2) rfl) (pv 1) (by with_unfolding_all rfl)) (pss_one (ps_ret (pv 2))) pss_nil)))
      (pss_one (ps_ret pe_non)), ?_⟩
    refine ⟨_, rfl, p, rfl, ⟨_, SqL.of hp⟩, for_list (K := K) (a := p) (xs := as.map V.ref) (fun i σ H' => H' = H ∧ (∃ v : Option V, σ = [some (.ref p), some (.ref d), v]) ∧ ∀ t ∈ ts.take i, inV (.int t.k) (ds.map V.int) = false)
      ⟨rfl, ⟨none, rfl⟩, fun t ht => by cases ht⟩ (fun i σ H' _ ⟨e, _⟩ => by rw [e]; exact SqL.of hp) ?_ ?_⟩
    · rintro i y σ H' hi ⟨rfl, ⟨v, rfl⟩, hno⟩
      obtain ⟨a, ha, rfl⟩ := get_map hi
      have hil : i < as.length := (List.getElem?_eq_some_iff.mp ha).1
      obtain ⟨t, ht⟩ : ∃ t, ts[i]? = some t := ⟨_, List.getElem?_eq_getElem (by omega)⟩
      obtain ⟨dx, hta⟩ := hall i a t ha ht
      refine ⟨_, rfl, a, C, dx, _, _, rfl, hta, T.cl, T.nK, tf_k _, _, rfl, d, _, rfl, .inr hd, rfl, flat_ints ds, inV (.int t.k) (ds.map V.int), rfl, ?_⟩
      refine ite2 (fun hb => ?_) (fun hb => ?_)
      · exact ⟨_, rfl, k1 t a (find_at _ ts i t ht hb hno) ⟨dx, hta⟩⟩
      · refine ⟨rfl, ⟨_, rfl⟩, fun u hu => ?_⟩
        rw [List.take_add_one, ht] at hu
        rcases List.mem_append.mp hu with hu | hu
        · exact hno u hu
        · cases List.mem_singleton.mp hu
          exact Bool.eq_false_iff.mpr hb
    · rintro σ H' ⟨rfl, ⟨v, rfl⟩, hno⟩
      rw [List.length_map, hlen, List.take_length] at hno
      exact k2 (find_none _ ts hno)
theorem scLong : FnScope ["n"] ["n"] (defScope sLong) := ⟨rfl, rfl, rfl, by decide +kernel, rfl, by decide +kernel, by decide +kernel⟩
theorem ok_long {f fT fW C : Addr} {fd fdT fdW : FuncData} (F : Fun K "tell_long" "tell_long" sLong f fd) (T : Txt K mg C)
    (GT : FnOk P w K mg base CX0 2 fT fdT ["n"] spTold) (FT : Fun K "is_as_told" "is_as_told" sTold fT fdT) (bT : Binds K fdT ["n"] []) (mT : mg "is_as_told" = some (.ref fT))
    (GW : FnOk P w K mg base CX0 4 fW fdW ["n"] (spWay C)) (FW : Fun K "way_of" "way_of" sWay fW fdW) (bW : Binds K fdW ["n"] []) (mW : mg "way_of" = some (.ref fW)) : FnOk P w K mg base CX0 5 f fd ["n"] spLong := by
  obtain ⟨t22, e22⟩ := T.told22
  refine F.ok scLong (fun vs H Q E h => ?_) (fun cdv A outer s H vs Q E hr h => ?_)
  · obtain ⟨n, rfl, _⟩ := h
    rfl
  · obtain ⟨n, rfl, k⟩ := h
    have hr2 : Room 2 _ := hr.mono (by decide)
    refine ⟨_, pss_cons (ps_if (pt_not (pt_val (pe_call GT hr2 rfl mT FT.kp bT .nil pass0 (pa_cons (pv 0) pa_nil)))) (pss_one (ps_ret (pe_lst (pa_cons (pe_glob (v := .int (-22)) rfl e22 ⟨_, rfl⟩) pa_nil)))) pss_nil)
      (pss_one (ps_ret (pe_lst (pa_cons (pe_op op_sub (pe_callB call_len_seq (by rfl) T.len bt_len (pa_cons (pe_call GW hr rfl mW FW.kp bW .nil pass0 (pa_cons (pv 0) pa_nil)) pa_nil)) pe_int) pa_nil)))), ?_⟩
    refine ⟨_, rfl, n, rfl, _, rfl, ?_⟩
    cases hn : Kp279.okN n with
    | false =>
      rw [hn] at k
      refine iteT ⟨(by show 1 ≤ sizeLine; decide), fun l hl => ?_⟩
      exact k _ l (same_new (Same.refl _) hl) hl upd_same
    | true =>
      rw [hn] at k
      refine iteF ⟨_, rfl, n, rfl, hn, fun H1 p s1 hpn ⟨as, hp, hlen, hall⟩ => ?_⟩
      refine ⟨p, _, rfl, .inl (SqL.of hp), _, _, rfl, rfl, (by show 1 ≤ sizeLine; decide), fun l hl => ?_⟩
      have e : ((as.map V.ref).length : Int) - 1 = (long n : Int) := by
        rw [List.length_map, hlen, all_len]
        omega
      refine k _ l (same_new s1 hl) (s1.free hl) ?_
      rw [upd_same]
      show some (HO.lst [V.int (((as.map V.ref).length : Int) - 1)]) = some (HO.lst [V.int (long n : Int)])
      rw [e]
theorem scMinus : FnScope ["n", "found"] ["n"] (defScope sMinus) := ⟨rfl, rfl, rfl, by decide +kernel, rfl, by decide +kernel, by decide +kernel⟩
theorem ok_minus {f fT fW fD C : Addr} {fd fdT fdW fdD : FuncData} (F : Fun K "tell_minus" "tell_minus" sMinus f fd) (T : Txt K mg C) (h33 : ∃ t, mg "NO_MINUS_ONE" = some (.int (-33) t))
    (GT : FnOk P w K mg base CX0 2 fT fdT ["n"] spTold) (FT : Fun K "is_as_told" "is_as_told" sTold fT fdT) (bT : Binds K fdT ["n"] []) (mT : mg "is_as_told" = some (.ref fT))
    (GW : FnOk P w K mg base CX0 4 fW fdW ["n"] (spWay C)) (FW : Fun K "way_of" "way_of" sWay fW fdW) (bW : Binds K fdW ["n"] []) (mW : mg "way_of" = some (.ref fW))
    (GD : FnOk P w K mg base CX0 1 fD fdD ["way", "differences"] (spFD K C)) (FD : Fun K "first_of_differences" "first_of_differences" sFD fD fdD) (bD : Binds K fdD ["way", "differences"] []) (mD : mg "first_of_differences" = some (.ref fD)) : FnOk P w K mg base CX0 5 f fd ["n"] spMinus := by
  obtain ⟨t22, e22⟩ := T.told22
  obtain ⟨t33, e33⟩ := h33
  refine F.ok scMinus (fun vs H Q E h => ?_) (fun cdv A outer s H vs Q E hr h => ?_)
  · obtain ⟨n, rfl, _⟩ := h
    rfl
  · obtain ⟨n, rfl, k⟩ := h
    have hr1 : Room 1 _ := hr.mono (by decide)
    have hr2 : Room 2 _ := hr.mono (by decide)
    refine ⟨_, pss_cons (ps_if (pt_not (pt_val (pe_call GT hr2 rfl mT FT.kp bT .nil pass0 (pa_cons (pv 0) pa_nil)))) (pss_one (ps_ret (pe_lst (pa_cons (pe_glob (v := .int (-22)) rfl e22 ⟨_, rfl⟩) pa_nil)))) pss_nil)
      (pss_cons (ps_set (i := 1) scMinus.nd rfl (Or.inl rfl) (pe_call GD hr1 rfl mD FD.kp bD .nil pass0 (pa_cons (pe_call GW hr rfl mW FW.kp bW .nil pass0 (pa_cons (pv 0) pa_nil)) (pa_cons (pe_tup (pa_cons (pe_un un_neg pe_int) pa_nil)) pa_nil))))
      (pss_cons (ps_if (pt_cmpR op_isN (pv 1) pe_non (nomark _)) (pss_one (ps_ret (pe_lst (pa_cons (pe_glob (v := .int (-33)) rfl e33 ⟨_, rfl⟩) pa_nil)))) pss_nil)
      (pss_one (ps_ret (pe_lst (pa_cons pe_int (pa_cons (pe_fld (pv 1) rfl) (pa_cons (pe_fld (pv 1) rfl) pa_nil)))))))), ?_⟩
    refine ⟨_, rfl, n, rfl, _, rfl, ?_⟩
    cases hn : Kp279.okN n with
    | false =>
      rw [hn] at k
      refine iteT ⟨(by show 1 ≤ sizeLine; decide), fun l hl => ?_⟩
      exact k _ l (same_new (Same.refl _) hl) hl upd_same
    | true =>
      rw [hn, if_pos rfl] at k
      refine iteF ⟨_, rfl, n, rfl, hn, fun H1 p s1 hpn hts => ?_⟩
      refine ⟨_, rfl, (by show 1 ≤ sizeLine; decide), fun d hd => ?_⟩
      have s2 : Same H1 (upd H1 d (.tup [.int (-1)])) := same_new (Same.refl _) hd
      have s3 := s1.trans s2
      refine ⟨p, d, Kp280.all n, [-1], rfl, hts.same s2, SqT.of upd_same, ?_, ?_⟩
      · intro t a ht hta
        rw [minus_find] at ht
        rw [ht] at k
        obtain ⟨dx, hta⟩ := hta
        refine ⟨_, rfl, rfl, _, rfl, iteF ?_⟩
        refine ⟨_, rfl, a, C, dx, _, _, rfl, hta, T.cl, T.nA, tf_a _, _, rfl, a, C, dx, _, _, rfl, hta, T.cl, T.nB, tf_b _, (by show 3 ≤ sizeLine; decide), fun l hl => ?_⟩
        exact k _ l (same_new s3 hl) (s3.free hl) upd_same
      · intro ht
        rw [minus_find] at ht
        rw [ht] at k
        refine ⟨_, rfl, rfl, _, rfl, iteT ⟨(by show 1 ≤ sizeLine; decide), fun l hl => ?_⟩⟩
        exact k _ l (same_new s3 hl) (s3.free hl) upd_same
end
end Rw
end
section
set_option Elab.async false
set_option linter.all false
set_option maxRecDepth 100000
set_option maxHeartbeats 4000000
namespace Rw
open PySem PySem.Spec PyProof.Rows L2
open PySem.W (Codec)
open Kp280 (Triple)
/-- the list at p holds rows of two numbers, which are rs -/
def RowsAt (H : Hp) (p : Addr) (rs : List (Nat × Nat)) : Prop := ∃ as : List Addr, H p = some (.lst (as.map V.ref)) ∧ as.length = rs.length ∧ ∀ (j : Nat) (a : Addr) (r : Nat × Nat), as[j]? = some a → rs[j]? = some r → H a = some (.tup [.int r.1, .int r.2])
theorem RowsAt.nil {H : Hp} {p : Addr} : RowsAt (upd H p (.lst [])) p [] := ⟨[], upd_same, rfl, fun j a r ha _ => by cases ha⟩
theorem RowsAt.same {H H' : Hp} {p : Addr} {rs : List (Nat × Nat)} (h : RowsAt H p rs) (s : Same H H') : RowsAt H' p rs := by
  obtain ⟨as, h1, h2, h3⟩ := h
  exact ⟨as, s _ _ h1, h2, fun j a r ha hr => s _ _ (h3 j a r ha hr)⟩
/-- one row more -/
theorem RowsAt.snoc {H : Hp} {p q : Addr} {rs : List (Nat × Nat)} {r : Nat × Nat} {as : List Addr} (h1 : H p = some (.lst (as.map V.ref))) (h2 : as.length = rs.length) (h3 : ∀ (j : Nat) (a : Addr) (r : Nat × Nat), as[j]? = some a → rs[j]? = some r → H a = some (.tup [.int r.1, .int r.2]))
    (hq : H q = some (.tup [.int r.1, .int r.2])) : RowsAt (upd H p (.lst (as.map V.ref ++ [.ref q]))) p (rs ++ [r]) := by
  refine ⟨as ++ [q], by rw [upd_same, List.map_append]; rfl, by rw [List.length_append, List.length_append, h2]; rfl, fun j a u ha hu => ?_⟩
  have mv : ∀ {a : Addr} {u : Nat × Nat}, H a = some (.tup [.int u.1, .int u.2]) → upd H p (.lst (as.map V.ref ++ [.ref q])) a = some (.tup [.int u.1, .int u.2]) := fun {a u} e => by
    rw [upd_ne (ne_of e h1 (by intro z; cases z))]
    exact e
  rcases get_snoc ha with ha | ⟨e1, e2⟩
  · rcases get_snoc hu with hu | ⟨e3, e4⟩
    · exact mv (h3 j a u ha hu)
    · rw [e3, ← h2, List.getElem?_eq_none (Nat.le_refl _)] at ha
      cases ha
  · rcases get_snoc hu with hu | ⟨e3, e4⟩
    · rw [e1, h2, List.getElem?_eq_none (Nat.le_refl _)] at hu
      cases hu
    · rw [e2, e4]
      exact mv hq
def spEv : Sp := fun vs H Q _ => ∃ b : Nat, vs = [.int b] ∧ 2 ≤ b ∧ b < 61 ∧ Gives H Q ((Kp280.nons b).map fun (n : Nat) => (n : Int))
def spRow : Sp := fun vs H Q _ => ∃ (p : Addr) (rs : List (Nat × Nat)), vs = [.ref p] ∧ RowsAt H p rs ∧ rs ≠ [] ∧ Gives H Q [((bestOf rs).1 : Int), ((bestOf rs).2 : Int)]
def spLgst : Sp := fun vs H Q _ => ∃ b : Nat, vs = [.int b] ∧ Gives H Q (if b < 2 ∨ 60 < b then [-22] else [(Kp280.longest b : Int), (long (Kp280.longest b) : Int)])
def spGrst : Sp := fun vs H Q _ => ∃ b : Nat, vs = [.int b] ∧ Gives H Q (if b < 2 ∨ 60 < b then [-22] else [(Kp280.greatest b : Int), ((Kp280.least (Kp280.greatest b)).x : Int)])
theorem foldl_better_at : ∀ (rs l : List (Nat × Nat)) (z : Nat × Nat), z ∈ rs → (∀ r ∈ l, r ∈ rs) → l.foldl better z ∈ rs
  | rs, [], z, hz, _ => hz
  | rs, a :: l, z, hz, hl => by
    rw [List.foldl_cons]
    refine foldl_better_at rs l _ ?_ fun r h => hl r (List.mem_cons_of_mem _ h)
    unfold better
    split
    · exact hl a (List.mem_cons_self ..)
    · exact hz
section
variable {P : Program} {w : World} {K : PySem.W.Frag} {mg : Str → Option Value} {base : Heap}
theorem scEv : FnScope ["b", "n"] ["b"] (defScope sEv) := ⟨rfl, rfl, rfl, by decide +kernel, rfl, by decide +kernel, by decide +kernel⟩
theorem ok_ev {f fT C : Addr} {fd fdT : FuncData} (F : Fun K "every_n_up_to" "every_n_up_to" sEv f fd) (T : Txt K mg C)
    (GT : FnOk P w K mg base CX0 2 fT fdT ["n"] spTold) (FT : Fun K "is_as_told" "is_as_told" sTold fT fdT) (bT : Binds K fdT ["n"] []) (mT : mg "is_as_told" = some (.ref fT)) : FnOk P w K mg base CX0 3 f fd ["b"] spEv := by
  obtain ⟨t2, e2⟩ := T.leastN
  refine F.ok scEv (fun vs H Q E h => ?_) (fun cdv A outer s H vs Q E hr h => ?_)
  · obtain ⟨b, rfl, _⟩ := h
    rfl
  · obtain ⟨b, rfl, h2, h61, k⟩ := h
    refine ⟨_, pss_one (ps_ret (pe_lc (own := [("n", 1)]) rfl scEv.nd (pi_range2 (by rfl) T.range (pa_cons (pe_glob (v := .int 2) rfl e2 ⟨_, rfl⟩) (pa_cons (pe_op op_add (pv 0) pe_int) pa_nil)))
        (show BlkOk ["b", "n"] (defScope sEv) _ [("n", 1)] from ⟨rfl, by decide +kernel, by decide +kernel, by decide +kernel, by decide +kernel⟩)
        (fun s H C cl fp => pg_name (i := 1) scEv.nd rfl (Or.inl rfl))
        (fun s H C cl fp => pts_one (pt_val (pe_call GT hr rfl mT FT.kp bT .nil pass0 (pa_cons (pv 1) pa_nil))))
        (fun s H C cl fp => pv 1))), ?_⟩
    have e2n : ((b : Int) + 1 - 2).toNat = b - 1 := by omega
    refine ⟨_, rfl, _, _, rfl, rfl, 2, _, rfl, ⟨by decide, by decide, by omega, by omega⟩, fun D hD => ?_⟩
    show ∃ W : Nat → Nat → Hp → Prop, _
    rw [e2n]
    refine lc_range (lo := 2) (n := b - 1) (fun i H' => Same H H' ∧ H' D = some (.lst ((((List.range i).map (· + 2)).filter Kp279.okN).map fun m => V.int (m : Nat)))) ⟨same_new (Same.refl H) hD, upd_same⟩ ?_ ?_
    · rintro i H' hi ⟨s1, hl⟩
      have ei : (2 : Int) + (i : Nat) = ((i + 2 : Nat) : Int) := by omega
      rw [ei]
      have er : (((List.range (i + 1)).map (· + 2)).filter Kp279.okN) = (((List.range i).map (· + 2)).filter Kp279.okN) ++ (if Kp279.okN (i + 2) = true then [i + 2] else []) := by
        rw [List.range_succ, List.map_append, List.filter_append]
        congr 1
        show List.filter Kp279.okN [i + 2] = _
        rw [List.filter_cons, List.filter_nil]
      refine ⟨rfl, _, rfl, i + 2, rfl, _, rfl, ?_⟩
      refine ite2 (fun hf => ?_) (fun hf => ?_)
      · refine ⟨_, rfl, _, hl, ?_, ?_, ?_⟩
        · rw [List.length_map]
          refine Nat.lt_of_le_of_lt (List.length_filter_le _ _) ?_
          rw [List.length_map, List.length_range]
          exact small1000 (by omega)
        · exact fun b o e => by
            by_cases hb : b = D
            · subst hb; rw [hD] at e; cases e
            · rw [upd_ne hb]; exact s1 _ _ e
        · rw [upd_same, er, if_pos hf, List.map_append]
          rfl
      · refine ⟨s1, ?_⟩
        rw [hl, er, if_neg hf, List.append_nil]
    · rintro H' ⟨s1, hl⟩
      rw [← nons_all b h61 h2] at hl
      refine k H' D s1 hD ?_
      rw [hl, List.map_map]
      rfl
theorem scRow : FnScope ["rows", "best", "row"] ["rows"] (defScope sRow) := ⟨rfl, rfl, rfl, by decide +kernel, rfl, by decide +kernel, by decide +kernel⟩
theorem ok_row {f : Addr} {fd : FuncData} (F : Fun K "tell_greatest_row" "tell_greatest_row" sRow f fd) : FnOk P w K mg base CX0 1 f fd ["rows"] spRow := by
  refine F.ok scRow (fun vs H Q E h => ?_) (fun cdv A outer s H vs Q E hr h => ?_)
  · obtain ⟨p, rs, rfl, _⟩ := h
    rfl
  · obtain ⟨p, rs, rfl, ⟨as, hp, hlen, hall⟩, hne, k⟩ := h
    refine ⟨_, pss_cons (ps_set (i := 1) scRow.nd rfl (Or.inl rfl) (pe_ix ix_list (pv 0) pe_int (fun _ _ => rfl)))
      (pss_cons (ps_for PassesOwn.never rfl (pi_list (pv 0)) (pg_name (i := 2) scRow.nd rfl (Or.inl rfl))
        (pss_one (ps_if (pt_cmpR op_gt (pe_ix ix_tup (pv 2) pe_int (fun _ _ => rfl)) (pe_ix ix_tup (pv 1) pe_int (fun _ _ => rfl)) (nomark _))
          (pss_one (ps_set (i := 1) scRow.nd rfl (Or.inl rfl) (pv 2))) pss_nil)))
      (pss_one (ps_ret (pe_lst (pa_cons (pe_ix ix_tup (pv 1) pe_int (fun _ _ => rfl)) (pa_cons (pe_ix ix_tup (pv 1) pe_int (fun _ _ => rfl)) pa_nil)))))), ?_⟩
    cases rs with
    | nil => exact absurd rfl hne
    | cons z0 rr =>
    cases as with
    | nil => cases hlen
    | cons a0 ar =>
    have h0 := hall 0 a0 z0 rfl rfl
    have at0 : ∀ {x y : V}, atI [x, y] (0 : Int) = some x := fun {x y} => atI_nat (j := 0) rfl
    have at1 : ∀ {x y : V}, atI [x, y] (1 : Int) = some y := fun {x y} => atI_nat (j := 1) rfl
    refine ⟨_, rfl, p, _, _, _, rfl, rfl, SqL.of hp, atI_nat (j := 0) rfl, ?_⟩
    refine ⟨_, rfl, p, rfl, ⟨_, SqL.of hp⟩, for_list (K := K) (a := p) (xs := (a0 :: ar).map V.ref) (fun i σ H' => H' = H ∧ ∃ (ab : Addr) (v : Option V), σ = [some (.ref p), some (.ref ab), v] ∧ H ab = some (.tup [.int (((z0 :: rr).take i).foldl better z0).1, .int (((z0 :: rr).take i).foldl better z0).2]))
      ⟨rfl, a0, none, rfl, h0⟩ (fun i σ H' _ ⟨e, _⟩ => by rw [e]; exact SqL.of hp) ?_ ?_⟩
    · rintro i y σ H' hi ⟨rfl, ab, v, rfl, hab⟩
      obtain ⟨a, ha, rfl⟩ := get_map hi
      have hil : i < (a0 :: ar).length := (List.getElem?_eq_some_iff.mp ha).1
      obtain ⟨t, ht⟩ : ∃ t, (z0 :: rr)[i]? = some t := ⟨_, List.getElem?_eq_getElem (by omega)⟩
      have hta := hall i a t ha ht
      have e4 : ((z0 :: rr).take (i + 1)).foldl better z0 = better (((z0 :: rr).take i).foldl better z0) t := by
        rw [List.take_add_one, ht, List.foldl_append]
        rfl
      generalize hz : ((z0 :: rr).take i).foldl better z0 = z at *
      refine ⟨_, rfl, a, _, _, _, rfl, rfl, SqT.of hta, at1, _, rfl, ab, _, _, _, rfl, rfl, SqT.of hab, at1, _, _, rfl, rfl, _, rfl, ?_⟩
      refine ite2 (fun h1 => ?_) (fun h1 => ?_)
      · have h1 : z.2 < t.2 := by have := of_decide_eq_true h1; omega
        refine ⟨_, rfl, rfl, a, _, rfl, ?_⟩
        rw [e4]
        unfold better
        rw [if_pos h1]
        exact hta
      · have h1 : ¬ z.2 < t.2 := fun q => h1 (decide_eq_true (by omega))
        refine ⟨rfl, ab, _, rfl, ?_⟩
        rw [e4]
        unfold better
        rw [if_neg h1]
        exact hab
    · rintro σ H' ⟨rfl, ab, v, rfl, hab⟩
      rw [List.length_map, hlen, List.take_length] at hab
      refine ⟨_, rfl, ab, _, _, _, rfl, rfl, SqT.of hab, at0, _, rfl, ab, _, _, _, rfl, rfl, SqT.of hab, at1, (by show 2 ≤ sizeLine; decide), fun l hl => ?_⟩
      exact k _ l (same_new (Same.refl _) hl) hl upd_same
end
end Rw
end
section
set_option Elab.async false
set_option linter.all false
set_option maxRecDepth 100000
set_option maxHeartbeats 4000000
namespace Rw
open PySem PySem.Spec PyProof.Rows L2
open PySem.W (Codec)
open Kp280 (Triple)
/-- the elements of the two lists of rows -/
def teL (K : PySem.W.Frag) (C : Addr) : TE := tTup (tCons (tVar 1) (tCons (tOp (rI0 fun i j => .int (i - j)) (tCB (fun xs H Q => ∃ p ys, xs = [.ref p] ∧ (SqL K H p ys ∨ SqT K H p ys) ∧ Q (.int ys.length) H) (tCons (tCall (spWay C) [] E0 (tCons (tVar 1) tNil)) tNil)) (tC (.int 1))) tNil))
def teG (K : PySem.W.Frag) (C : Addr) : TE := tTup (tCons (tVar 1) (tCons (tFld K (tOp (rIxL K) (tCall (spWay C) [] E0 (tCons (tVar 1) tNil)) (tUn (rU fun i => .int (-i)) (tC (.int 1)))) "a") tNil))
section
variable {P : Program} {w : World} {K : PySem.W.Frag} {mg : Str → Option Value} {base : Heap}
theorem scLgst : FnScope ["b", "n"] ["b"] (defScope sLgst) := ⟨rfl, rfl, rfl, by decide +kernel, rfl, by decide +kernel, by decide +kernel⟩
theorem ok_lgst {f fB fE fR fW C : Addr} {fd fdB fdE fdR fdW : FuncData} (F : Fun K "tell_longest" "tell_longest" sLgst f fd) (T : Txt K mg C)
    (FB : Fun K "is_in_bounds" "is_in_bounds" sBnd fB fdB) (bB : Binds K fdB ["number"] []) (mB : mg "is_in_bounds" = some (.ref fB))
    (GE : FnOk P w K mg base CX0 3 fE fdE ["b"] spEv) (FE : Fun K "every_n_up_to" "every_n_up_to" sEv fE fdE) (bE : Binds K fdE ["b"] []) (mE : mg "every_n_up_to" = some (.ref fE))
    (GR : FnOk P w K mg base CX0 1 fR fdR ["rows"] spRow) (FR : Fun K "tell_greatest_row" "tell_greatest_row" sRow fR fdR) (bR : Binds K fdR ["rows"] []) (mR : mg "tell_greatest_row" = some (.ref fR))
    (GW : FnOk P w K mg base CX0 4 fW fdW ["n"] (spWay C)) (FW : Fun K "way_of" "way_of" sWay fW fdW) (bW : Binds K fdW ["n"] []) (mW : mg "way_of" = some (.ref fW)) : FnOk P w K mg base CX0 5 f fd ["b"] spLgst := by
  have GB : FnOk P w K mg base CX0 1 fB fdB ["number"] spBnd := ok_bnd FB T
  obtain ⟨t22, e22⟩ := T.told22
  refine F.ok scLgst (fun vs H Q E h => ?_) (fun cdv A outer s H vs Q E hr h => ?_)
  · obtain ⟨b, rfl, _⟩ := h
    rfl
  · obtain ⟨b, rfl, k⟩ := h
    have hr1 : Room 1 _ := hr.mono (by decide)
    have hr3 : Room 3 _ := hr.mono (by decide)
    refine ⟨_, pss_cons (ps_if (pt_not (pt_val (pe_call GB hr1 rfl mB FB.kp bB .nil pass0 (pa_cons (pv 0) pa_nil)))) (pss_one (ps_ret (pe_lst (pa_cons (pe_glob (v := .int (-22)) rfl e22 ⟨_, rfl⟩) pa_nil)))) pss_nil)
      (pss_one (ps_ret (pe_call GR hr1 rfl mR FR.kp bR .nil pass0 (pa_cons (pe_lc (own := [("n", 1)]) (te := teL K C) rfl scLgst.nd (pi_list (pe_call GE hr3 rfl mE FE.kp bE .nil pass0 (pa_cons (pv 0) pa_nil)))
        (show BlkOk ["b", "n"] (defScope sLgst) _ [("n", 1)] from ⟨rfl, by decide +kernel, by decide +kernel, by decide +kernel, by decide +kernel⟩)
        (fun s H C' cl fp => pg_name (i := 1) scLgst.nd rfl (Or.inl rfl)) (fun s H C' cl fp => pts_nil)
        (fun s H C' cl fp => pe_tup (pa_cons (pv 1) (pa_cons (pe_op op_sub (pe_callB call_len_seq (by rfl) T.len bt_len (pa_cons (pe_call GW hr rfl mW FW.kp bW .nil pass0 (pa_cons (pv 1) pa_nil)) pa_nil)) pe_int) pa_nil)))) pa_nil)))), ?_⟩
    refine ⟨_, rfl, b, rfl, _, rfl, ?_⟩
    cases hb : (decide (2 ≤ b) && decide (b ≤ 60)) with
    | false =>
      have h1 : b < 2 ∨ 60 < b := by
        rcases Nat.lt_or_ge b 2 with z | z
        · exact .inl z
        · rw [decide_eq_true z, Bool.true_and] at hb
          have := of_decide_eq_false hb
          omega
      rw [if_pos h1] at k
      refine iteT ⟨(by show 1 ≤ sizeLine; decide), fun l hl => ?_⟩
      exact k _ l (same_new (Same.refl _) hl) hl upd_same
    | true =>
      rw [Bool.and_eq_true] at hb
      have h2 : 2 ≤ b := of_decide_eq_true hb.1
      have h60 : b ≤ 60 := of_decide_eq_true hb.2
      rw [if_neg (by omega)] at k
      refine iteF ⟨_, rfl, b, rfl, h2, by omega, fun H1 le s1 hle hl => ?_⟩
      refine ⟨le, rfl, ⟨_, SqL.of hl⟩, fun D hD => ?_⟩
      have hDH : H D = Option.none := s1.free hD
      refine lc_list (K := K) (a := le) (xs := ((Kp280.nons b).map fun (n : Nat) => (n : Int)).map V.int) (fun i H' => Same H1 H' ∧ RowsAt H' D (((Kp280.nons b).take i).map fun n => (n, long n)))
        ⟨same_new (Same.refl _) hD, RowsAt.nil⟩ (fun i H' _ ⟨s2, _⟩ => SqL.of (s2 _ _ hl)) ?_ ?_
      · rintro i y H' hi ⟨s2, hrows⟩
        rw [List.map_map] at hi
        obtain ⟨n, hn, rfl⟩ := get_map hi
        have hok : Kp279.okN n = true := nons_ok (List.mem_of_getElem? hn)
        have hL := long_lt hok
        refine ⟨rfl, ?_⟩
        refine iteT (B := Same H1 H' ∧ RowsAt H' D (((Kp280.nons b).take (i + 1)).map fun n => (n, long n))) ?_
        refine ⟨_, rfl, _, rfl, n, rfl, hok, fun H2 p s3 hpn ⟨as, hp, hlen, hall⟩ => ?_⟩
        have e : ((as.map V.ref).length : Int) - 1 = (long n : Int) := by
          rw [List.length_map, hlen, all_len]
          omega
        refine ⟨p, _, rfl, .inl (SqL.of hp), _, _, rfl, rfl, (by show 2 ≤ sizeLine; decide), fun q hq => ?_⟩
        show ∃ acc, upd H2 q (.tup [.int n, .int (((as.map V.ref).length : Int) - 1)]) D = some (.lst acc) ∧ acc.length < sizeLine ∧ Same H1 (upd (upd H2 q (.tup [.int n, .int (((as.map V.ref).length : Int) - 1)])) D (.lst (acc ++ [.ref q]))) ∧ RowsAt (upd (upd H2 q (.tup [.int n, .int (((as.map V.ref).length : Int) - 1)])) D (.lst (acc ++ [.ref q]))) D (((Kp280.nons b).take (i + 1)).map fun n => (n, long n))
        rw [e]
        have s4 : Same H' (upd H2 q (.tup [.int n, .int (long n)])) := same_new s3 hq
        obtain ⟨rs, hD2, hrl, hra⟩ := hrows.same s4
        have ir : ((Kp280.nons b).take (i + 1)).map (fun n => (n, long n)) = ((Kp280.nons b).take i).map (fun n => (n, long n)) ++ [(n, long n)] := by
          rw [List.take_add_one, hn, List.map_append]
          rfl
        refine ⟨_, hD2, ?_, ?_, ?_⟩
        · rw [List.length_map, hrl, List.length_map, List.length_take]
          have : (Kp280.nons b).length ≤ b + 1 := Nat.le_trans (List.length_filter_le _ _) (by rw [List.length_range]; exact Nat.le_refl _)
          exact small1000 (Nat.le_trans (Nat.min_le_right _ _) (by omega))
        · intro c o e
          by_cases hc : c = D
          · subst hc; rw [hD] at e; cases e
          · rw [upd_ne hc]; exact s4 _ _ (s2 _ _ e)
        · rw [ir]
          exact RowsAt.snoc hD2 hrl hra upd_same
      · rintro H' ⟨s2, hrows⟩
        rw [List.length_map, List.length_map, List.take_length] at hrows
        refine ⟨D, _, rfl, hrows, ?_, ?_⟩
        · exact fun z => nons_len b (by omega) h2 (List.map_eq_nil_iff.mp z)
        · rw [longest_row (by omega) h2]
          exact fun H3 q s5 hq hl3 => k H3 q ((s1.trans s2).trans s5) ((s1.trans s2).free hq) hl3
theorem scGrst : FnScope ["b", "n"] ["b"] (defScope sGrst) := ⟨rfl, rfl, rfl, by decide +kernel, rfl, by decide +kernel, by decide +kernel⟩
theorem ok_grst {f fB fE fR fW C : Addr} {fd fdB fdE fdR fdW : FuncData} (F : Fun K "tell_greatest" "tell_greatest" sGrst f fd) (T : Txt K mg C)
    (FB : Fun K "is_in_bounds" "is_in_bounds" sBnd fB fdB) (bB : Binds K fdB ["number"] []) (mB : mg "is_in_bounds" = some (.ref fB))
    (GE : FnOk P w K mg base CX0 3 fE fdE ["b"] spEv) (FE : Fun K "every_n_up_to" "every_n_up_to" sEv fE fdE) (bE : Binds K fdE ["b"] []) (mE : mg "every_n_up_to" = some (.ref fE))
    (GR : FnOk P w K mg base CX0 1 fR fdR ["rows"] spRow) (FR : Fun K "tell_greatest_row" "tell_greatest_row" sRow fR fdR) (bR : Binds K fdR ["rows"] []) (mR : mg "tell_greatest_row" = some (.ref fR))
    (GW : FnOk P w K mg base CX0 4 fW fdW ["n"] (spWay C)) (FW : Fun K "way_of" "way_of" sWay fW fdW) (bW : Binds K fdW ["n"] []) (mW : mg "way_of" = some (.ref fW)) : FnOk P w K mg base CX0 5 f fd ["b"] spGrst := by
  have GB : FnOk P w K mg base CX0 1 fB fdB ["number"] spBnd := ok_bnd FB T
  obtain ⟨t22, e22⟩ := T.told22
  refine F.ok scGrst (fun vs H Q E h => ?_) (fun cdv A outer s H vs Q E hr h => ?_)
  · obtain ⟨b, rfl, _⟩ := h
    rfl
  · obtain ⟨b, rfl, k⟩ := h
    have hr1 : Room 1 _ := hr.mono (by decide)
    have hr3 : Room 3 _ := hr.mono (by decide)
    refine ⟨_, pss_cons (ps_if (pt_not (pt_val (pe_call GB hr1 rfl mB FB.kp bB .nil pass0 (pa_cons (pv 0) pa_nil)))) (pss_one (ps_ret (pe_lst (pa_cons (pe_glob (v := .int (-22)) rfl e22 ⟨_, rfl⟩) pa_nil)))) pss_nil)
      (pss_one (ps_ret (pe_call GR hr1 rfl mR FR.kp bR .nil pass0 (pa_cons (pe_lc (own := [("n", 1)]) (te := teG K C) rfl scGrst.nd (pi_list (pe_call GE hr3 rfl mE FE.kp bE .nil pass0 (pa_cons (pv 0) pa_nil)))
        (show BlkOk ["b", "n"] (defScope sGrst) _ [("n", 1)] from ⟨rfl, by decide +kernel, by decide +kernel, by decide +kernel, by decide +kernel⟩)
        (fun s H C' cl fp => pg_name (i := 1) scGrst.nd rfl (Or.inl rfl)) (fun s H C' cl fp => pts_nil)
        (fun s H C' cl fp => pe_tup (pa_cons (pv 1) (pa_cons (pe_fld (pe_ix ix_list (pe_call GW hr rfl mW FW.kp bW .nil pass0 (pa_cons (pv 1) pa_nil)) (pe_un un_neg pe_int) (fun _ _ => rfl)) rfl) pa_nil)))) pa_nil)))), ?_⟩
    refine ⟨_, rfl, b, rfl, _, rfl, ?_⟩
    cases hb : (decide (2 ≤ b) && decide (b ≤ 60)) with
    | false =>
      have h1 : b < 2 ∨ 60 < b := by
        rcases Nat.lt_or_ge b 2 with z | z
        · exact .inl z
        · rw [decide_eq_true z, Bool.true_and] at hb
          have := of_decide_eq_false hb
          omega
      rw [if_pos h1] at k
      refine iteT ⟨(by show 1 ≤ sizeLine; decide), fun l hl => ?_⟩
      exact k _ l (same_new (Same.refl _) hl) hl upd_same
    | true =>
      rw [Bool.and_eq_true] at hb
      have h2 : 2 ≤ b := of_decide_eq_true hb.1
      have h60 : b ≤ 60 := of_decide_eq_true hb.2
      rw [if_neg (by omega)] at k
      refine iteF ⟨_, rfl, b, rfl, h2, by omega, fun H1 le s1 hle hl => ?_⟩
      refine ⟨le, rfl, ⟨_, SqL.of hl⟩, fun D hD => ?_⟩
      have hDH : H D = Option.none := s1.free hD
      refine lc_list (K := K) (a := le) (xs := ((Kp280.nons b).map fun (n : Nat) => (n : Int)).map V.int) (fun i H' => Same H1 H' ∧ RowsAt H' D (((Kp280.nons b).take i).map fun n => (n, (Kp280.last n).a)))
        ⟨same_new (Same.refl _) hD, RowsAt.nil⟩ (fun i H' _ ⟨s2, _⟩ => SqL.of (s2 _ _ hl)) ?_ ?_
      · rintro i y H' hi ⟨s2, hrows⟩
        rw [List.map_map] at hi
        obtain ⟨n, hn, rfl⟩ := get_map hi
        have hok : Kp279.okN n = true := nons_ok (List.mem_of_getElem? hn)
        have hL := long_lt hok
        refine ⟨rfl, ?_⟩
        refine iteT (B := Same H1 H' ∧ RowsAt H' D (((Kp280.nons b).take (i + 1)).map fun n => (n, (Kp280.last n).a))) ?_
        refine ⟨_, rfl, _, rfl, n, rfl, hok, fun H2 p s3 hpn ⟨as, hp, hlen, hall⟩ => ?_⟩
        have hL1 : as.length = long n + 1 := by rw [hlen, all_len]
        obtain ⟨a, ha⟩ : ∃ a, as[long n]? = some a := ⟨_, List.getElem?_eq_getElem (by omega)⟩
        have ht : (Kp280.all n)[long n]? = some (Kp280.last n) := by
          rw [all_map, last_tr, List.getElem?_map, List.getElem?_range (by omega)]
          rfl
        obtain ⟨dx, hta⟩ := hall _ a _ ha ht
        have hat : atI (as.map V.ref) (-1) = some (V.ref a) := by
          obtain ⟨pre, x, e⟩ : ∃ pre x, as = pre ++ [x] := ⟨as.dropLast, as.getLast (by intro z; rw [z] at hL1; cases hL1), (List.dropLast_concat_getLast _).symm⟩
          have el : pre.length = long n := by rw [e, List.length_append, List.length_singleton] at hL1; omega
          rw [e, List.getElem?_append_right (by omega), el, Nat.sub_self] at ha
          cases ha
          rw [e, List.map_append]
          exact atI_last _ _
        refine ⟨_, rfl, p, _, _, _, rfl, rfl, SqL.of hp, hat, ?_⟩
        refine ⟨a, C, dx, _, _, rfl, hta, T.cl, T.nA, tf_a _, (by show 2 ≤ sizeLine; decide), fun q hq => ?_⟩
        have s4 : Same H' (upd H2 q (.tup [.int n, .int (Kp280.last n).a])) := same_new s3 hq
        obtain ⟨rs, hD2, hrl, hra⟩ := hrows.same s4
        have ir : ((Kp280.nons b).take (i + 1)).map (fun n => (n, (Kp280.last n).a)) = ((Kp280.nons b).take i).map (fun n => (n, (Kp280.last n).a)) ++ [(n, (Kp280.last n).a)] := by
          rw [List.take_add_one, hn, List.map_append]
          rfl
        refine ⟨_, hD2, ?_, ?_, ?_⟩
        · rw [List.length_map, hrl, List.length_map, List.length_take]
          have : (Kp280.nons b).length ≤ b + 1 := Nat.le_trans (List.length_filter_le _ _) (by rw [List.length_range]; exact Nat.le_refl _)
          exact small1000 (Nat.le_trans (Nat.min_le_right _ _) (by omega))
        · intro c o e
          by_cases hc : c = D
          · subst hc; rw [hD] at e; cases e
          · rw [upd_ne hc]; exact s4 _ _ (s2 _ _ e)
        · rw [ir]
          exact RowsAt.snoc hD2 hrl hra upd_same
      · rintro H' ⟨s2, hrows⟩
        rw [List.length_map, List.length_map, List.take_length] at hrows
        refine ⟨D, _, rfl, hrows, ?_, ?_⟩
        · exact fun z => nons_len b (by omega) h2 (List.map_eq_nil_iff.mp z)
        · rw [greatest_row (by omega) h2]
          exact fun H3 q s5 hq hl3 => k H3 q ((s1.trans s2).trans s5) ((s1.trans s2).free hq) hl3
end
end Rw
end
section
set_option Elab.async false
set_option linter.all false
set_option maxRecDepth 100000
set_option maxHeartbeats 4000000
namespace Rw
open PySem PySem.Spec PyProof.Rows L2
open PySem.W (Codec)
open Kp280 (Triple)
structure TxtC (mg : Str → Option Value) : Prop where
  c0 : ∃ t, mg "BEGIN" = some (.int 0 t)
  c1 : ∃ t, mg "STEP" = some (.int 1 t)
  c2 : ∃ t, mg "STEPS" = some (.int 2 t)
  c3 : ∃ t, mg "TAKEN" = some (.int 3 t)
  c4 : ∃ t, mg "FITS" = some (.int 4 t)
  c5 : ∃ t, mg "ALL" = some (.int 5 t)
  c6 : ∃ t, mg "DIFFS" = some (.int 6 t)
  c7 : ∃ t, mg "LEAST" = some (.int 7 t)
  c8 : ∃ t, mg "LONG" = some (.int 8 t)
  c9 : ∃ t, mg "SHORT" = some (.int 9 t)
  c10 : ∃ t, mg "LONGEST" = some (.int 10 t)
  c11 : ∃ t, mg "GREATEST" = some (.int 11 t)
  c12 : ∃ t, mg "MINUS" = some (.int 12 t)
  c13 : ∃ t, mg "AGAIN" = some (.int 13 t)
  c14 : ∃ t, mg "DONE" = some (.int 14 t)
  c15 : ∃ t, mg "TOLD" = some (.int 15 t)
theorem ite_no {p c : Int} {A B : Prop} (h : p ≠ c) (k : B) : if decide (V.int p = V.int c) = true then A else B := by
  rw [vint_eq, decide_eq_false h]
  exact iteF k
theorem ite_yes {p c : Int} {A B : Prop} (h : p = c) (k : A) : if decide (V.int p = V.int c) = true then A else B := by
  rw [vint_eq, decide_eq_true h]
  exact iteT k
theorem ite_off {p c : Int} {A B : Prop} (h : (p == c) = false) (k : B) : if decide (V.int p = V.int c) = true then A else B := ite_no (beq_eq_false_iff_ne.mp h) k
/-- the calls that ask about the number that is handed in -/
def isApart : Kp280.Call → Bool
  | .least _ => true
  | .long _ => true
  | .longest _ => true
  | .greatest _ => true
  | .minus _ => true
  | _ => false
def spApart : Sp := fun vs H Q _ => ∃ (c : Kp280.Call) (d : Kp280.Desk), vs = [.int (numOf c).1, .int (numOf c).2] ∧ isApart c = true ∧ Gives H Q (nums (Kp280.step (some d) c).2)
theorem Gives.eq {H : Hp} {Q : VK} {l l' : List Int} (e : l = l') (k : Gives H Q l') : Gives H Q l := by
  rw [e]
  exact k
section
variable {P : Program} {w : World} {K : PySem.W.Frag} {mg : Str → Option Value} {base : Heap}
theorem scApart : FnScope ["call", "argument"] ["call", "argument"] (defScope sApart) := ⟨rfl, rfl, rfl, by decide +kernel, rfl, by decide +kernel, by decide +kernel⟩
theorem ok_apart {f fLe fLo fLg fGr fMi : Addr} {fd fdLe fdLo fdLg fdGr fdMi : FuncData} (F : Fun K "answer_apart" "answer_apart" sApart f fd) (TC : TxtC mg)
    (GLe : FnOk P w K mg base CX0 5 fLe fdLe ["n"] spLeast) (FLe : Fun K "tell_least" "tell_least" sLeast fLe fdLe) (bLe : Binds K fdLe ["n"] []) (mLe : mg "tell_least" = some (.ref fLe))
    (GLo : FnOk P w K mg base CX0 5 fLo fdLo ["n"] spLong) (FLo : Fun K "tell_long" "tell_long" sLong fLo fdLo) (bLo : Binds K fdLo ["n"] []) (mLo : mg "tell_long" = some (.ref fLo))
    (GLg : FnOk P w K mg base CX0 5 fLg fdLg ["b"] spLgst) (FLg : Fun K "tell_longest" "tell_longest" sLgst fLg fdLg) (bLg : Binds K fdLg ["b"] []) (mLg : mg "tell_longest" = some (.ref fLg))
    (GGr : FnOk P w K mg base CX0 5 fGr fdGr ["b"] spGrst) (FGr : Fun K "tell_greatest" "tell_greatest" sGrst fGr fdGr) (bGr : Binds K fdGr ["b"] []) (mGr : mg "tell_greatest" = some (.ref fGr))
    (GMi : FnOk P w K mg base CX0 5 fMi fdMi ["n"] spMinus) (FMi : Fun K "tell_minus" "tell_minus" sMinus fMi fdMi) (bMi : Binds K fdMi ["n"] []) (mMi : mg "tell_minus" = some (.ref fMi)) :
    FnOk P w K mg base CX0 6 f fd ["call", "argument"] spApart := by
  obtain ⟨t7, e7⟩ := TC.c7
  obtain ⟨t8, e8⟩ := TC.c8
  obtain ⟨t10, e10⟩ := TC.c10
  obtain ⟨t11, e11⟩ := TC.c11
  obtain ⟨t12, e12⟩ := TC.c12
  refine F.ok scApart (fun vs H Q E h => ?_) (fun cdv A outer s H vs Q E hr h => ?_)
  · obtain ⟨c, d, rfl, _⟩ := h
    rfl
  · obtain ⟨c, d, rfl, ha, k⟩ := h
    refine ⟨_, pss_cons (ps_if (pt_cmpR op_eq (pv 0) (pe_glob (v := .int 7) rfl e7 ⟨_, rfl⟩) (nomark _)) (pss_one (ps_ret (pe_call GLe hr rfl mLe FLe.kp bLe .nil pass0 (pa_cons (pv 1) pa_nil)))) pss_nil)
      (pss_cons (ps_if (pt_cmpR op_eq (pv 0) (pe_glob (v := .int 8) rfl e8 ⟨_, rfl⟩) (nomark _)) (pss_one (ps_ret (pe_call GLo hr rfl mLo FLo.kp bLo .nil pass0 (pa_cons (pv 1) pa_nil)))) pss_nil)
      (pss_cons (ps_if (pt_cmpR op_eq (pv 0) (pe_glob (v := .int 10) rfl e10 ⟨_, rfl⟩) (nomark _)) (pss_one (ps_ret (pe_call GLg hr rfl mLg FLg.kp bLg .nil pass0 (pa_cons (pv 1) pa_nil)))) pss_nil)
      (pss_cons (ps_if (pt_cmpR op_eq (pv 0) (pe_glob (v := .int 11) rfl e11 ⟨_, rfl⟩) (nomark _)) (pss_one (ps_ret (pe_call GGr hr rfl mGr FGr.kp bGr .nil pass0 (pa_cons (pv 1) pa_nil)))) pss_nil)
      (pss_cons (ps_if (pt_cmpR op_eq (pv 0) (pe_glob (v := .int 12) rfl e12 ⟨_, rfl⟩) (nomark _)) (pss_one (ps_ret (pe_call GMi hr rfl mMi FMi.kp bMi .nil pass0 (pa_cons (pv 1) pa_nil)))) pss_nil)
      (pss_one ps_never))))), ?_⟩
    cases c with
    | least n =>
      refine ⟨_, rfl, rfl, _, rfl, ite_yes rfl ?_⟩
      refine ⟨_, rfl, n, rfl, Gives.eq ?_ k⟩
      show _ = nums (if Kp279.okN n then Kp280.step.Kp279Ans (Kp280.least n) else Kp280.say (-22))
      split <;> rfl
    | long n =>
      refine ⟨_, rfl, rfl, _, rfl, ite_off rfl ?_⟩
      refine ⟨_, rfl, rfl, _, rfl, ite_yes rfl ?_⟩
      refine ⟨_, rfl, n, rfl, Gives.eq ?_ k⟩
      show _ = nums (if Kp279.okN n then Kp280.say (((Kp280.all n).length - 1 : Nat) : Int) else Kp280.say (-22))
      split <;> rfl
    | longest b =>
      refine ⟨_, rfl, rfl, _, rfl, ite_off rfl ?_⟩
      refine ⟨_, rfl, rfl, _, rfl, ite_off rfl ?_⟩
      refine ⟨_, rfl, rfl, _, rfl, ite_yes rfl ?_⟩
      refine ⟨_, rfl, b, rfl, Gives.eq ?_ k⟩
      show (if b < 2 ∨ 60 < b then [-22] else _) = nums (if b < 2 ∨ 60 < b then Kp280.say (-22) else ⟨(Kp280.longest b : Int), [((Kp280.all (Kp280.longest b)).length - 1 : Nat)]⟩)
      split <;> rfl
    | greatest b =>
      refine ⟨_, rfl, rfl, _, rfl, ite_off rfl ?_⟩
      refine ⟨_, rfl, rfl, _, rfl, ite_off rfl ?_⟩
      refine ⟨_, rfl, rfl, _, rfl, ite_off rfl ?_⟩
      refine ⟨_, rfl, rfl, _, rfl, ite_yes rfl ?_⟩
      refine ⟨_, rfl, b, rfl, Gives.eq ?_ k⟩
      show (if b < 2 ∨ 60 < b then [-22] else _) = nums (if b < 2 ∨ 60 < b then Kp280.say (-22) else ⟨(Kp280.greatest b : Int), [((Kp280.least (Kp280.greatest b)).x : Int)]⟩)
      split <;> rfl
    | minus n =>
      refine ⟨_, rfl, rfl, _, rfl, ite_off rfl ?_⟩
      refine ⟨_, rfl, rfl, _, rfl, ite_off rfl ?_⟩
      refine ⟨_, rfl, rfl, _, rfl, ite_off rfl ?_⟩
      refine ⟨_, rfl, rfl, _, rfl, ite_off rfl ?_⟩
      refine ⟨_, rfl, rfl, _, rfl, ite_yes rfl ?_⟩
      refine ⟨_, rfl, n, rfl, Gives.eq ?_ k⟩
      show _ = nums (if Kp279.okN n = false then Kp280.say (-22) else match Kp280.minus n with | some t => Kp280.step.Kp279Ans ⟨t.a, t.b⟩ | none => Kp280.say (-33))
      cases Kp279.okN n with
      | false => rfl
      | true => cases Kp280.minus n <;> rfl
    | _ => exact absurd ha (by intro z; cases z)
end
end Rw
end
section
set_option Elab.async false
set_option linter.all false
set_option maxRecDepth 100000
set_option maxHeartbeats 4000000
namespace Rw
open PySem PySem.Spec PyProof.Rows L2
open PySem.W (Codec)
open Kp280 (Triple)
abbrev sInit : Stmt := inClass (top 51) 0
abbrev sBegin : Stmt := inClass (top 51) 1
abbrev sGo : Stmt := inClass (top 51) 2
abbrev sStep : Stmt := inClass (top 51) 3
abbrev sSteps : Stmt := inClass (top 51) 4
abbrev sTk : Stmt := inClass (top 51) 5
abbrev sFits : Stmt := inClass (top 51) 6
abbrev sShort : Stmt := inClass (top 51) 7
abbrev sAgain : Stmt := inClass (top 51) 8
abbrev sDone : Stmt := inClass (top 51) 9
abbrev sTt : Stmt := inClass (top 51) 10
abbrev sAnswer : Stmt := inClass (top 51) 11
abbrev sAns : Stmt := top 52
/-! ### the walk as an object -/
def wf (n : Int) (v : V) (c : Int) : List (Str × V) := [("n", .int n), ("triple", v), ("steps_done", .int c)]
theorem wf_n (n : Int) (v : V) (c : Int) : (wf n v c).lookup ("n" : Str) = some (.int n) := rfl
theorem wf_t (n : Int) (v : V) (c : Int) : (wf n v c).lookup ("triple" : Str) = some v := rfl
theorem wf_s (n : Int) (v : V) (c : Int) : (wf n v c).lookup ("steps_done" : Str) = some (.int c) := rfl
theorem wf_no (n : Int) (v : V) (c : Int) {m : Str} (h1 : (m == ("n" : Str)) = false) (h2 : (m == ("triple" : Str)) = false) (h3 : (m == ("steps_done" : Str)) = false) : (wf n v c).lookup m = none := by
  unfold wf
  rw [List.lookup_cons, h1, List.lookup_cons, h2, List.lookup_cons, h3]
  rfl
theorem wf_put_n (n k : Int) (v : V) (c : Int) : putF "n" (.int k) (wf n v c) = wf k v c := rfl
theorem wf_put_t (n : Int) (v u : V) (c : Int) : putF "triple" u (wf n v c) = wf n u c := rfl
theorem wf_put_s (n : Int) (v : V) (c e : Int) : putF "steps_done" (.int e) (wf n v c) = wf n v e := rfl
/-- a Walk that is in the state st stands at w -/
def WalkAt (W C : Addr) (H : Hp) (w : Addr) (st : Kp280.State) : Prop := GoodS st ∧ match st with
  | none => ∃ dx, H w = some (.ins W dx (wf 0 .non 0))
  | some d => ∃ dx q, H w = some (.ins W dx (wf d.n (.ref q) d.steps)) ∧ TripAt C H q d.t ∧ q ≠ w
theorem WalkAt.same {W C : Addr} {H H' : Hp} {p : Addr} {st : Kp280.State} (h : WalkAt W C H p st) (s : Same H H') : WalkAt W C H' p st := by
  obtain ⟨g, h⟩ := h
  refine ⟨g, ?_⟩
  cases st with
  | none =>
    obtain ⟨dx, h⟩ := h
    exact ⟨dx, s _ _ h⟩
  | some d =>
    obtain ⟨dx, q, h1, h2, h3⟩ := h
    exact ⟨dx, q, s _ _ h1, h2.same s, h3⟩
/-- all but the object at w is as it was -/
def But (w : Addr) (H H' : Hp) : Prop := ∀ b o, H b = some o → b ≠ w → H' b = some o
theorem But.of {w : Addr} {H H' : Hp} (s : Same H H') : But w H H' := fun b o e _ => s b o e
/-- an int list comes out, new, and the walk at w is in the state st -/
def GivesW (W C : Addr) (H : Hp) (Q : VK) (w : Addr) (st : Kp280.State) (l : List Int) : Prop := ∀ (H' : Hp) (p : Addr), But w H H' → H p = Option.none → WalkAt W C H' w st → H' p = some (.lst (l.map V.int)) → Q (.ref p) H'
theorem GivesW.of {W C : Addr} {H : Hp} {Q : VK} {w : Addr} {st : Kp280.State} {l : List Int} (h : WalkAt W C H w st) (k : GivesW W C H Q w st l) : Gives H Q l := fun H' p s hp hl => k H' p (.of s) hp (h.same s) hl
structure TxtW (K : PySem.W.Frag) (mg : Str → Option Value) (W : Addr) : Prop where
  cl : Cls K W
  nN : NoAttr K W "n"
  nT : NoAttr K W "triple"
  nS : NoAttr K W "steps_done"
  mgW : mg "Walk" = some (.ref W)
  told11 : ∃ t, mg "NOT_BEGUN" = some (.int (-11) t)
  told16 : ∃ t, mg "AT_THE_END" = some (.int (-16) t)
  most : ∃ t, mg "MOST_STEPS" = some (.int 60 t)
  greatM : ∃ t, mg "GREATEST_M" = some (.int 1000 t)
def spInit (W : Addr) : Sp := fun vs H Q _ => ∃ (p dx : Addr), vs = [.ref p] ∧ H p = some (.ins W dx []) ∧ ∀ H' : Hp, (∃ dx, H' p = some (.ins W dx (wf 0 .non 0))) → (∀ b o, H b = some o → b ≠ p → H' b = some o) → Q .non H'
def spBegin (W C : Addr) : Sp := fun vs H Q _ => ∃ (w : Addr) (st : Kp280.State) (n : Nat), vs = [.ref w, .int n] ∧ WalkAt W C H w st ∧ GivesW W C H Q w (Kp280.step st (.begin_ n)).1 (nums (Kp280.step st (.begin_ n)).2)
def spM (W C : Addr) (c : Kp280.Call) : Sp := fun vs H Q _ => ∃ (w : Addr) (d : Kp280.Desk), vs = [.ref w] ∧ WalkAt W C H w (some d) ∧ GivesW W C H Q w (Kp280.step (some d) c).1 (nums (Kp280.step (some d) c).2)
def spM1 (W C : Addr) (c : Nat → Kp280.Call) : Sp := fun vs H Q _ => ∃ (w : Addr) (d : Kp280.Desk) (x : Nat), vs = [.ref w, .int x] ∧ WalkAt W C H w (some d) ∧ GivesW W C H Q w (Kp280.step (some d) (c x)).1 (nums (Kp280.step (some d) (c x)).2)
theorem desk_ok {d : Kp280.Desk} (h : GoodS (some d)) : OkT d.n d.t := by
  obtain ⟨h1, h2, h3⟩ := h
  rw [h3]
  exact tr_ok h1 (by have := long_lt h1; omega)
section
variable {P : Program} {w : World} {K : PySem.W.Frag} {mg : Str → Option Value} {base : Heap}
theorem scInit : FnScope ["self"] ["self"] (defScope sInit) := ⟨rfl, rfl, rfl, by decide +kernel, rfl, by decide +kernel, by decide +kernel⟩
theorem ok_init {f W : Addr} {fd : FuncData} (F : Fun K "__init__" "Walk.__init__" sInit f fd) (T : TxtW K mg W) : FnOk P w K mg base CX0 1 f fd ["self"] (spInit W) := by
  refine F.ok scInit (fun vs H Q E h => ?_) (fun cdv A outer s H vs Q E hr h => ?_)
  · obtain ⟨p, dx, rfl, _⟩ := h
    rfl
  · obtain ⟨p, dx, rfl, hp, k⟩ := h
    refine ⟨_, pss_cons (ps_fld (pv 0) pe_int rfl) (pss_cons (ps_fld (pv 0) pe_non rfl) (pss_one (ps_fld (pv 0) pe_int rfl))), ?_⟩
    refine ⟨_, rfl, p, W, dx, _, rfl, hp, T.cl, T.nN, (by show 0 < 1000; decide), ?_⟩
    refine ⟨_, rfl, p, W, dx, _, rfl, upd_same, T.cl, T.nT, (by show 1 < 1000; decide), ?_⟩
    refine ⟨_, rfl, p, W, dx, _, rfl, upd_same, T.cl, T.nS, (by show 2 < 1000; decide), ?_⟩
    exact k _ ⟨dx, upd_same⟩ fun b o e hb => by rw [upd_ne hb, upd_ne hb, upd_ne hb]; exact e
theorem scBegin : FnScope ["self", "n"] ["self", "n"] (defScope sBegin) := ⟨rfl, rfl, rfl, by decide +kernel, rfl, by decide +kernel, by decide +kernel⟩
theorem walk_ins {W C : Addr} {H : Hp} {p : Addr} {st : Kp280.State} (h : WalkAt W C H p st) : ∃ dx n v c, H p = some (.ins W dx (wf n v c)) := by
  obtain ⟨_, h⟩ := h
  cases st with
  | none =>
    obtain ⟨dx, h⟩ := h
    exact ⟨dx, _, _, _, h⟩
  | some d =>
    obtain ⟨dx, q, h, _⟩ := h
    exact ⟨dx, _, _, _, h⟩
theorem But.free {w : Addr} {H H' : Hp} (b : But w H H') {l : Addr} (h : H' l = Option.none) (hn : l ≠ w) : H l = Option.none := by
  cases e : H l with
  | none => rfl
  | some o =>
    rw [b l o e hn] at h
    cases h
/-- go_to_first: the walk is at the first triple, no step is done -/
def spGo (W C : Addr) : Sp := fun vs H Q _ => ∃ (p dx : Addr) (n : Nat) (v : V) (c : Int), vs = [.ref p] ∧ H p = some (.ins W dx (wf n v c)) ∧ Kp279.okN n = true ∧ ∀ H' : Hp, But p H H' → WalkAt W C H' p (some ⟨n, Kp280.first n, 0⟩) → Q .non H'
theorem scGo : FnScope ["self"] ["self"] (defScope sGo) := ⟨rfl, rfl, rfl, by decide +kernel, rfl, by decide +kernel, by decide +kernel⟩
theorem ok_go {f fF W C : Addr} {fd fdF : FuncData} (F : Fun K "go_to_first" "Walk.go_to_first" sGo f fd) (T : Txt K mg C) (TW : TxtW K mg W)
    (GF : FnOk P w K mg base CX0 3 fF fdF ["n"] (spFirst C)) (FF : Fun K "first_triple" "first_triple" sFirst fF fdF) (bF : Binds K fdF ["n"] []) (mF : mg "first_triple" = some (.ref fF)) :
    FnOk P w K mg base CX0 4 f fd ["self"] (spGo W C) := by
  refine F.ok scGo (fun vs H Q E h => ?_) (fun cdv A outer s H vs Q E hr h => ?_)
  · obtain ⟨p, dx, n, v, c, rfl, _⟩ := h
    rfl
  · obtain ⟨p, dx, n, v, c, rfl, hp, hn, k⟩ := h
    have hb := okN_lt hn
    refine ⟨_, pss_cons (ps_fld (pv 0) (pe_call GF hr rfl mF FF.kp bF .nil pass0 (pa_cons (pe_fld (pv 0) rfl) pa_nil)) rfl) (pss_one (ps_fld (pv 0) pe_int rfl)), ?_⟩
    refine ⟨_, rfl, p, W, dx, _, _, rfl, hp, TW.cl, TW.nN, wf_n _ _ _, n, rfl, hb.1, hb.2, fun H1 q s1 hq ht => ?_⟩
    have hp1 := s1 _ _ hp
    refine ⟨_, rfl, p, W, dx, _, rfl, hp1, TW.cl, TW.nT, (by show 3 < 1000; decide), ?_⟩
    rw [wf_put_t]
    refine ⟨_, rfl, p, W, dx, _, rfl, upd_same, TW.cl, TW.nS, (by show 3 < 1000; decide), ?_⟩
    rw [wf_put_s]
    have nqp : q ≠ p := fun z => by rw [z, hp] at hq; cases hq
    obtain ⟨dq, htq⟩ := ht
    refine k _ (fun b o e hb => ?_) ⟨⟨hn, Nat.zero_le _, rfl⟩, dx, q, upd_same, ⟨dq, ?_⟩, nqp⟩
    · rw [upd_ne hb, upd_ne hb]
      exact s1 _ _ e
    · rw [upd_ne nqp, upd_ne nqp]
      exact htq
theorem ok_begin {f fT fG W C : Addr} {fd fdT fdG : FuncData} (F : Fun K "begin" "Walk.begin" sBegin f fd) (T : Txt K mg C) (TW : TxtW K mg W)
    (GT : FnOk P w K mg base CX0 2 fT fdT ["n"] spTold) (FT : Fun K "is_as_told" "is_as_told" sTold fT fdT) (bT : Binds K fdT ["n"] []) (mT : mg "is_as_told" = some (.ref fT))
    (GG : FnOk P w K mg base CX0 4 fG fdG ["self"] (spGo W C)) (bG : Binds K fdG ["self"] []) (mG : Meth K W "go_to_first" fG) :
    FnOk P w K mg base CX0 5 f fd ["self", "n"] (spBegin W C) := by
  obtain ⟨t22, e22⟩ := T.told22
  refine F.ok scBegin (fun vs H Q E h => ?_) (fun cdv A outer s H vs Q E hr h => ?_)
  · obtain ⟨p, st, n, rfl, _⟩ := h
    rfl
  · obtain ⟨p, st, n, rfl, hw, k⟩ := h
    have hr2 : Room 2 _ := hr.mono (by decide)
    refine ⟨_, pss_cons (ps_if (pt_not (pt_val (pe_call GT hr2 rfl mT FT.kp bT .nil pass0 (pa_cons (pv 1) pa_nil)))) (pss_one (ps_ret (pe_lst (pa_cons (pe_glob (v := .int (-22)) rfl e22 ⟨_, rfl⟩) pa_nil)))) pss_nil)
      (pss_cons (ps_fld (pv 0) (pv 1) rfl)
      (pss_cons (ps_expr (pe_meth0 (pv 0) TW.cl mG GG hr bG .nil pass0))
      (pss_one (ps_ret (pe_lst (pa_cons pe_int pa_nil)))))), ?_⟩
    refine ⟨_, rfl, n, rfl, _, rfl, ?_⟩
    have k : GivesW W C H Q p (if Kp279.okN n then (some ⟨n, Kp280.first n, 0⟩, Kp280.say 0) else (st, Kp280.say (-22))).1 (nums (if Kp279.okN n then ((some ⟨n, Kp280.first n, 0⟩ : Kp280.State), Kp280.say 0) else (st, Kp280.say (-22))).2) := k
    cases hn : Kp279.okN n with
    | false =>
      rw [hn] at k
      refine iteT ⟨(by show 1 ≤ sizeLine; decide), fun l hl => ?_⟩
      exact k.of hw _ l (same_new (Same.refl _) hl) hl upd_same
    | true =>
      rw [hn] at k
      obtain ⟨dx, n0, v0, c0, hp⟩ := walk_ins hw
      refine iteF ⟨_, rfl, _, rfl, p, W, dx, _, rfl, hp, TW.cl, TW.nN, (by show 3 < 1000; decide), ?_⟩
      rw [wf_put_n]
      refine ⟨_, rfl, p, dx, _, rfl, upd_same, wf_no _ _ _ (by decide +kernel) (by decide +kernel) (by decide +kernel), p, dx, n, v0, c0, rfl, upd_same, hn, fun H1 b1 hw1 => ?_⟩
      have bt : But p H H1 := fun b o e hb => b1 _ _ (by rw [upd_ne hb]; exact e) hb
      refine ⟨(by show 1 ≤ sizeLine; decide), fun l hl => ?_⟩
      have s3 : Same H1 (upd H1 l (.lst [.int 0])) := same_new (Same.refl _) hl
      obtain ⟨dx1, n1, v1, c1, hp1⟩ := walk_ins hw1
      have nlp : l ≠ p := fun z => by rw [z, hp1] at hl; cases hl
      exact k _ l (fun b o e hb => s3 _ _ (bt b o e hb)) (bt.free hl nlp) (hw1.same s3) upd_same
theorem scStep : FnScope ["self"] ["self"] (defScope sStep) := ⟨rfl, rfl, rfl, by decide +kernel, rfl, by decide +kernel, by decide +kernel⟩
theorem ok_step {f fX fL W C : Addr} {fd fdX fdL : FuncData} (F : Fun K "take_step" "Walk.take_step" sStep f fd) (T : Txt K mg C) (TW : TxtW K mg W)
    (GX : FnOk P w K mg base CX0 3 fX fdX ["triple", "n"] (spNext C)) (FX : Fun K "next_triple" "next_triple" sNext fX fdX) (bX : Binds K fdX ["triple", "n"] []) (mX : mg "next_triple" = some (.ref fX))
    (GL : FnOk P w K mg base CX0 1 fL fdL ["triple"] (spTellT C)) (FL : Fun K "tell_triple" "tell_triple" sTellT fL fdL) (bL : Binds K fdL ["triple"] []) (mL : mg "tell_triple" = some (.ref fL)) :
    FnOk P w K mg base CX0 4 f fd ["self"] (spM W C .step_) := by
  obtain ⟨t16, e16⟩ := TW.told16
  refine F.ok scStep (fun vs H Q E h => ?_) (fun cdv A outer s H vs Q E hr h => ?_)
  · obtain ⟨p, d, rfl, _⟩ := h
    rfl
  · obtain ⟨p, d, rfl, hw, k⟩ := h
    have hr1 : Room 1 _ := hr.mono (by decide)
    refine ⟨_, pss_cons (ps_if (pt_cmpR op_eq (pe_fld (pe_fld (pv 0) rfl) rfl) pe_int (nomark _)) (pss_one (ps_ret (pe_lst (pa_cons (pe_glob (v := .int (-16)) rfl e16 ⟨_, rfl⟩) pa_nil)))) pss_nil)
      (pss_cons (ps_fld (pv 0) (pe_call GX hr rfl mX FX.kp bX .nil pass0 (pa_cons (pe_fld (pv 0) rfl) (pa_cons (pe_fld (pv 0) rfl) pa_nil))) rfl)
      (pss_cons (ps_fldaug (pv 0) pe_int in_add)
      (pss_one (ps_ret (pe_call GL hr1 rfl mL FL.kp bL .nil pass0 (pa_cons (pe_fld (pv 0) rfl) pa_nil)))))), ?_⟩
    obtain ⟨g, dx, q, hp, ⟨dq, hq⟩, nq⟩ := id hw
    have okt := desk_ok g
    obtain ⟨g1, g2, g3⟩ := id g
    have k : GivesW W C H Q p (if d.t.k = 1 then (some d, Kp280.say (-16)) else (some { d with t := Kp280.next d.n d.t, steps := d.steps + 1 }, Kp280.tellTriple (Kp280.next d.n d.t))).1 (nums (if d.t.k = 1 then ((some d : Kp280.State), Kp280.say (-16)) else (some { d with t := Kp280.next d.n d.t, steps := d.steps + 1 }, Kp280.tellTriple (Kp280.next d.n d.t))).2) := k
    refine ⟨_, rfl, p, W, dx, _, _, rfl, hp, TW.cl, TW.nT, wf_t _ _ _, q, C, dq, _, _, rfl, hq, T.cl, T.nK, tf_k _, rfl, _, rfl, ?_⟩
    rw [vint_eq]
    by_cases e1 : d.t.k = 1
    · rw [decide_eq_true e1]
      rw [if_pos e1] at k
      refine iteT ⟨(by show 1 ≤ sizeLine; decide), fun l hl => ?_⟩
      exact k.of hw _ l (same_new (Same.refl _) hl) hl upd_same
    · rw [decide_eq_false e1]
      rw [if_neg e1] at k
      refine iteF ⟨_, rfl, p, W, dx, _, _, rfl, hp, TW.cl, TW.nT, wf_t _ _ _, _, rfl, p, W, dx, _, _, rfl, hp, TW.cl, TW.nN, wf_n _ _ _, q, d.t, d.n, rfl, ⟨dq, hq⟩, (okN_lt g1).2, okt, fun H1 q2 s1 hq2 ht => ?_⟩
      have hp1 := s1 _ _ hp
      refine ⟨_, rfl, p, W, dx, _, rfl, hp1, TW.cl, TW.nT, (by show 3 < 1000; decide), ?_⟩
      rw [wf_put_t]
      refine ⟨_, rfl, p, W, dx, _, _, rfl, upd_same, TW.cl, TW.nS, wf_s _ _ _, _, _, rfl, rfl, dx, _, upd_same, (by show 3 < 1000; decide), ?_⟩
      rw [wf_put_s]
      rw [show (d.steps : Int) + 1 = ((d.steps + 1 : Nat) : Int) by omega]
      have nqp : q2 ≠ p := fun z => by rw [z, hp] at hq2; cases hq2
      obtain ⟨dq2, htq⟩ := ht
      have htq2 : TripAt C (upd (upd H1 p (.ins W dx (wf d.n (.ref q2) d.steps))) p (.ins W dx (wf d.n (.ref q2) ((d.steps + 1 : Nat) : Int)))) q2 (Kp280.next d.n d.t) := ⟨dq2, by rw [upd_ne nqp, upd_ne nqp]; exact htq⟩
      have hlt : d.steps < long d.n := by
        rcases Nat.lt_or_ge d.steps (long d.n) with z | z
        · exact z
        · have z2 : d.steps = long d.n := by omega
          rw [g3, z2] at e1
          exact absurd (tr_end g1) e1
      have hw2 : WalkAt W C (upd (upd H1 p (.ins W dx (wf d.n (.ref q2) d.steps))) p (.ins W dx (wf d.n (.ref q2) ((d.steps + 1 : Nat) : Int)))) p (some { d with t := Kp280.next d.n d.t, steps := d.steps + 1 }) :=
        ⟨⟨g1, hlt, by rw [tr_succ, ← g3]⟩, dx, q2, upd_same, htq2, nqp⟩
      have bt : But p H (upd (upd H1 p (.ins W dx (wf d.n (.ref q2) d.steps))) p (.ins W dx (wf d.n (.ref q2) ((d.steps + 1 : Nat) : Int)))) := fun b o e hb => by
        rw [upd_ne hb, upd_ne hb]
        exact s1 _ _ e
      refine ⟨_, rfl, p, W, dx, _, _, rfl, upd_same, TW.cl, TW.nT, wf_t _ _ _, q2, Kp280.next d.n d.t, rfl, htq2, fun H2 l s2 hl hl2 => ?_⟩
      have nlp : l ≠ p := fun z => by rw [z, upd_same] at hl; cases hl
      exact k H2 l (fun b o e hb => s2 _ _ (bt b o e hb)) (bt.free hl nlp) (hw2.same s2) hl2
theorem scSteps : FnScope ["self", "j"] ["self", "j"] (defScope sSteps) := ⟨rfl, rfl, rfl, by decide +kernel, rfl, by decide +kernel, by decide +kernel⟩
theorem ok_steps {f fX fL W C : Addr} {fd fdX fdL : FuncData} (F : Fun K "tell_steps" "Walk.tell_steps" sSteps f fd) (T : Txt K mg C) (TW : TxtW K mg W)
    (GX : FnOk P w K mg base CX0 4 fX fdX ["n", "j"] (spAfter C)) (FX : Fun K "triple_after" "triple_after" sAfter fX fdX) (bX : Binds K fdX ["n", "j"] []) (mX : mg "triple_after" = some (.ref fX))
    (GL : FnOk P w K mg base CX0 1 fL fdL ["triple"] (spTellT C)) (FL : Fun K "tell_triple" "tell_triple" sTellT fL fdL) (bL : Binds K fdL ["triple"] []) (mL : mg "tell_triple" = some (.ref fL)) :
    FnOk P w K mg base CX0 5 f fd ["self", "j"] (spM1 W C .steps) := by
  obtain ⟨t22, e22⟩ := T.told22
  obtain ⟨t60, e60⟩ := TW.most
  refine F.ok scSteps (fun vs H Q E h => ?_) (fun cdv A outer s H vs Q E hr h => ?_)
  · obtain ⟨p, d, x, rfl, _⟩ := h
    rfl
  · obtain ⟨p, d, j, rfl, hw, k⟩ := h
    have hr1 : Room 1 _ := hr.mono (by decide)
    refine ⟨_, pss_cons (ps_if (pt_cmpR op_gt (pv 1) (pe_glob (v := .int 60) rfl e60 ⟨_, rfl⟩) (nomark _)) (pss_one (ps_ret (pe_lst (pa_cons (pe_glob (v := .int (-22)) rfl e22 ⟨_, rfl⟩) pa_nil)))) pss_nil)
      (pss_one (ps_ret (pe_call GL hr1 rfl mL FL.kp bL .nil pass0 (pa_cons (pe_call GX hr rfl mX FX.kp bX .nil pass0 (pa_cons (pe_fld (pv 0) rfl) (pa_cons (pv 1) pa_nil))) pa_nil)))), ?_⟩
    obtain ⟨g, dx, q, hp, ⟨dq, hq⟩, nq⟩ := id hw
    have k : GivesW W C H Q p (some d) (nums (if 60 < j then Kp280.say (-22) else Kp280.tellTriple (tr d.n j))) := k
    refine ⟨_, rfl, _, _, rfl, rfl, _, rfl, ?_⟩
    refine ite2 (fun h1 => ?_) (fun h1 => ?_)
    · have h1 : 60 < j := by have := of_decide_eq_true h1; omega
      rw [if_pos h1] at k
      refine ⟨(by show 1 ≤ sizeLine; decide), fun l hl => ?_⟩
      exact k.of hw _ l (same_new (Same.refl _) hl) hl upd_same
    · have h1 : ¬ 60 < j := fun z => h1 (decide_eq_true (by omega))
      rw [if_neg h1] at k
      refine ⟨_, rfl, p, W, dx, _, _, rfl, hp, TW.cl, TW.nN, wf_n _ _ _, _, rfl, d.n, j, rfl, g.1, by omega, fun H1 q2 s1 hq2 ht => ?_⟩
      refine ⟨q2, _, rfl, ht, fun H2 l s2 hl hl2 => ?_⟩
      exact k.of hw H2 l (s1.trans s2) (s1.free hl) hl2
theorem scTk : FnScope ["self", "m"] ["self"] (defScope sTk) := ⟨rfl, rfl, rfl, by decide +kernel, rfl, by decide +kernel, by decide +kernel⟩
theorem ok_tk {f fX W C : Addr} {fd fdX : FuncData} (F : Fun K "tell_taken" "Walk.tell_taken" sTk f fd) (T : Txt K mg C) (TW : TxtW K mg W)
    (GX : FnOk P w K mg base CX0 2 fX fdX ["triple", "n"] (spTaken C)) (FX : Fun K "number_taken" "number_taken" sTaken fX fdX) (bX : Binds K fdX ["triple", "n"] []) (mX : mg "number_taken" = some (.ref fX)) :
    FnOk P w K mg base CX0 3 f fd ["self"] (spM W C .taken) := by
  refine F.ok scTk (fun vs H Q E h => ?_) (fun cdv A outer s H vs Q E hr h => ?_)
  · obtain ⟨p, d, rfl, _⟩ := h
    rfl
  · obtain ⟨p, d, rfl, hw, k⟩ := h
    refine ⟨_, pss_cons (ps_set (i := 1) scTk.nd rfl (Or.inl rfl) (pe_call GX hr rfl mX FX.kp bX .nil pass0 (pa_cons (pe_fld (pv 0) rfl) (pa_cons (pe_fld (pv 0) rfl) pa_nil))))
      (pss_one (ps_ret (pe_lst (pa_cons (pv 1) (pa_cons (pe_op op_sub (pe_op op_mul (pv 1) (pv 1)) (pe_fld (pv 0) rfl)) pa_nil))))), ?_⟩
    obtain ⟨g, dx, q, hp, ⟨dq, hq⟩, nq⟩ := id hw
    have okt := desk_ok g
    have hb := okN_lt g.1
    have tl := (taken_le okt.m0).1
    refine ⟨_, rfl, p, W, dx, _, _, rfl, hp, TW.cl, TW.nT, wf_t _ _ _, _, rfl, p, W, dx, _, _, rfl, hp, TW.cl, TW.nN, wf_n _ _ _, q, d.t, d.n, rfl, ⟨dq, hq⟩, hb.2, okt.k0, okt.m0, fun H1 s1 => ?_⟩
    have hp1 := s1 _ _ hp
    refine ⟨_, rfl, _, rfl, _, rfl, _, _, rfl, rfl, .inl ⟨by omega, by omega⟩, _, rfl, p, W, dx, _, _, rfl, hp1, TW.cl, TW.nN, wf_n _ _ _, _, _, rfl, rfl, (by show 2 ≤ sizeLine; decide), fun l hl => ?_⟩
    exact k.of hw _ l (same_new s1 hl) (s1.free hl) upd_same
theorem scFits : FnScope ["self", "m"] ["self", "m"] (defScope sFits) := ⟨rfl, rfl, rfl, by decide +kernel, rfl, by decide +kernel, by decide +kernel⟩
theorem ok_fits {f fX W C : Addr} {fd fdX : FuncData} (F : Fun K "tell_fits" "Walk.tell_fits" sFits f fd) (T : Txt K mg C) (TW : TxtW K mg W)
    (GX : FnOk P w K mg base CX0 1 fX fdX ["triple", "m"] (spFit C)) (FX : Fun K "is_fitting" "is_fitting" sFit fX fdX) (bX : Binds K fdX ["triple", "m"] []) (mX : mg "is_fitting" = some (.ref fX)) :
    FnOk P w K mg base CX0 2 f fd ["self", "m"] (spM1 W C .fits) := by
  obtain ⟨t22, e22⟩ := T.told22
  obtain ⟨t1, e1⟩ := TW.greatM
  refine F.ok scFits (fun vs H Q E h => ?_) (fun cdv A outer s H vs Q E hr h => ?_)
  · obtain ⟨p, d, x, rfl, _⟩ := h
    rfl
  · obtain ⟨p, d, m, rfl, hw, k⟩ := h
    refine ⟨_, pss_cons (ps_if (PW.pt (pw_or (pt_cmpR op_lt (pv 1) pe_int (nomark _)) (pw_or1 (pt_cmpR op_gt (pv 1) (pe_glob (v := .int 1000) rfl e1 ⟨_, rfl⟩) (nomark _))))) (pss_one (ps_ret (pe_lst (pa_cons (pe_glob (v := .int (-22)) rfl e22 ⟨_, rfl⟩) pa_nil)))) pss_nil)
      (pss_one (ps_ret (pe_lst (pa_cons (pe_ifExp (pt_val (pe_call GX hr rfl mX FX.kp bX .nil pass0 (pa_cons (pe_fld (pv 0) rfl) (pa_cons (pv 1) pa_nil)))) pe_int pe_int) pa_nil)))), ?_⟩
    obtain ⟨g, dx, q, hp, ⟨dq, hq⟩, nq⟩ := id hw
    have okt := desk_ok g
    have k : GivesW W C H Q p (some d) (nums (if m = 0 ∨ 1000 < m then Kp280.say (-22) else Kp280.say (if Kp280.fits d.t m then 1 else 0))) := k
    refine ⟨_, rfl, _, _, rfl, rfl, _, rfl, ?_⟩
    refine ite2 (fun h1 => ?_) (fun h1 => ?_)
    · have h1 : m = 0 ∨ 1000 < m := by have := of_decide_eq_true h1; omega
      rw [if_pos h1] at k
      refine iteT ⟨(by show 1 ≤ sizeLine; decide), fun l hl => ?_⟩
      exact k.of hw _ l (same_new (Same.refl _) hl) hl upd_same
    · refine ⟨_, rfl, _, _, rfl, rfl, _, rfl, ?_⟩
      refine ite2 (fun h2 => ?_) (fun h2 => ?_)
      · have h1 : m = 0 ∨ 1000 < m := by have := of_decide_eq_true h2; omega
        rw [if_pos h1] at k
        refine ⟨(by show 1 ≤ sizeLine; decide), fun l hl => ?_⟩
        exact k.of hw _ l (same_new (Same.refl _) hl) hl upd_same
      · have h3 : ¬ (m : Int) < 1 := fun z => h1 (decide_eq_true z)
        have h4 : ¬ (1000 : Int) < (m : Int) := fun z => h2 (decide_eq_true z)
        have h5 : ¬ (m = 0 ∨ 1000 < m) := by omega
        rw [if_neg h5] at k
        refine ⟨_, rfl, p, W, dx, _, _, rfl, hp, TW.cl, TW.nT, wf_t _ _ _, _, rfl, q, d.t, m, rfl, ⟨dq, hq⟩, okt.k0, by omega, _, rfl, ?_⟩
        refine ite2 (fun hf => ?_) (fun hf => ?_)
        · rw [if_pos hf] at k
          refine ⟨(by show 1 ≤ sizeLine; decide), fun l hl => ?_⟩
          exact k.of hw _ l (same_new (Same.refl _) hl) hl upd_same
        · rw [if_neg hf] at k
          refine ⟨(by show 1 ≤ sizeLine; decide), fun l hl => ?_⟩
          exact k.of hw _ l (same_new (Same.refl _) hl) hl upd_same
end
end Rw
end
section
set_option Elab.async false
set_option linter.all false
set_option maxRecDepth 100000
set_option maxHeartbeats 4000000
namespace Rw
open PySem PySem.Spec PyProof.Rows L2
open PySem.W (Codec)
open Kp280 (Triple)
/-- the differences that short asks for, as the module's tuple has them -/
structure TxtS (K : PySem.W.Frag) (mg : Str → Option Value) (a : Addr) : Prop where
  mgS : mg "SHORT_DIFFERENCES" = some (.ref a)
  tup : ∀ H : Hp, SqT K H a (([1, -1, 2, -2, 4, -4] : List Int).map V.int)
section
variable {P : Program} {w : World} {K : PySem.W.Frag} {mg : Str → Option Value} {base : Heap}
theorem scShort : FnScope ["self"] ["self"] (defScope sShort) := ⟨rfl, rfl, rfl, by decide +kernel, rfl, by decide +kernel, by decide +kernel⟩
theorem ok_short {f fW fD fL W C ts : Addr} {fd fdW fdD fdL : FuncData} (F : Fun K "tell_short" "Walk.tell_short" sShort f fd) (T : Txt K mg C) (TW : TxtW K mg W) (TS : TxtS K mg ts)
    (GW : FnOk P w K mg base CX0 4 fW fdW ["n"] (spWay C)) (FW : Fun K "way_of" "way_of" sWay fW fdW) (bW : Binds K fdW ["n"] []) (mW : mg "way_of" = some (.ref fW))
    (GD : FnOk P w K mg base CX0 1 fD fdD ["way", "differences"] (spFD K C)) (FD : Fun K "first_of_differences" "first_of_differences" sFD fD fdD) (bD : Binds K fdD ["way", "differences"] []) (mD : mg "first_of_differences" = some (.ref fD))
    (GL : FnOk P w K mg base CX0 1 fL fdL ["triple"] (spTellT C)) (FL : Fun K "tell_triple" "tell_triple" sTellT fL fdL) (bL : Binds K fdL ["triple"] []) (mL : mg "tell_triple" = some (.ref fL)) :
    FnOk P w K mg base CX0 5 f fd ["self"] (spM W C .short) := by
  refine F.ok scShort (fun vs H Q E h => ?_) (fun cdv A outer s H vs Q E hr h => ?_)
  · obtain ⟨p, d, rfl, _⟩ := h
    rfl
  · obtain ⟨p, d, rfl, hw, k⟩ := h
    have hr1 : Room 1 _ := hr.mono (by decide)
    refine ⟨_, pss_one (ps_ret (pe_call GL hr1 rfl mL FL.kp bL .nil pass0 (pa_cons (pe_call GD hr1 rfl mD FD.kp bD .nil pass0 (pa_cons (pe_call GW hr rfl mW FW.kp bW .nil pass0 (pa_cons (pe_fld (pv 0) rfl) pa_nil)) (pa_cons (pe_glob (v := .ref ts) rfl TS.mgS rfl) pa_nil))) pa_nil))), ?_⟩
    obtain ⟨g, dx, q, hp, ht, nq⟩ := id hw
    have k : GivesW W C H Q p (some d) (nums (match Kp280.short d.n with | some t => Kp280.tellTriple t | none => Kp280.say (-33))) := k
    refine ⟨_, rfl, p, W, dx, _, _, rfl, hp, TW.cl, TW.nN, wf_n _ _ _, d.n, rfl, g.1, fun H1 q1 s1 hq1 hts => ?_⟩
    have hsome := short_all d.n (okN_lt g.1).2 g.1
    refine ⟨q1, ts, Kp280.all d.n, [1, -1, 2, -2, 4, -4], rfl, hts, TS.tup _, ?_, ?_⟩
    · intro t a hf hta
      rw [short_find g.1] at hf
      rw [hf] at k
      refine ⟨a, t, rfl, hta, fun H2 l s2 hl hl2 => ?_⟩
      exact k.of hw H2 l (s1.trans s2) (s1.free hl) hl2
    · intro hf
      rw [short_find g.1] at hf
      rw [hf] at hsome
      cases hsome
theorem scAgain : FnScope ["self"] ["self"] (defScope sAgain) := ⟨rfl, rfl, rfl, by decide +kernel, rfl, by decide +kernel, by decide +kernel⟩
theorem ok_again {f fG fL W C : Addr} {fd fdG fdL : FuncData} (F : Fun K "walk_again" "Walk.walk_again" sAgain f fd) (T : Txt K mg C) (TW : TxtW K mg W)
    (GG : FnOk P w K mg base CX0 4 fG fdG ["self"] (spGo W C)) (bG : Binds K fdG ["self"] []) (mG : Meth K W "go_to_first" fG)
    (GL : FnOk P w K mg base CX0 1 fL fdL ["triple"] (spTellT C)) (FL : Fun K "tell_triple" "tell_triple" sTellT fL fdL) (bL : Binds K fdL ["triple"] []) (mL : mg "tell_triple" = some (.ref fL)) :
    FnOk P w K mg base CX0 5 f fd ["self"] (spM W C .again) := by
  refine F.ok scAgain (fun vs H Q E h => ?_) (fun cdv A outer s H vs Q E hr h => ?_)
  · obtain ⟨p, d, rfl, _⟩ := h
    rfl
  · obtain ⟨p, d, rfl, hw, k⟩ := h
    have hr1 : Room 1 _ := hr.mono (by decide)
    refine ⟨_, pss_cons (ps_expr (pe_meth0 (pv 0) TW.cl mG GG hr bG .nil pass0))
      (pss_one (ps_ret (pe_call GL hr1 rfl mL FL.kp bL .nil pass0 (pa_cons (pe_fld (pv 0) rfl) pa_nil)))), ?_⟩
    obtain ⟨g, dx, q, hp, ht, nq⟩ := id hw
    have k : GivesW W C H Q p (some ⟨d.n, Kp280.first d.n, 0⟩) (nums (Kp280.tellTriple (Kp280.first d.n))) := k
    refine ⟨_, rfl, p, dx, _, rfl, hp, wf_no _ _ _ (by decide +kernel) (by decide +kernel) (by decide +kernel), p, dx, d.n, _, _, rfl, hp, g.1, fun H1 b1 hw1 => ?_⟩
    obtain ⟨g1, dx1, q1, hp1, ht1, nq1⟩ := id hw1
    refine ⟨_, rfl, p, W, dx1, _, _, rfl, hp1, TW.cl, TW.nT, wf_t _ _ _, q1, Kp280.first d.n, rfl, ht1, fun H2 l s2 hl hl2 => ?_⟩
    have nlp : l ≠ p := fun z => by rw [z, hp1] at hl; cases hl
    exact k H2 l (fun b o e hb => s2 _ _ (b1 b o e hb)) (b1.free hl nlp) (hw1.same s2) hl2
theorem scDone : FnScope ["self"] ["self"] (defScope sDone) := ⟨rfl, rfl, rfl, by decide +kernel, rfl, by decide +kernel, by decide +kernel⟩
theorem ok_done {f W C : Addr} {fd : FuncData} (F : Fun K "tell_done" "Walk.tell_done" sDone f fd) (T : Txt K mg C) (TW : TxtW K mg W) :
    FnOk P w K mg base CX0 1 f fd ["self"] (spM W C .done) := by
  refine F.ok scDone (fun vs H Q E h => ?_) (fun cdv A outer s H vs Q E hr h => ?_)
  · obtain ⟨p, d, rfl, _⟩ := h
    rfl
  · obtain ⟨p, d, rfl, hw, k⟩ := h
    refine ⟨_, pss_one (ps_ret (pe_lst (pa_cons (pe_ifExp (pt_cmpR op_eq (pe_fld (pe_fld (pv 0) rfl) rfl) pe_int (nomark _)) pe_int pe_int) pa_nil))), ?_⟩
    obtain ⟨g, dx, q, hp, ⟨dq, hq⟩, nq⟩ := id hw
    have k : GivesW W C H Q p (some d) (nums (Kp280.say (if d.t.k = 1 then 1 else 0))) := k
    refine ⟨_, rfl, p, W, dx, _, _, rfl, hp, TW.cl, TW.nT, wf_t _ _ _, q, C, dq, _, _, rfl, hq, T.cl, T.nK, tf_k _, rfl, _, rfl, ?_⟩
    rw [vint_eq]
    by_cases e1 : d.t.k = 1
    · rw [decide_eq_true e1]
      rw [if_pos e1] at k
      refine iteT ⟨(by show 1 ≤ sizeLine; decide), fun l hl => ?_⟩
      exact k.of hw _ l (same_new (Same.refl _) hl) hl upd_same
    · rw [decide_eq_false e1]
      rw [if_neg e1] at k
      refine iteF ⟨(by show 1 ≤ sizeLine; decide), fun l hl => ?_⟩
      exact k.of hw _ l (same_new (Same.refl _) hl) hl upd_same
theorem scTt : FnScope ["self"] ["self"] (defScope sTt) := ⟨rfl, rfl, rfl, by decide +kernel, rfl, by decide +kernel, by decide +kernel⟩
theorem ok_tt {f W C : Addr} {fd : FuncData} (F : Fun K "tell_told" "Walk.tell_told" sTt f fd) (T : Txt K mg C) (TW : TxtW K mg W) :
    FnOk P w K mg base CX0 1 f fd ["self"] (spM W C .told) := by
  refine F.ok scTt (fun vs H Q E h => ?_) (fun cdv A outer s H vs Q E hr h => ?_)
  · obtain ⟨p, d, rfl, _⟩ := h
    rfl
  · obtain ⟨p, d, rfl, hw, k⟩ := h
    refine ⟨_, pss_one (ps_ret (pe_lst (pa_cons (pe_fld (pv 0) rfl) (pa_cons (pe_fld (pe_fld (pv 0) rfl) rfl) (pa_cons (pe_fld (pe_fld (pv 0) rfl) rfl) (pa_cons (pe_fld (pe_fld (pv 0) rfl) rfl) (pa_cons (pe_fld (pv 0) rfl) pa_nil))))))), ?_⟩
    obtain ⟨g, dx, q, hp, ⟨dq, hq⟩, nq⟩ := id hw
    refine ⟨_, rfl, p, W, dx, _, _, rfl, hp, TW.cl, TW.nN, wf_n _ _ _, _, rfl, p, W, dx, _, _, rfl, hp, TW.cl, TW.nT, wf_t _ _ _, q, C, dq, _, _, rfl, hq, T.cl, T.nA, tf_a _,
      _, rfl, p, W, dx, _, _, rfl, hp, TW.cl, TW.nT, wf_t _ _ _, q, C, dq, _, _, rfl, hq, T.cl, T.nB, tf_b _, _, rfl, p, W, dx, _, _, rfl, hp, TW.cl, TW.nT, wf_t _ _ _, q, C, dq, _, _, rfl, hq, T.cl, T.nK, tf_k _,
      _, rfl, p, W, dx, _, _, rfl, hp, TW.cl, TW.nS, wf_s _ _ _, (by show 5 ≤ sizeLine; decide), fun l hl => ?_⟩
    exact k.of hw _ l (same_new (Same.refl _) hl) hl upd_same
end
end Rw
end
section
set_option Elab.async false
set_option linter.all false
set_option maxRecDepth 100000
set_option maxHeartbeats 4000000
namespace Rw
open PySem PySem.Spec PyProof.Rows L2
open PySem.W (Codec)
open Kp280 (Triple)
def spAnswer (W C : Addr) : Sp := fun vs H Q _ => ∃ (w : Addr) (st : Kp280.State) (c : Kp280.Call), vs = [.ref w, .int (numOf c).1, .int (numOf c).2] ∧ WalkAt W C H w st ∧ GivesW W C H Q w (Kp280.step st c).1 (nums (Kp280.step st c).2)
/-- answers': a list of ints is handed in, the specification's list comes out -/
def spAns (K : PySem.W.Frag) : Sp := fun vs H Q _ => ∃ (a : Addr) (ns : List Int), vs = [.ref a] ∧ SqL K H a (ns.map V.int) ∧ ns.length ≤ 200 ∧ PyKp280.answers_asked ns = true ∧ ∀ (H' : Hp) (p : Addr), H' p = some (.lst ((PyKp280.answers ns).map V.int)) → Q (.ref p) H'
/-- the calls with an argument, as the module's tuple has them -/
structure TxtA (K : PySem.W.Frag) (mg : Str → Option Value) (a : Addr) : Prop where
  mgA : mg "CALLS_WITH_ARGUMENT" = some (.ref a)
  tup : ∀ H : Hp, SqT K H a (([0, 2, 4, 7, 8, 10, 11, 12] : List Int).map V.int)
theorem inV_arg (p : Nat) : inV (V.int (p : Int)) (([0, 2, 4, 7, 8, 10, 11, 12] : List Int).map V.int) = hasArg p := by
  unfold inV hasArg
  simp only [List.map_cons, List.map_nil, List.any_cons, List.any_nil, Bool.or_false]
  have e : ∀ k : Nat, eqV (V.int (k : Int)) (V.int (p : Int)) = (p == k) := fun k => by
    show ((k : Int) == (p : Int)) = _
    apply Bool.eq_iff_iff.mpr
    rw [beq_iff_eq, beq_iff_eq]
    omega
  rw [show (0 : Int) = ((0 : Nat) : Int) from rfl, show (2 : Int) = ((2 : Nat) : Int) from rfl, show (4 : Int) = ((4 : Nat) : Int) from rfl, show (7 : Int) = ((7 : Nat) : Int) from rfl, show (8 : Int) = ((8 : Nat) : Int) from rfl, show (10 : Int) = ((10 : Nat) : Int) from rfl, show (11 : Int) = ((11 : Nat) : Int) from rfl, show (12 : Int) = ((12 : Nat) : Int) from rfl]
  rw [e, e, e, e, e, e, e, e]
  simp only [Bool.or_assoc]
theorem drop_cons {α : Type} {l : List α} {i : Nat} (h : i < l.length) : ∃ z r, l.drop i = z :: r ∧ l[i]? = some z ∧ r = l.drop (i + 1) := ⟨l[i], l.drop (i + 1), List.drop_eq_getElem_cons h, List.getElem?_eq_getElem h, rfl⟩
theorem told_put (out z : List Int) : (out.map V.int ++ [V.int ((z.map V.int).length : Nat)]) ++ z.map V.int = (out ++ (z.length : Int) :: z).map V.int := by
  rw [List.map_append, List.map_cons, List.append_assoc, List.length_map]
  rfl
/-- what holds between two calls -/
structure Mid (ns : List Int) (i : Nat) (st : Kp280.State) (out : List Int) : Prop where
  le : i ≤ ns.length
  ex : ∃ (f : Nat) (cs : List (List (List Int))), (ns.drop i).length ≤ f ∧ PyFlat.calls PyKp280.shape f (ns.drop i) = some cs ∧ PyInside.calls PyKp280.bound cs = true ∧ PyKp280.answers ns = out ++ PyFlat.told (PyFlat.played Kp280Neutral.step st (cs.map PyKp280.whole))
  sz : out.length ≤ 131 * i
theorem Mid.start {ns : List Int} (h : PyKp280.answers_asked ns = true) : Mid ns 0 none [] := by
  unfold PyKp280.answers_asked at h
  cases e : PyFlat.calls PyKp280.shape ns.length ns with
  | none => rw [e] at h; cases h
  | some raw =>
    rw [e] at h
    simp only [Bool.and_eq_true] at h
    refine ⟨Nat.zero_le _, ⟨ns.length, raw, Nat.le_refl _, e, h.1.1.2, ?_⟩, Nat.zero_le _⟩
    rw [List.nil_append]
    unfold PyKp280.answers PyKp280.calls
    rw [e]
    rfl
theorem Mid.stop {ns : List Int} {i : Nat} {st : Kp280.State} {out : List Int} (M : Mid ns i st out) (h : ¬ i < ns.length) : PyKp280.answers ns = out := by
  obtain ⟨f, cs, _, hc, _, e⟩ := M.ex
  rw [List.drop_eq_nil_of_le (by omega)] at hc
  have hcs : cs = [] := by
    cases f <;> (unfold PyFlat.calls at hc; cases hc; rfl)
  rw [e, hcs]
  show out ++ [] = out
  rw [List.append_nil]
theorem Mid.turn {ns : List Int} {i : Nat} {st : Kp280.State} {out : List Int} (M : Mid ns i st out) (g : GoodS st) (h : i < ns.length) : ∃ c : Kp280.Call, ns[i]? = some ((numOf c).1 : Int) ∧
    ((hasArg (numOf c).1 = true ∧ ns[i + 1]? = some ((numOf c).2 : Int) ∧ Mid ns (i + 2) (Kp280.step st c).1 (out ++ ((nums (Kp280.step st c).2).length : Int) :: nums (Kp280.step st c).2)) ∨
     (hasArg (numOf c).1 = false ∧ (numOf c).2 = 0 ∧ Mid ns (i + 1) (Kp280.step st c).1 (out ++ ((nums (Kp280.step st c).2).length : Int) :: nums (Kp280.step st c).2))) := by
  obtain ⟨f, cs, hf, hc, hb, e⟩ := M.ex
  obtain ⟨z, r, h1, h2, h3⟩ := drop_cons h
  rw [h1] at hc hf
  cases f with
  | zero => rw [List.length_cons] at hf; omega
  | succ f =>
    obtain ⟨c, rest, cl, cs', e1, e2, e3, e4, e5, e6⟩ := one_call hc hb
    have hn := nums_len g c
    have hsz := M.sz
    have eA : PyKp280.answers ns = (out ++ ((nums (Kp280.step st c).2).length : Int) :: nums (Kp280.step st c).2) ++ PyFlat.told (PyFlat.played Kp280Neutral.step (Kp280.step st c).1 (cs'.map PyKp280.whole)) := by
      rw [e, e1, List.map_cons]
      show out ++ PyFlat.told ((Kp280Neutral.step st (PyKp280.whole cl)).2 :: PyFlat.played Kp280Neutral.step (Kp280Neutral.step st (PyKp280.whole cl)).1 (cs'.map PyKp280.whole)) = _
      rw [e6 st, List.append_assoc]
      rfl
    have lA : (out ++ ((nums (Kp280.step st c).2).length : Int) :: nums (Kp280.step st c).2).length ≤ 131 * i + 131 := by
      rw [List.length_append, List.length_cons]
      omega
    refine ⟨c, by rw [h2, e4], ?_⟩
    rcases e5 with ⟨ha, hr⟩ | ⟨ha, h0, hr⟩
    · have hl : i + 1 < ns.length := by
        have : (ns.drop (i + 1)).length = rest.length + 1 := by rw [← h3, hr, List.length_cons]
        rw [List.length_drop] at this
        omega
      obtain ⟨z2, r2, k1, k2, k3⟩ := drop_cons hl
      have hr2 : z2 :: r2 = ((numOf c).2 : Int) :: rest := by rw [← k1, ← h3, hr]
      injection hr2 with q1 q2
      subst q1 q2
      refine .inl ⟨ha, k2, ⟨by omega, ⟨f, cs', ?_, ?_, e3, eA⟩, by omega⟩⟩
      · rw [← k3]
        rw [List.length_cons, hr, List.length_cons] at hf
        omega
      · rw [← k3]; exact e2
    · subst hr
      refine .inr ⟨ha, h0, ⟨by omega, ⟨f, cs', ?_, ?_, e3, eA⟩, by omega⟩⟩
      · rw [← h3]
        rw [List.length_cons] at hf
        omega
      · rw [← h3]; exact e2
section
variable {P : Program} {w : World} {K : PySem.W.Frag} {mg : Str → Option Value} {base : Heap}
theorem But.seq {x a W dx : Addr} {fs : List (Str × V)} {H H' : Hp} {xs : List V} (b : But x H H') (hx : H x = some (.ins W dx fs)) (h : SqL K H a xs) : SqL K H' a xs := by
  rcases h with (h | ⟨o, h⟩) | h
  · exact .inl (.inl (b _ _ h (ne_of h hx (by intro z; cases z))))
  · exact .inl (.inr ⟨o, b _ _ h (ne_of h hx (by intro z; cases z))⟩)
  · exact .inr h
theorem scAns : FnScope ["calls", "walk", "told", "place", "call", "argument", "numbers"] ["calls"] (defScope sAns) := ⟨rfl, rfl, rfl, by decide +kernel, rfl, by decide +kernel, by decide +kernel⟩
theorem ok_ans {f fI fA W C tp : Addr} {fd fdI fdA : FuncData} (F : Fun K "answers" "answers" sAns f fd) (T : Txt K mg C) (TW : TxtW K mg W) (TA : TxtA K mg tp) (M : Mk K W fI) (FI : Fun K "__init__" "Walk.__init__" sInit fI fdI) (bI : Binds K fdI ["self"] [])
    (GA : FnOk P w K mg base CX0 7 fA fdA ["self", "call", "argument"] (spAnswer W C)) (bA : Binds K fdA ["self", "call", "argument"] []) (mA : Meth K W "answer" fA) : FnOk P w K mg base CX0 8 f fd ["calls"] (spAns K) := by
  have GI : FnOk P w K mg base CX0 1 fI fdI ["self"] (spInit W) := ok_init FI TW
  refine F.ok scAns (fun vs H Q E h => ?_) (fun cdv A outer s H vs Q E hr h => ?_)
  · obtain ⟨a, ns, rfl, _⟩ := h
    rfl
  · obtain ⟨a, ns, rfl, hS, hlen, hask, k⟩ := h
    have hr2 : Room 2 _ := hr.mono (by decide)
    refine ⟨_, pss_cons (ps_set (i := 1) scAns.nd rfl (Or.inl rfl) (pe_make0 M GI hr2 rfl TW.mgW bI .nil pass0))
      (pss_cons (ps_set (i := 2) scAns.nd rfl (Or.inl rfl) (pe_lst pa_nil))
      (pss_cons (ps_set (i := 3) scAns.nd rfl (Or.inl rfl) pe_int)
      (pss_cons (ps_while PassesOwn.never (pt_cmpR op_lt (pv 3) (pe_callB call_len_seq (by rfl) T.len bt_len (pa_cons (pv 0) pa_nil)) (nomark _))
        (pss_cons (ps_set (i := 4) scAns.nd rfl (Or.inl rfl) (pe_ix ix_list (pv 0) (pv 3) (fun _ _ => rfl)))
        (pss_cons (ps_set (i := 5) scAns.nd rfl (Or.inl rfl) pe_int)
        (pss_cons (ps_aug (i := 3) scAns.nd rfl (Or.inl rfl) pe_int ip_add)
        (pss_cons (ps_if (pt_cmpR op_in_seq (pv 4) (pe_glob (v := .ref tp) rfl TA.mgA rfl) (by with_unfolding_all rfl))
          (pss_cons (ps_set (i := 5) scAns.nd rfl (Or.inl rfl) (pe_ix ix_list (pv 0) (pv 3) (fun _ _ => rfl))) (pss_one (ps_aug (i := 3) scAns.nd rfl (Or.inl rfl) pe_int ip_add))) pss_nil)
        (pss_cons (ps_set (i := 6) scAns.nd rfl (Or.inl rfl) (pe_meth (pv 1) TW.cl mA GA hr bA .nil pass0 (pa_cons (pv 4) (pa_cons (pv 5) pa_nil))))
        (pss_cons (ps_expr (pe_bm PySem.F.plainAttrs_list PySem.F.slot_list_append PySem.F.type_list_append mt_append (pv 2) (pa_cons (pe_callB call_len_seq (by rfl) T.len bt_len (pa_cons (pv 6) pa_nil)) pa_nil)))
        (pss_one (ps_expr (pe_bm PySem.F.plainAttrs_list PySem.F.slot_list_extend PySem.F.type_list_extend mt_extend (pv 2) (pa_cons (pv 6) pa_nil))))))))))
      )
      (pss_one (ps_ret (pv 2)))))), ?_⟩
    intro x dx nx nd ndx
    refine ⟨x, dx, rfl, upd_same, fun H1 hx1 kp1 => ⟨rfl, ?_⟩⟩
    have s1 : Same H H1 := Same.made nx nd kp1
    refine ⟨Nat.zero_le _, fun l hl => ?_⟩
    have s2 : Same H1 (upd H1 l (.lst [])) := same_new (Same.refl _) hl
    have hw0 : WalkAt W C H1 x none := ⟨trivial, hx1⟩
    refine while_by (fun σ H' => ∃ (i : Nat) (st : Kp280.State) (out : List Int) (v4 v5 v6 : Option V), σ = [some (.ref a), some (.ref x), some (.ref l), some (.int i), v4, v5, v6] ∧ But x H1 H' ∧ WalkAt W C H' x st ∧ H' l = some (.lst (out.map V.int)) ∧ Mid ns i st out)
      (fun σ _ => 200 - (match σ with | [_, _, _, some (.int i), _, _, _] => i.toNat | _ => 0))
      ⟨0, none, [], none, none, none, rfl, .of s2, hw0.same s2, upd_same, Mid.start hask⟩ ?_ ?_
    · rintro σ H' ⟨i, st, out, v4, v5, v6, rfl, b1, hw, hl1, M⟩
      obtain ⟨dxx, hx1⟩ := hx1
      have hS1 : SqL K H' a (ns.map V.int) := But.seq b1 hx1 (s1.seq hS)
      obtain ⟨dw, nw, vw, cw, hxw⟩ := walk_ins hw
      have nlx : l ≠ x := ne_of hl1 hxw (by intro z; cases z)
      refine ⟨_, rfl, _, rfl, a, _, rfl, .inl hS1, _, _, rfl, rfl, _, rfl, ?_⟩
      refine ite2 (fun h1 => ?_) (fun h1 => ?_)
      · have hi : i < ns.length := by
          have := of_decide_eq_true h1
          rw [List.length_map] at this
          omega
        obtain ⟨c, hc, hcase⟩ := M.turn hw.1 hi
        have at0 : atI (ns.map V.int) (i : Int) = some (V.int ((numOf c).1 : Nat)) := at_of rfl (by rw [List.getElem?_map, hc]; rfl)
        have hi131 : out.length ≤ 131 * 200 := by have := M.sz; omega
        have hn := nums_len hw.1 c
        have tail : ∀ (i2 : Nat), i < i2 → i2 ≤ 200 → Mid ns i2 (Kp280.step st c).1 (out ++ ((nums (Kp280.step st c).2).length : Int) :: nums (Kp280.step st c).2) → ∀ (H2 : Hp) (q : Addr), But x H' H2 → H' q = Option.none → WalkAt W C H2 x (Kp280.step st c).1 → H2 q = some (.lst ((nums (Kp280.step st c).2).map V.int)) →
            H2 l = some (.lst (out.map V.int)) ∧ (out.map V.int).length < sizeLine ∧ q ≠ l ∧ (out.map V.int ++ [V.int (((nums (Kp280.step st c).2).map V.int).length : Nat)]).length + ((nums (Kp280.step st c).2).map V.int).length ≤ sizeLine ∧
            But x H1 (upd (upd H2 l (.lst (out.map V.int ++ [V.int (((nums (Kp280.step st c).2).map V.int).length : Nat)]))) l (.lst ((out.map V.int ++ [V.int (((nums (Kp280.step st c).2).map V.int).length : Nat)]) ++ (nums (Kp280.step st c).2).map V.int))) ∧
            WalkAt W C (upd (upd H2 l (.lst (out.map V.int ++ [V.int (((nums (Kp280.step st c).2).map V.int).length : Nat)]))) l (.lst ((out.map V.int ++ [V.int (((nums (Kp280.step st c).2).map V.int).length : Nat)]) ++ (nums (Kp280.step st c).2).map V.int))) x (Kp280.step st c).1 ∧
            (upd (upd H2 l (.lst (out.map V.int ++ [V.int (((nums (Kp280.step st c).2).map V.int).length : Nat)]))) l (.lst ((out.map V.int ++ [V.int (((nums (Kp280.step st c).2).map V.int).length : Nat)]) ++ (nums (Kp280.step st c).2).map V.int))) l = some (.lst ((out ++ ((nums (Kp280.step st c).2).length : Int) :: nums (Kp280.step st c).2).map V.int)) := by
          intro i2 h2 h200 M2 H2 q b2 hq0 hw2 hq2
          have hl2 := b2 _ _ hl1 nlx
          have nql : q ≠ l := fun z => by rw [z, hl1] at hq0; cases hq0
          refine ⟨hl2, ?_, nql, ?_, ?_, ?_, ?_⟩
          · rw [List.length_map]
            exact Nat.lt_of_le_of_lt hi131 (by decide)
          · rw [List.length_append, List.length_map, List.length_map]
            exact Nat.le_trans (show out.length + 1 + (nums (Kp280.step st c).2).length ≤ 131 * 200 + 1 + 130 by omega) (by decide)
          · intro b o e hb
            by_cases hbl : b = l
            · subst hbl; rw [hl] at e; cases e
            · rw [upd_ne hbl, upd_ne hbl]; exact b2 _ _ (b1 _ _ e hb) hb
          · obtain ⟨g2, hw3⟩ := hw2
            refine ⟨g2, ?_⟩
            have mv : ∀ {b : Addr} {D dd : Addr} {fs : List (Str × V)}, H2 b = some (.ins D dd fs) → (upd (upd H2 l (.lst (out.map V.int ++ [V.int (((nums (Kp280.step st c).2).map V.int).length : Nat)]))) l (.lst ((out.map V.int ++ [V.int (((nums (Kp280.step st c).2).map V.int).length : Nat)]) ++ (nums (Kp280.step st c).2).map V.int))) b = some (.ins D dd fs) := fun {b D dd fs} e => by
              have nb : b ≠ l := ne_of e hl2 (by intro z; cases z)
              rw [upd_ne nb, upd_ne nb]
              exact e
            cases hs : (Kp280.step st c).1 with
            | none =>
              rw [hs] at hw3
              obtain ⟨dd, e⟩ := hw3
              exact ⟨dd, mv e⟩
            | some d =>
              rw [hs] at hw3
              obtain ⟨dd, qq, e, ⟨d3, e3⟩, e4⟩ := hw3
              exact ⟨dd, qq, mv e, ⟨d3, mv e3⟩, e4⟩
          · rw [upd_same, told_put]
        refine ⟨_, rfl, _, rfl, a, _, _, _, rfl, rfl, hS1, at0, ?_⟩
        refine ⟨_, rfl, _, _, rfl, rfl, ?_⟩
        refine ⟨_, rfl, tp, _, rfl, .inr (TA.tup _), rfl, rfl, hasArg (numOf c).1, congrArg V.bl (inV_arg _), ?_⟩
        rcases hcase with ⟨ha, hx2, M2⟩ | ⟨ha, h0, M2⟩
        · rw [ha]
          refine iteT ?_
          have at1 : atI (ns.map V.int) ((i : Int) + 1) = some (V.int ((numOf c).2 : Nat)) := at_of (j := i + 1) rfl (by rw [List.getElem?_map, hx2]; rfl)
          refine ⟨_, rfl, _, rfl, a, _, _, _, rfl, rfl, hS1, at1, ?_⟩
          refine ⟨_, rfl, _, _, rfl, rfl, ?_⟩
          refine ⟨_, rfl, x, dw, _, rfl, hxw, wf_no _ _ _ (by decide +kernel) (by decide +kernel) (by decide +kernel), _, rfl, _, rfl, x, st, c, rfl, hw, fun H2 q b2 hq0 hw2 hq2 => ?_⟩
          obtain ⟨t1, t2, t3, t4, t5, t6, t7⟩ := tail (i + 2) (by omega) (by have := M2.le; omega) M2 H2 q b2 hq0 hw2 hq2
          refine ⟨_, rfl, .inl ⟨rfl, _, SqL.of t1⟩, _, rfl, q, _, rfl, .inl (SqL.of hq2), l, _, _, rfl, rfl, t1, t2, ?_⟩
          refine ⟨_, rfl, .inl ⟨rfl, _, SqL.of upd_same⟩, _, rfl, l, q, _, _, rfl, rfl, upd_same, (by rw [upd_ne t3]; exact hq2), t4, ?_⟩
          refine ⟨⟨i + 2, _, _, _, _, _, rfl, t5, t6, t7, M2⟩, ?_⟩
          show 200 - ((i : Int) + 1 + 1).toNat < 200 - (i : Int).toNat
          have := M2.le
          omega
        · rw [ha]
          refine iteF ?_
          refine ⟨_, rfl, x, dw, _, rfl, hxw, wf_no _ _ _ (by decide +kernel) (by decide +kernel) (by decide +kernel), _, rfl, _, rfl, x, st, c, (by rw [h0]; rfl), hw, fun H2 q b2 hq0 hw2 hq2 => ?_⟩
          obtain ⟨t1, t2, t3, t4, t5, t6, t7⟩ := tail (i + 1) (by omega) (by have := M2.le; omega) M2 H2 q b2 hq0 hw2 hq2
          refine ⟨_, rfl, .inl ⟨rfl, _, SqL.of t1⟩, _, rfl, q, _, rfl, .inl (SqL.of hq2), l, _, _, rfl, rfl, t1, t2, ?_⟩
          refine ⟨_, rfl, .inl ⟨rfl, _, SqL.of upd_same⟩, _, rfl, l, q, _, _, rfl, rfl, upd_same, (by rw [upd_ne t3]; exact hq2), t4, ?_⟩
          refine ⟨⟨i + 1, _, _, _, _, _, rfl, t5, t6, t7, M2⟩, ?_⟩
          show 200 - ((i : Int) + 1).toNat < 200 - (i : Int).toNat
          have := M2.le
          omega
      · have hi : ¬ i < ns.length := fun z => h1 (decide_eq_true (by rw [List.length_map]; omega))
        refine ⟨_, rfl, k H' l ?_⟩
        rw [M.stop hi]
        exact hl1
    · rintro σ H' Q1 Q2 hQ ⟨x1, h1, x2, h2, p, ys, h3, h4, i', j', h5, h6, b, h7, h8⟩
      exact ⟨x1, h1, x2, h2, p, ys, h3, h4, i', j', h5, h6, b, h7, hQ _ _ h8⟩
end
end Rw
end
section
set_option Elab.async false
set_option linter.all false
set_option maxRecDepth 100000
set_option maxHeartbeats 4000000
namespace Rw
open PySem PySem.Spec PyProof.Rows L2
open PySem.W (Codec)
open Kp280 (Triple)
section
variable {P : Program} {w : World} {K : PySem.W.Frag} {mg : Str → Option Value} {base : Heap}
theorem scAnswer : FnScope ["self", "call", "argument"] ["self", "call", "argument"] (defScope sAnswer) := ⟨rfl, rfl, rfl, by decide +kernel, rfl, by decide +kernel, by decide +kernel⟩
theorem ok_answer {f W C fB fS fSs fT fFt fWy fPr fDf fSh fAg fDn fTt fAp : Addr} {fd fdB fdS fdSs fdT fdFt fdWy fdPr fdDf fdSh fdAg fdDn fdTt fdAp : FuncData} (F : Fun K "answer" "Walk.answer" sAnswer f fd) (T : Txt K mg C) (TW : TxtW K mg W) (TC : TxtC mg)
    (GB : FnOk P w K mg base CX0 5 fB fdB ["self", "n"] (spBegin W C)) (bB : Binds K fdB ["self", "n"] []) (mB : Meth K W "begin" fB)
    (GS : FnOk P w K mg base CX0 4 fS fdS ["self"] (spM W C .step_)) (bS : Binds K fdS ["self"] []) (mS : Meth K W "take_step" fS)
    (GSs : FnOk P w K mg base CX0 5 fSs fdSs ["self", "j"] (spM1 W C .steps)) (bSs : Binds K fdSs ["self", "j"] []) (mSs : Meth K W "tell_steps" fSs)
    (GT : FnOk P w K mg base CX0 3 fT fdT ["self"] (spM W C .taken)) (bT : Binds K fdT ["self"] []) (mT : Meth K W "tell_taken" fT)
    (GFt : FnOk P w K mg base CX0 2 fFt fdFt ["self", "m"] (spM1 W C .fits)) (bFt : Binds K fdFt ["self", "m"] []) (mFt : Meth K W "tell_fits" fFt)
    (GWy : FnOk P w K mg base CX0 4 fWy fdWy ["n"] (spWay C)) (FWy : Fun K "way_of" "way_of" sWay fWy fdWy) (bWy : Binds K fdWy ["n"] []) (mWy : mg "way_of" = some (.ref fWy))
    (GPr : FnOk P w K mg base CX0 1 fPr fdPr ["way"] (spPairs C)) (FPr : Fun K "tell_pairs" "tell_pairs" sPairs fPr fdPr) (bPr : Binds K fdPr ["way"] []) (mPr : mg "tell_pairs" = some (.ref fPr))
    (GDf : FnOk P w K mg base CX0 1 fDf fdDf ["way"] (spDiffs C)) (FDf : Fun K "tell_differences" "tell_differences" sDiffs fDf fdDf) (bDf : Binds K fdDf ["way"] []) (mDf : mg "tell_differences" = some (.ref fDf))
    (GSh : FnOk P w K mg base CX0 5 fSh fdSh ["self"] (spM W C .short)) (bSh : Binds K fdSh ["self"] []) (mSh : Meth K W "tell_short" fSh)
    (GAg : FnOk P w K mg base CX0 5 fAg fdAg ["self"] (spM W C .again)) (bAg : Binds K fdAg ["self"] []) (mAg : Meth K W "walk_again" fAg)
    (GDn : FnOk P w K mg base CX0 1 fDn fdDn ["self"] (spM W C .done)) (bDn : Binds K fdDn ["self"] []) (mDn : Meth K W "tell_done" fDn)
    (GTt : FnOk P w K mg base CX0 1 fTt fdTt ["self"] (spM W C .told)) (bTt : Binds K fdTt ["self"] []) (mTt : Meth K W "tell_told" fTt)
    (GAp : FnOk P w K mg base CX0 6 fAp fdAp ["call", "argument"] spApart) (FAp : Fun K "answer_apart" "answer_apart" sApart fAp fdAp) (bAp : Binds K fdAp ["call", "argument"] []) (mAp : mg "answer_apart" = some (.ref fAp)) :
    FnOk P w K mg base CX0 7 f fd ["self", "call", "argument"] (spAnswer W C) := by
  obtain ⟨t0, e0⟩ := TC.c0
  obtain ⟨t1, e1⟩ := TC.c1
  obtain ⟨t2, e2⟩ := TC.c2
  obtain ⟨t3, e3⟩ := TC.c3
  obtain ⟨t4, e4⟩ := TC.c4
  obtain ⟨t5, e5⟩ := TC.c5
  obtain ⟨t6, e6⟩ := TC.c6
  obtain ⟨t9, e9⟩ := TC.c9
  obtain ⟨t13, e13⟩ := TC.c13
  obtain ⟨t14, e14⟩ := TC.c14
  obtain ⟨t15, e15⟩ := TC.c15
  obtain ⟨tN, eN⟩ := TW.told11
  refine F.ok scAnswer (fun vs H Q E h => ?_) (fun cdv A outer s H vs Q E hr h => ?_)
  · obtain ⟨p, st, c, rfl, _⟩ := h
    rfl
  · obtain ⟨p, st, c, rfl, hw, k⟩ := h
    have hr1 : Room 1 _ := hr.mono (by decide)
    have hr2 : Room 2 _ := hr.mono (by decide)
    have hr3 : Room 3 _ := hr.mono (by decide)
    have hr4 : Room 4 _ := hr.mono (by decide)
    have hr5 : Room 5 _ := hr.mono (by decide)
    refine ⟨_, pss_cons (ps_if (pt_cmpR op_eq (pv 1) (pe_glob (v := .int 0) rfl e0 ⟨_, rfl⟩) (nomark _)) (pss_one (ps_ret (pe_meth (pv 0) TW.cl mB GB hr5 bB .nil pass0 (pa_cons (pv 2) pa_nil)))) pss_nil)
      (pss_cons (ps_if (pt_cmpR op_isN (pe_fld (pv 0) rfl) pe_non (nomark _)) (pss_one (ps_ret (pe_lst (pa_cons (pe_glob (v := .int (-11)) rfl eN ⟨_, rfl⟩) pa_nil)))) pss_nil)
      (pss_cons (ps_if (pt_cmpR op_eq (pv 1) (pe_glob (v := .int 1) rfl e1 ⟨_, rfl⟩) (nomark _)) (pss_one (ps_ret (pe_meth0 (pv 0) TW.cl mS GS hr4 bS .nil pass0))) pss_nil)
      (pss_cons (ps_if (pt_cmpR op_eq (pv 1) (pe_glob (v := .int 2) rfl e2 ⟨_, rfl⟩) (nomark _)) (pss_one (ps_ret (pe_meth (pv 0) TW.cl mSs GSs hr5 bSs .nil pass0 (pa_cons (pv 2) pa_nil)))) pss_nil)
      (pss_cons (ps_if (pt_cmpR op_eq (pv 1) (pe_glob (v := .int 3) rfl e3 ⟨_, rfl⟩) (nomark _)) (pss_one (ps_ret (pe_meth0 (pv 0) TW.cl mT GT hr3 bT .nil pass0))) pss_nil)
      (pss_cons (ps_if (pt_cmpR op_eq (pv 1) (pe_glob (v := .int 4) rfl e4 ⟨_, rfl⟩) (nomark _)) (pss_one (ps_ret (pe_meth (pv 0) TW.cl mFt GFt hr2 bFt .nil pass0 (pa_cons (pv 2) pa_nil)))) pss_nil)
      (pss_cons (ps_if (pt_cmpR op_eq (pv 1) (pe_glob (v := .int 5) rfl e5 ⟨_, rfl⟩) (nomark _)) (pss_one (ps_ret (pe_call GPr hr1 rfl mPr FPr.kp bPr .nil pass0 (pa_cons (pe_call GWy hr4 rfl mWy FWy.kp bWy .nil pass0 (pa_cons (pe_fld (pv 0) rfl) pa_nil)) pa_nil)))) pss_nil)
      (pss_cons (ps_if (pt_cmpR op_eq (pv 1) (pe_glob (v := .int 6) rfl e6 ⟨_, rfl⟩) (nomark _)) (pss_one (ps_ret (pe_call GDf hr1 rfl mDf FDf.kp bDf .nil pass0 (pa_cons (pe_call GWy hr4 rfl mWy FWy.kp bWy .nil pass0 (pa_cons (pe_fld (pv 0) rfl) pa_nil)) pa_nil)))) pss_nil)
      (pss_cons (ps_if (pt_cmpR op_eq (pv 1) (pe_glob (v := .int 9) rfl e9 ⟨_, rfl⟩) (nomark _)) (pss_one (ps_ret (pe_meth0 (pv 0) TW.cl mSh GSh hr5 bSh .nil pass0))) pss_nil)
      (pss_cons (ps_if (pt_cmpR op_eq (pv 1) (pe_glob (v := .int 13) rfl e13 ⟨_, rfl⟩) (nomark _)) (pss_one (ps_ret (pe_meth0 (pv 0) TW.cl mAg GAg hr5 bAg .nil pass0))) pss_nil)
      (pss_cons (ps_if (pt_cmpR op_eq (pv 1) (pe_glob (v := .int 14) rfl e14 ⟨_, rfl⟩) (nomark _)) (pss_one (ps_ret (pe_meth0 (pv 0) TW.cl mDn GDn hr1 bDn .nil pass0))) pss_nil)
      (pss_cons (ps_if (pt_cmpR op_eq (pv 1) (pe_glob (v := .int 15) rfl e15 ⟨_, rfl⟩) (nomark _)) (pss_one (ps_ret (pe_meth0 (pv 0) TW.cl mTt GTt hr1 bTt .nil pass0))) pss_nil)
      (pss_one (ps_ret (pe_call GAp hr rfl mAp FAp.kp bAp .nil pass0 (pa_cons (pv 1) (pa_cons (pv 2) pa_nil)))))))))))))))), ?_⟩
    refine ⟨_, rfl, rfl, _, rfl, ?_⟩
    obtain ⟨dx, n0, v0, c0, hp⟩ := walk_ins hw
    by_cases hb : (numOf c).1 = 0
    · obtain ⟨n, rfl⟩ : ∃ n, c = .begin_ n := by cases c <;> first | exact ⟨_, rfl⟩ | (exact absurd hb (by decide)) | (exact absurd hb (fun z => by cases z))
      refine ite_yes rfl ?_
      exact ⟨_, rfl, p, dx, _, rfl, hp, wf_no _ _ _ (by decide +kernel) (by decide +kernel) (by decide +kernel), _, rfl, p, st, n, rfl, hw, k⟩
    · refine ite_no (fun z => hb (by omega)) ?_
      cases st with
      | none =>
        obtain ⟨g, dx, hp⟩ := id hw
        refine ⟨_, rfl, p, W, dx, _, _, rfl, hp, TW.cl, TW.nT, wf_t _ _ _, rfl, _, rfl, ?_⟩
        refine iteT ⟨(by show 1 ≤ sizeLine; decide), fun l hl => ?_⟩
        have k : GivesW W C H Q p none [-11] := by
          cases c <;> first | exact absurd rfl hb | exact k
        exact k.of hw _ l (same_new (Same.refl _) hl) hl upd_same
      | some d =>
        obtain ⟨g, dx, q, hp, ht, nq⟩ := id hw
        have hL := long_lt g.1
        have hA := all_len d.n
        refine ⟨_, rfl, p, W, dx, _, _, rfl, hp, TW.cl, TW.nT, wf_t _ _ _, rfl, _, rfl, ?_⟩
        refine iteF ?_
        cases c with
        | begin_ n => exact absurd rfl hb
        | step_ =>
          refine ⟨_, rfl, rfl, _, rfl, ite_yes rfl ?_⟩
          exact ⟨_, rfl, p, dx, _, rfl, hp, wf_no _ _ _ (by decide +kernel) (by decide +kernel) (by decide +kernel), p, d, rfl, hw, k⟩
        | steps x =>
          refine ⟨_, rfl, rfl, _, rfl, ite_off rfl ?_⟩
          refine ⟨_, rfl, rfl, _, rfl, ite_yes rfl ?_⟩
          exact ⟨_, rfl, p, dx, _, rfl, hp, wf_no _ _ _ (by decide +kernel) (by decide +kernel) (by decide +kernel), _, rfl, p, d, x, rfl, hw, k⟩
        | taken =>
          refine ⟨_, rfl, rfl, _, rfl, ite_off rfl ?_⟩
          refine ⟨_, rfl, rfl, _, rfl, ite_off rfl ?_⟩
          refine ⟨_, rfl, rfl, _, rfl, ite_yes rfl ?_⟩
          exact ⟨_, rfl, p, dx, _, rfl, hp, wf_no _ _ _ (by decide +kernel) (by decide +kernel) (by decide +kernel), p, d, rfl, hw, k⟩
        | fits x =>
          refine ⟨_, rfl, rfl, _, rfl, ite_off rfl ?_⟩
          refine ⟨_, rfl, rfl, _, rfl, ite_off rfl ?_⟩
          refine ⟨_, rfl, rfl, _, rfl, ite_off rfl ?_⟩
          refine ⟨_, rfl, rfl, _, rfl, ite_yes rfl ?_⟩
          exact ⟨_, rfl, p, dx, _, rfl, hp, wf_no _ _ _ (by decide +kernel) (by decide +kernel) (by decide +kernel), _, rfl, p, d, x, rfl, hw, k⟩
        | all =>
          refine ⟨_, rfl, rfl, _, rfl, ite_off rfl ?_⟩
          refine ⟨_, rfl, rfl, _, rfl, ite_off rfl ?_⟩
          refine ⟨_, rfl, rfl, _, rfl, ite_off rfl ?_⟩
          refine ⟨_, rfl, rfl, _, rfl, ite_off rfl ?_⟩
          refine ⟨_, rfl, rfl, _, rfl, ite_yes rfl ?_⟩
          refine ⟨_, rfl, p, W, dx, _, _, rfl, hp, TW.cl, TW.nN, wf_n _ _ _, d.n, rfl, g.1, fun H1 q1 s1 hq1 hts => ?_⟩
          refine ⟨q1, _, rfl, hts, by omega, fun H2 l s2 hl hl2 => ?_⟩
          exact k.of hw H2 l (s1.trans s2) (s1.free hl) hl2
        | diffs =>
          refine ⟨_, rfl, rfl, _, rfl, ite_off rfl ?_⟩
          refine ⟨_, rfl, rfl, _, rfl, ite_off rfl ?_⟩
          refine ⟨_, rfl, rfl, _, rfl, ite_off rfl ?_⟩
          refine ⟨_, rfl, rfl, _, rfl, ite_off rfl ?_⟩
          refine ⟨_, rfl, rfl, _, rfl, ite_off rfl ?_⟩
          refine ⟨_, rfl, rfl, _, rfl, ite_yes rfl ?_⟩
          refine ⟨_, rfl, p, W, dx, _, _, rfl, hp, TW.cl, TW.nN, wf_n _ _ _, d.n, rfl, g.1, fun H1 q1 s1 hq1 hts => ?_⟩
          refine ⟨q1, _, rfl, hts, by omega, fun H2 l s2 hl hl2 => ?_⟩
          exact k.of hw H2 l (s1.trans s2) (s1.free hl) hl2
        | short =>
          refine ⟨_, rfl, rfl, _, rfl, ite_off rfl ?_⟩
          refine ⟨_, rfl, rfl, _, rfl, ite_off rfl ?_⟩
          refine ⟨_, rfl, rfl, _, rfl, ite_off rfl ?_⟩
          refine ⟨_, rfl, rfl, _, rfl, ite_off rfl ?_⟩
          refine ⟨_, rfl, rfl, _, rfl, ite_off rfl ?_⟩
          refine ⟨_, rfl, rfl, _, rfl, ite_off rfl ?_⟩
          refine ⟨_, rfl, rfl, _, rfl, ite_yes rfl ?_⟩
          exact ⟨_, rfl, p, dx, _, rfl, hp, wf_no _ _ _ (by decide +kernel) (by decide +kernel) (by decide +kernel), p, d, rfl, hw, k⟩
        | again =>
          refine ⟨_, rfl, rfl, _, rfl, ite_off rfl ?_⟩
          refine ⟨_, rfl, rfl, _, rfl, ite_off rfl ?_⟩
          refine ⟨_, rfl, rfl, _, rfl, ite_off rfl ?_⟩
          refine ⟨_, rfl, rfl, _, rfl, ite_off rfl ?_⟩
          refine ⟨_, rfl, rfl, _, rfl, ite_off rfl ?_⟩
          refine ⟨_, rfl, rfl, _, rfl, ite_off rfl ?_⟩
          refine ⟨_, rfl, rfl, _, rfl, ite_off rfl ?_⟩
          refine ⟨_, rfl, rfl, _, rfl, ite_yes rfl ?_⟩
          exact ⟨_, rfl, p, dx, _, rfl, hp, wf_no _ _ _ (by decide +kernel) (by decide +kernel) (by decide +kernel), p, d, rfl, hw, k⟩
        | done =>
          refine ⟨_, rfl, rfl, _, rfl, ite_off rfl ?_⟩
          refine ⟨_, rfl, rfl, _, rfl, ite_off rfl ?_⟩
          refine ⟨_, rfl, rfl, _, rfl, ite_off rfl ?_⟩
          refine ⟨_, rfl, rfl, _, rfl, ite_off rfl ?_⟩
          refine ⟨_, rfl, rfl, _, rfl, ite_off rfl ?_⟩
          refine ⟨_, rfl, rfl, _, rfl, ite_off rfl ?_⟩
          refine ⟨_, rfl, rfl, _, rfl, ite_off rfl ?_⟩
          refine ⟨_, rfl, rfl, _, rfl, ite_off rfl ?_⟩
          refine ⟨_, rfl, rfl, _, rfl, ite_yes rfl ?_⟩
          exact ⟨_, rfl, p, dx, _, rfl, hp, wf_no _ _ _ (by decide +kernel) (by decide +kernel) (by decide +kernel), p, d, rfl, hw, k⟩
        | told =>
          refine ⟨_, rfl, rfl, _, rfl, ite_off rfl ?_⟩
          refine ⟨_, rfl, rfl, _, rfl, ite_off rfl ?_⟩
          refine ⟨_, rfl, rfl, _, rfl, ite_off rfl ?_⟩
          refine ⟨_, rfl, rfl, _, rfl, ite_off rfl ?_⟩
          refine ⟨_, rfl, rfl, _, rfl, ite_off rfl ?_⟩
          refine ⟨_, rfl, rfl, _, rfl, ite_off rfl ?_⟩
          refine ⟨_, rfl, rfl, _, rfl, ite_off rfl ?_⟩
          refine ⟨_, rfl, rfl, _, rfl, ite_off rfl ?_⟩
          refine ⟨_, rfl, rfl, _, rfl, ite_off rfl ?_⟩
          refine ⟨_, rfl, rfl, _, rfl, ite_yes rfl ?_⟩
          exact ⟨_, rfl, p, dx, _, rfl, hp, wf_no _ _ _ (by decide +kernel) (by decide +kernel) (by decide +kernel), p, d, rfl, hw, k⟩
        | least x =>
          refine ⟨_, rfl, rfl, _, rfl, ite_off rfl ?_⟩
          refine ⟨_, rfl, rfl, _, rfl, ite_off rfl ?_⟩
          refine ⟨_, rfl, rfl, _, rfl, ite_off rfl ?_⟩
          refine ⟨_, rfl, rfl, _, rfl, ite_off rfl ?_⟩
          refine ⟨_, rfl, rfl, _, rfl, ite_off rfl ?_⟩
          refine ⟨_, rfl, rfl, _, rfl, ite_off rfl ?_⟩
          refine ⟨_, rfl, rfl, _, rfl, ite_off rfl ?_⟩
          refine ⟨_, rfl, rfl, _, rfl, ite_off rfl ?_⟩
          refine ⟨_, rfl, rfl, _, rfl, ite_off rfl ?_⟩
          refine ⟨_, rfl, rfl, _, rfl, ite_off rfl ?_⟩
          refine ⟨_, rfl, _, rfl, _, d, rfl, rfl, fun H2 l s2 hl hl2 => ?_⟩
          exact k.of hw H2 l s2 hl hl2
        | long x =>
          refine ⟨_, rfl, rfl, _, rfl, ite_off rfl ?_⟩
          refine ⟨_, rfl, rfl, _, rfl, ite_off rfl ?_⟩
          refine ⟨_, rfl, rfl, _, rfl, ite_off rfl ?_⟩
          refine ⟨_, rfl, rfl, _, rfl, ite_off rfl ?_⟩
          refine ⟨_, rfl, rfl, _, rfl, ite_off rfl ?_⟩
          refine ⟨_, rfl, rfl, _, rfl, ite_off rfl ?_⟩
          refine ⟨_, rfl, rfl, _, rfl, ite_off rfl ?_⟩
          refine ⟨_, rfl, rfl, _, rfl, ite_off rfl ?_⟩
          refine ⟨_, rfl, rfl, _, rfl, ite_off rfl ?_⟩
          refine ⟨_, rfl, rfl, _, rfl, ite_off rfl ?_⟩
          refine ⟨_, rfl, _, rfl, _, d, rfl, rfl, fun H2 l s2 hl hl2 => ?_⟩
          exact k.of hw H2 l s2 hl hl2
        | longest x =>
          refine ⟨_, rfl, rfl, _, rfl, ite_off rfl ?_⟩
          refine ⟨_, rfl, rfl, _, rfl, ite_off rfl ?_⟩
          refine ⟨_, rfl, rfl, _, rfl, ite_off rfl ?_⟩
          refine ⟨_, rfl, rfl, _, rfl, ite_off rfl ?_⟩
          refine ⟨_, rfl, rfl, _, rfl, ite_off rfl ?_⟩
          refine ⟨_, rfl, rfl, _, rfl, ite_off rfl ?_⟩
          refine ⟨_, rfl, rfl, _, rfl, ite_off rfl ?_⟩
          refine ⟨_, rfl, rfl, _, rfl, ite_off rfl ?_⟩
          refine ⟨_, rfl, rfl, _, rfl, ite_off rfl ?_⟩
          refine ⟨_, rfl, rfl, _, rfl, ite_off rfl ?_⟩
          refine ⟨_, rfl, _, rfl, _, d, rfl, rfl, fun H2 l s2 hl hl2 => ?_⟩
          exact k.of hw H2 l s2 hl hl2
        | greatest x =>
          refine ⟨_, rfl, rfl, _, rfl, ite_off rfl ?_⟩
          refine ⟨_, rfl, rfl, _, rfl, ite_off rfl ?_⟩
          refine ⟨_, rfl, rfl, _, rfl, ite_off rfl ?_⟩
          refine ⟨_, rfl, rfl, _, rfl, ite_off rfl ?_⟩
          refine ⟨_, rfl, rfl, _, rfl, ite_off rfl ?_⟩
          refine ⟨_, rfl, rfl, _, rfl, ite_off rfl ?_⟩
          refine ⟨_, rfl, rfl, _, rfl, ite_off rfl ?_⟩
          refine ⟨_, rfl, rfl, _, rfl, ite_off rfl ?_⟩
          refine ⟨_, rfl, rfl, _, rfl, ite_off rfl ?_⟩
          refine ⟨_, rfl, rfl, _, rfl, ite_off rfl ?_⟩
          refine ⟨_, rfl, _, rfl, _, d, rfl, rfl, fun H2 l s2 hl hl2 => ?_⟩
          exact k.of hw H2 l s2 hl hl2
        | minus x =>
          refine ⟨_, rfl, rfl, _, rfl, ite_off rfl ?_⟩
          refine ⟨_, rfl, rfl, _, rfl, ite_off rfl ?_⟩
          refine ⟨_, rfl, rfl, _, rfl, ite_off rfl ?_⟩
          refine ⟨_, rfl, rfl, _, rfl, ite_off rfl ?_⟩
          refine ⟨_, rfl, rfl, _, rfl, ite_off rfl ?_⟩
          refine ⟨_, rfl, rfl, _, rfl, ite_off rfl ?_⟩
          refine ⟨_, rfl, rfl, _, rfl, ite_off rfl ?_⟩
          refine ⟨_, rfl, rfl, _, rfl, ite_off rfl ?_⟩
          refine ⟨_, rfl, rfl, _, rfl, ite_off rfl ?_⟩
          refine ⟨_, rfl, rfl, _, rfl, ite_off rfl ?_⟩
          refine ⟨_, rfl, _, rfl, _, d, rfl, rfl, fun H2 l s2 hl hl2 => ?_⟩
          exact k.of hw H2 l s2 hl hl2
end
end Rw
end
section
set_option Elab.async false
set_option linter.all false
set_option maxRecDepth 100000
set_option maxHeartbeats 4000000
namespace Rw
open PySem PySem.Spec PyProof.Rows L2
open PySem.W (Codec)
theorem all_mk {P : Program} {w : World} {K : PySem.W.Frag} {h : Heap} {mg : Str → Option Value} {fa : Addr} (X : K.In h) (G : h.Ns mainGlobals mg) (hfa : mg "answers" = some (.ref fa))
    {C : Addr}
    {W : Addr}
    {fTri : Addr} {odTri anTri : Option Addr} {slTri : Array (Option Value)} {ocTri kVTri dcTri pmTri cdTri ctTri : Value}
    {fSq : Addr} {odSq anSq : Option Addr} {slSq : Array (Option Value)} {ocSq kVSq dcSq pmSq cdSq ctSq : Value}
    {fBnd : Addr} {odBnd anBnd : Option Addr} {slBnd : Array (Option Value)} {ocBnd kVBnd dcBnd pmBnd cdBnd ctBnd : Value}
    {fTold : Addr} {odTold anTold : Option Addr} {slTold : Array (Option Value)} {ocTold kVTold dcTold pmTold cdTold ctTold : Value}
    {fNear : Addr} {odNear anNear : Option Addr} {slNear : Array (Option Value)} {ocNear kVNear dcNear pmNear cdNear ctNear : Value}
    {fFirst : Addr} {odFirst anFirst : Option Addr} {slFirst : Array (Option Value)} {ocFirst kVFirst dcFirst pmFirst cdFirst ctFirst : Value}
    {fFit : Addr} {odFit anFit : Option Addr} {slFit : Array (Option Value)} {ocFit kVFit dcFit pmFit cdFit ctFit : Value}
    {fTaken : Addr} {odTaken anTaken : Option Addr} {slTaken : Array (Option Value)} {ocTaken kVTaken dcTaken pmTaken cdTaken ctTaken : Value}
    {fNext : Addr} {odNext anNext : Option Addr} {slNext : Array (Option Value)} {ocNext kVNext dcNext pmNext cdNext ctNext : Value}
    {fAfter : Addr} {odAfter anAfter : Option Addr} {slAfter : Array (Option Value)} {ocAfter kVAfter dcAfter pmAfter cdAfter ctAfter : Value}
    {fWay : Addr} {odWay anWay : Option Addr} {slWay : Array (Option Value)} {ocWay kVWay dcWay pmWay cdWay ctWay : Value}
    {fTellT : Addr} {odTellT anTellT : Option Addr} {slTellT : Array (Option Value)} {ocTellT kVTellT dcTellT pmTellT cdTellT ctTellT : Value}
    {fPairs : Addr} {odPairs anPairs : Option Addr} {slPairs : Array (Option Value)} {ocPairs kVPairs dcPairs pmPairs cdPairs ctPairs : Value}
    {fDiffs : Addr} {odDiffs anDiffs : Option Addr} {slDiffs : Array (Option Value)} {ocDiffs kVDiffs dcDiffs pmDiffs cdDiffs ctDiffs : Value}
    {fLeast : Addr} {odLeast anLeast : Option Addr} {slLeast : Array (Option Value)} {ocLeast kVLeast dcLeast pmLeast cdLeast ctLeast : Value}
    {fFD : Addr} {odFD anFD : Option Addr} {slFD : Array (Option Value)} {ocFD kVFD dcFD pmFD cdFD ctFD : Value}
    {fLong : Addr} {odLong anLong : Option Addr} {slLong : Array (Option Value)} {ocLong kVLong dcLong pmLong cdLong ctLong : Value}
    {fMinus : Addr} {odMinus anMinus : Option Addr} {slMinus : Array (Option Value)} {ocMinus kVMinus dcMinus pmMinus cdMinus ctMinus : Value}
    {fEv : Addr} {odEv anEv : Option Addr} {slEv : Array (Option Value)} {ocEv kVEv dcEv pmEv cdEv ctEv : Value}
    {fRow : Addr} {odRow anRow : Option Addr} {slRow : Array (Option Value)} {ocRow kVRow dcRow pmRow cdRow ctRow : Value}
    {fLgst : Addr} {odLgst anLgst : Option Addr} {slLgst : Array (Option Value)} {ocLgst kVLgst dcLgst pmLgst cdLgst ctLgst : Value}
    {fGrst : Addr} {odGrst anGrst : Option Addr} {slGrst : Array (Option Value)} {ocGrst kVGrst dcGrst pmGrst cdGrst ctGrst : Value}
    {fApart : Addr} {odApart anApart : Option Addr} {slApart : Array (Option Value)} {ocApart kVApart dcApart pmApart cdApart ctApart : Value}
    {fInit : Addr} {odInit anInit : Option Addr} {slInit : Array (Option Value)} {ocInit kVInit dcInit pmInit cdInit ctInit : Value}
    {fBegin : Addr} {odBegin anBegin : Option Addr} {slBegin : Array (Option Value)} {ocBegin kVBegin dcBegin pmBegin cdBegin ctBegin : Value}
    {fGo : Addr} {odGo anGo : Option Addr} {slGo : Array (Option Value)} {ocGo kVGo dcGo pmGo cdGo ctGo : Value}
    {fStep : Addr} {odStep anStep : Option Addr} {slStep : Array (Option Value)} {ocStep kVStep dcStep pmStep cdStep ctStep : Value}
    {fSteps : Addr} {odSteps anSteps : Option Addr} {slSteps : Array (Option Value)} {ocSteps kVSteps dcSteps pmSteps cdSteps ctSteps : Value}
    {fTk : Addr} {odTk anTk : Option Addr} {slTk : Array (Option Value)} {ocTk kVTk dcTk pmTk cdTk ctTk : Value}
    {fFits : Addr} {odFits anFits : Option Addr} {slFits : Array (Option Value)} {ocFits kVFits dcFits pmFits cdFits ctFits : Value}
    {fShort : Addr} {odShort anShort : Option Addr} {slShort : Array (Option Value)} {ocShort kVShort dcShort pmShort cdShort ctShort : Value}
    {fAgain : Addr} {odAgain anAgain : Option Addr} {slAgain : Array (Option Value)} {ocAgain kVAgain dcAgain pmAgain cdAgain ctAgain : Value}
    {fDone : Addr} {odDone anDone : Option Addr} {slDone : Array (Option Value)} {ocDone kVDone dcDone pmDone cdDone ctDone : Value}
    {fTt : Addr} {odTt anTt : Option Addr} {slTt : Array (Option Value)} {ocTt kVTt dcTt pmTt cdTt ctTt : Value}
    {fAnswer : Addr} {odAnswer anAnswer : Option Addr} {slAnswer : Array (Option Value)} {ocAnswer kVAnswer dcAnswer pmAnswer cdAnswer ctAnswer : Value}
    {fAns : Addr} {odAns anAns : Option Addr} {slAns : Array (Option Value)} {ocAns kVAns dcAns pmAns cdAns ctAns : Value}
    {t_BEGIN : Tok}
    {t_STEP : Tok}
    {t_STEPS : Tok}
    {t_TAKEN : Tok}
    {t_FITS : Tok}
    {t_ALL : Tok}
    {t_DIFFS : Tok}
    {t_LEAST : Tok}
    {t_LONG : Tok}
    {t_SHORT : Tok}
    {t_LONGEST : Tok}
    {t_GREATEST : Tok}
    {t_MINUS : Tok}
    {t_AGAIN : Tok}
    {t_DONE : Tok}
    {t_TOLD : Tok}
    {t_NO_MINUS_ONE : Tok}
    {t_NOT_BEGUN : Tok}
    {t_AT_THE_END : Tok}
    {t_NOT_AS_TOLD : Tok}
    {t_LEAST_N : Tok}
    {t_GREATEST_N : Tok}
    {t_MOST_STEPS : Tok}
    {t_GREATEST_M : Tok}
    {tpA : Addr} {odTA : Option Addr} {nTA : Nat} {slTA : Array (Option Value)} {uA0 uA1 uA2 uA3 uA4 uA5 uA6 uA7 : Tok}
    {tpS : Addr} {odTS : Option Addr} {nTS : Nat} {slTS : Array (Option Value)} {uS0 uS1 uS2 uS3 uS4 uS5 : Tok}
    (aC : PySem.W.nsIn K mainGlobals "Triple" = some (some (.ref C)))
    (aW : PySem.W.nsIn K mainGlobals "Walk" = some (some (.ref W)))
    (aTri : PySem.W.findIn K (.ref C) "__init__" = some (some (.ref fTri)))
    (iTri : PySem.W.isFn K (.ref fTri) = true)
    (lTri : K.lookup fTri = some ⟨ocTri, odTri, .func (PySem.W.fnOf "__init__" "Triple.__init__" (defArgs sTri) (defBody sTri) (defScope sTri) .none kVTri dcTri pmTri anTri cdTri ctTri), slTri⟩)
    (cTri : PySem.W.codeIn K cdTri "Triple.__init__" = true)
    (kTri : PySem.W.keepIn K (.ref fTri) = true)
    (aSq : PySem.W.nsIn K mainGlobals "is_square" = some (some (.ref fSq)))
    (lSq : K.lookup fSq = some ⟨ocSq, odSq, .func (PySem.W.fnOf "is_square" "is_square" (defArgs sSq) (defBody sSq) (defScope sSq) .none kVSq dcSq pmSq anSq cdSq ctSq), slSq⟩)
    (cSq : PySem.W.codeIn K cdSq "is_square" = true)
    (kSq : PySem.W.keepIn K (.ref fSq) = true)
    (aBnd : PySem.W.nsIn K mainGlobals "is_in_bounds" = some (some (.ref fBnd)))
    (lBnd : K.lookup fBnd = some ⟨ocBnd, odBnd, .func (PySem.W.fnOf "is_in_bounds" "is_in_bounds" (defArgs sBnd) (defBody sBnd) (defScope sBnd) .none kVBnd dcBnd pmBnd anBnd cdBnd ctBnd), slBnd⟩)
    (cBnd : PySem.W.codeIn K cdBnd "is_in_bounds" = true)
    (kBnd : PySem.W.keepIn K (.ref fBnd) = true)
    (aTold : PySem.W.nsIn K mainGlobals "is_as_told" = some (some (.ref fTold)))
    (lTold : K.lookup fTold = some ⟨ocTold, odTold, .func (PySem.W.fnOf "is_as_told" "is_as_told" (defArgs sTold) (defBody sTold) (defScope sTold) .none kVTold dcTold pmTold anTold cdTold ctTold), slTold⟩)
    (cTold : PySem.W.codeIn K cdTold "is_as_told" = true)
    (kTold : PySem.W.keepIn K (.ref fTold) = true)
    (aNear : PySem.W.nsIn K mainGlobals "nearest_by_square" = some (some (.ref fNear)))
    (lNear : K.lookup fNear = some ⟨ocNear, odNear, .func (PySem.W.fnOf "nearest_by_square" "nearest_by_square" (defArgs sNear) (defBody sNear) (defScope sNear) .none kVNear dcNear pmNear anNear cdNear ctNear), slNear⟩)
    (cNear : PySem.W.codeIn K cdNear "nearest_by_square" = true)
    (kNear : PySem.W.keepIn K (.ref fNear) = true)
    (aFirst : PySem.W.nsIn K mainGlobals "first_triple" = some (some (.ref fFirst)))
    (lFirst : K.lookup fFirst = some ⟨ocFirst, odFirst, .func (PySem.W.fnOf "first_triple" "first_triple" (defArgs sFirst) (defBody sFirst) (defScope sFirst) .none kVFirst dcFirst pmFirst anFirst cdFirst ctFirst), slFirst⟩)
    (cFirst : PySem.W.codeIn K cdFirst "first_triple" = true)
    (kFirst : PySem.W.keepIn K (.ref fFirst) = true)
    (aFit : PySem.W.nsIn K mainGlobals "is_fitting" = some (some (.ref fFit)))
    (lFit : K.lookup fFit = some ⟨ocFit, odFit, .func (PySem.W.fnOf "is_fitting" "is_fitting" (defArgs sFit) (defBody sFit) (defScope sFit) .none kVFit dcFit pmFit anFit cdFit ctFit), slFit⟩)
    (cFit : PySem.W.codeIn K cdFit "is_fitting" = true)
    (kFit : PySem.W.keepIn K (.ref fFit) = true)
    (aTaken : PySem.W.nsIn K mainGlobals "number_taken" = some (some (.ref fTaken)))
    (lTaken : K.lookup fTaken = some ⟨ocTaken, odTaken, .func (PySem.W.fnOf "number_taken" "number_taken" (defArgs sTaken) (defBody sTaken) (defScope sTaken) .none kVTaken dcTaken pmTaken anTaken cdTaken ctTaken), slTaken⟩)
    (cTaken : PySem.W.codeIn K cdTaken "number_taken" = true)
    (kTaken : PySem.W.keepIn K (.ref fTaken) = true)
    (aNext : PySem.W.nsIn K mainGlobals "next_triple" = some (some (.ref fNext)))
    (lNext : K.lookup fNext = some ⟨ocNext, odNext, .func (PySem.W.fnOf "next_triple" "next_triple" (defArgs sNext) (defBody sNext) (defScope sNext) .none kVNext dcNext pmNext anNext cdNext ctNext), slNext⟩)
    (cNext : PySem.W.codeIn K cdNext "next_triple" = true)
    (kNext : PySem.W.keepIn K (.ref fNext) = true)
    (aAfter : PySem.W.nsIn K mainGlobals "triple_after" = some (some (.ref fAfter)))
    (lAfter : K.lookup fAfter = some ⟨ocAfter, odAfter, .func (PySem.W.fnOf "triple_after" "triple_after" (defArgs sAfter) (defBody sAfter) (defScope sAfter) .none kVAfter dcAfter pmAfter anAfter cdAfter ctAfter), slAfter⟩)
    (cAfter : PySem.W.codeIn K cdAfter "triple_after" = true)
    (kAfter : PySem.W.keepIn K (.ref fAfter) = true)
    (aWay : PySem.W.nsIn K mainGlobals "way_of" = some (some (.ref fWay)))
    (lWay : K.lookup fWay = some ⟨ocWay, odWay, .func (PySem.W.fnOf "way_of" "way_of" (defArgs sWay) (defBody sWay) (defScope sWay) .none kVWay dcWay pmWay anWay cdWay ctWay), slWay⟩)
    (cWay : PySem.W.codeIn K cdWay "way_of" = true)
    (kWay : PySem.W.keepIn K (.ref fWay) = true)
    (aTellT : PySem.W.nsIn K mainGlobals "tell_triple" = some (some (.ref fTellT)))
    (lTellT : K.lookup fTellT = some ⟨ocTellT, odTellT, .func (PySem.W.fnOf "tell_triple" "tell_triple" (defArgs sTellT) (defBody sTellT) (defScope sTellT) .none kVTellT dcTellT pmTellT anTellT cdTellT ctTellT), slTellT⟩)
    (cTellT : PySem.W.codeIn K cdTellT "tell_triple" = true)
    (kTellT : PySem.W.keepIn K (.ref fTellT) = true)
    (aPairs : PySem.W.nsIn K mainGlobals "tell_pairs" = some (some (.ref fPairs)))
    (lPairs : K.lookup fPairs = some ⟨ocPairs, odPairs, .func (PySem.W.fnOf "tell_pairs" "tell_pairs" (defArgs sPairs) (defBody sPairs) (defScope sPairs) .none kVPairs dcPairs pmPairs anPairs cdPairs ctPairs), slPairs⟩)
    (cPairs : PySem.W.codeIn K cdPairs "tell_pairs" = true)
    (kPairs : PySem.W.keepIn K (.ref fPairs) = true)
    (aDiffs : PySem.W.nsIn K mainGlobals "tell_differences" = some (some (.ref fDiffs)))
    (lDiffs : K.lookup fDiffs = some ⟨ocDiffs, odDiffs, .func (PySem.W.fnOf "tell_differences" "tell_differences" (defArgs sDiffs) (defBody sDiffs) (defScope sDiffs) .none kVDiffs dcDiffs pmDiffs anDiffs cdDiffs ctDiffs), slDiffs⟩)
    (cDiffs : PySem.W.codeIn K cdDiffs "tell_differences" = true)
    (kDiffs : PySem.W.keepIn K (.ref fDiffs) = true)
    (aLeast : PySem.W.nsIn K mainGlobals "tell_least" = some (some (.ref fLeast)))
    (lLeast : K.lookup fLeast = some ⟨ocLeast, odLeast, .func (PySem.W.fnOf "tell_least" "tell_least" (defArgs sLeast) (defBody sLeast) (defScope sLeast) .none kVLeast dcLeast pmLeast anLeast cdLeast ctLeast), slLeast⟩)
    (cLeast : PySem.W.codeIn K cdLeast "tell_least" = true)
    (kLeast : PySem.W.keepIn K (.ref fLeast) = true)
    (aFD : PySem.W.nsIn K mainGlobals "first_of_differences" = some (some (.ref fFD)))
    (lFD : K.lookup fFD = some ⟨ocFD, odFD, .func (PySem.W.fnOf "first_of_differences" "first_of_differences" (defArgs sFD) (defBody sFD) (defScope sFD) .none kVFD dcFD pmFD anFD cdFD ctFD), slFD⟩)
    (cFD : PySem.W.codeIn K cdFD "first_of_differences" = true)
    (kFD : PySem.W.keepIn K (.ref fFD) = true)
    (aLong : PySem.W.nsIn K mainGlobals "tell_long" = some (some (.ref fLong)))
    (lLong : K.lookup fLong = some ⟨ocLong, odLong, .func (PySem.W.fnOf "tell_long" "tell_long" (defArgs sLong) (defBody sLong) (defScope sLong) .none kVLong dcLong pmLong anLong cdLong ctLong), slLong⟩)
    (cLong : PySem.W.codeIn K cdLong "tell_long" = true)
    (kLong : PySem.W.keepIn K (.ref fLong) = true)
    (aMinus : PySem.W.nsIn K mainGlobals "tell_minus" = some (some (.ref fMinus)))
    (lMinus : K.lookup fMinus = some ⟨ocMinus, odMinus, .func (PySem.W.fnOf "tell_minus" "tell_minus" (defArgs sMinus) (defBody sMinus) (defScope sMinus) .none kVMinus dcMinus pmMinus anMinus cdMinus ctMinus), slMinus⟩)
    (cMinus : PySem.W.codeIn K cdMinus "tell_minus" = true)
    (kMinus : PySem.W.keepIn K (.ref fMinus) = true)
    (aEv : PySem.W.nsIn K mainGlobals "every_n_up_to" = some (some (.ref fEv)))
    (lEv : K.lookup fEv = some ⟨ocEv, odEv, .func (PySem.W.fnOf "every_n_up_to" "every_n_up_to" (defArgs sEv) (defBody sEv) (defScope sEv) .none kVEv dcEv pmEv anEv cdEv ctEv), slEv⟩)
    (cEv : PySem.W.codeIn K cdEv "every_n_up_to" = true)
    (kEv : PySem.W.keepIn K (.ref fEv) = true)
    (aRow : PySem.W.nsIn K mainGlobals "tell_greatest_row" = some (some (.ref fRow)))
    (lRow : K.lookup fRow = some ⟨ocRow, odRow, .func (PySem.W.fnOf "tell_greatest_row" "tell_greatest_row" (defArgs sRow) (defBody sRow) (defScope sRow) .none kVRow dcRow pmRow anRow cdRow ctRow), slRow⟩)
    (cRow : PySem.W.codeIn K cdRow "tell_greatest_row" = true)
    (kRow : PySem.W.keepIn K (.ref fRow) = true)
    (aLgst : PySem.W.nsIn K mainGlobals "tell_longest" = some (some (.ref fLgst)))
    (lLgst : K.lookup fLgst = some ⟨ocLgst, odLgst, .func (PySem.W.fnOf "tell_longest" "tell_longest" (defArgs sLgst) (defBody sLgst) (defScope sLgst) .none kVLgst dcLgst pmLgst anLgst cdLgst ctLgst), slLgst⟩)
    (cLgst : PySem.W.codeIn K cdLgst "tell_longest" = true)
    (kLgst : PySem.W.keepIn K (.ref fLgst) = true)
    (aGrst : PySem.W.nsIn K mainGlobals "tell_greatest" = some (some (.ref fGrst)))
    (lGrst : K.lookup fGrst = some ⟨ocGrst, odGrst, .func (PySem.W.fnOf "tell_greatest" "tell_greatest" (defArgs sGrst) (defBody sGrst) (defScope sGrst) .none kVGrst dcGrst pmGrst anGrst cdGrst ctGrst), slGrst⟩)
    (cGrst : PySem.W.codeIn K cdGrst "tell_greatest" = true)
    (kGrst : PySem.W.keepIn K (.ref fGrst) = true)
    (aApart : PySem.W.nsIn K mainGlobals "answer_apart" = some (some (.ref fApart)))
    (lApart : K.lookup fApart = some ⟨ocApart, odApart, .func (PySem.W.fnOf "answer_apart" "answer_apart" (defArgs sApart) (defBody sApart) (defScope sApart) .none kVApart dcApart pmApart anApart cdApart ctApart), slApart⟩)
    (cApart : PySem.W.codeIn K cdApart "answer_apart" = true)
    (kApart : PySem.W.keepIn K (.ref fApart) = true)
    (aInit : PySem.W.findIn K (.ref W) "__init__" = some (some (.ref fInit)))
    (iInit : PySem.W.isFn K (.ref fInit) = true)
    (lInit : K.lookup fInit = some ⟨ocInit, odInit, .func (PySem.W.fnOf "__init__" "Walk.__init__" (defArgs sInit) (defBody sInit) (defScope sInit) .none kVInit dcInit pmInit anInit cdInit ctInit), slInit⟩)
    (cInit : PySem.W.codeIn K cdInit "Walk.__init__" = true)
    (kInit : PySem.W.keepIn K (.ref fInit) = true)
    (aBegin : PySem.W.findIn K (.ref W) "begin" = some (some (.ref fBegin)))
    (iBegin : PySem.W.isFn K (.ref fBegin) = true)
    (lBegin : K.lookup fBegin = some ⟨ocBegin, odBegin, .func (PySem.W.fnOf "begin" "Walk.begin" (defArgs sBegin) (defBody sBegin) (defScope sBegin) .none kVBegin dcBegin pmBegin anBegin cdBegin ctBegin), slBegin⟩)
    (cBegin : PySem.W.codeIn K cdBegin "Walk.begin" = true)
    (kBegin : PySem.W.keepIn K (.ref fBegin) = true)
    (aGo : PySem.W.findIn K (.ref W) "go_to_first" = some (some (.ref fGo)))
    (iGo : PySem.W.isFn K (.ref fGo) = true)
    (lGo : K.lookup fGo = some ⟨ocGo, odGo, .func (PySem.W.fnOf "go_to_first" "Walk.go_to_first" (defArgs sGo) (defBody sGo) (defScope sGo) .none kVGo dcGo pmGo anGo cdGo ctGo), slGo⟩)
    (cGo : PySem.W.codeIn K cdGo "Walk.go_to_first" = true)
    (kGo : PySem.W.keepIn K (.ref fGo) = true)
    (aStep : PySem.W.findIn K (.ref W) "take_step" = some (some (.ref fStep)))
    (iStep : PySem.W.isFn K (.ref fStep) = true)
    (lStep : K.lookup fStep = some ⟨ocStep, odStep, .func (PySem.W.fnOf "take_step" "Walk.take_step" (defArgs sStep) (defBody sStep) (defScope sStep) .none kVStep dcStep pmStep anStep cdStep ctStep), slStep⟩)
    (cStep : PySem.W.codeIn K cdStep "Walk.take_step" = true)
    (kStep : PySem.W.keepIn K (.ref fStep) = true)
    (aSteps : PySem.W.findIn K (.ref W) "tell_steps" = some (some (.ref fSteps)))
    (iSteps : PySem.W.isFn K (.ref fSteps) = true)
    (lSteps : K.lookup fSteps = some ⟨ocSteps, odSteps, .func (PySem.W.fnOf "tell_steps" "Walk.tell_steps" (defArgs sSteps) (defBody sSteps) (defScope sSteps) .none kVSteps dcSteps pmSteps anSteps cdSteps ctSteps), slSteps⟩)
    (cSteps : PySem.W.codeIn K cdSteps "Walk.tell_steps" = true)
    (kSteps : PySem.W.keepIn K (.ref fSteps) = true)
    (aTk : PySem.W.findIn K (.ref W) "tell_taken" = some (some (.ref fTk)))
    (iTk : PySem.W.isFn K (.ref fTk) = true)
    (lTk : K.lookup fTk = some ⟨ocTk, odTk, .func (PySem.W.fnOf "tell_taken" "Walk.tell_taken" (defArgs sTk) (defBody sTk) (defScope sTk) .none kVTk dcTk pmTk anTk cdTk ctTk), slTk⟩)
    (cTk : PySem.W.codeIn K cdTk "Walk.tell_taken" = true)
    (kTk : PySem.W.keepIn K (.ref fTk) = true)
    (aFits : PySem.W.findIn K (.ref W) "tell_fits" = some (some (.ref fFits)))
    (iFits : PySem.W.isFn K (.ref fFits) = true)
    (lFits : K.lookup fFits = some ⟨ocFits, odFits, .func (PySem.W.fnOf "tell_fits" "Walk.tell_fits" (defArgs sFits) (defBody sFits) (defScope sFits) .none kVFits dcFits pmFits anFits cdFits ctFits), slFits⟩)
    (cFits : PySem.W.codeIn K cdFits "Walk.tell_fits" = true)
    (kFits : PySem.W.keepIn K (.ref fFits) = true)
    (aShort : PySem.W.findIn K (.ref W) "tell_short" = some (some (.ref fShort)))
    (iShort : PySem.W.isFn K (.ref fShort) = true)
    (lShort : K.lookup fShort = some ⟨ocShort, odShort, .func (PySem.W.fnOf "tell_short" "Walk.tell_short" (defArgs sShort) (defBody sShort) (defScope sShort) .none kVShort dcShort pmShort anShort cdShort ctShort), slShort⟩)
    (cShort : PySem.W.codeIn K cdShort "Walk.tell_short" = true)
    (kShort : PySem.W.keepIn K (.ref fShort) = true)
    (aAgain : PySem.W.findIn K (.ref W) "walk_again" = some (some (.ref fAgain)))
    (iAgain : PySem.W.isFn K (.ref fAgain) = true)
    (lAgain : K.lookup fAgain = some ⟨ocAgain, odAgain, .func (PySem.W.fnOf "walk_again" "Walk.walk_again" (defArgs sAgain) (defBody sAgain) (defScope sAgain) .none kVAgain dcAgain pmAgain anAgain cdAgain ctAgain), slAgain⟩)
    (cAgain : PySem.W.codeIn K cdAgain "Walk.walk_again" = true)
    (kAgain : PySem.W.keepIn K (.ref fAgain) = true)
    (aDone : PySem.W.findIn K (.ref W) "tell_done" = some (some (.ref fDone)))
    (iDone : PySem.W.isFn K (.ref fDone) = true)
    (lDone : K.lookup fDone = some ⟨ocDone, odDone, .func (PySem.W.fnOf "tell_done" "Walk.tell_done" (defArgs sDone) (defBody sDone) (defScope sDone) .none kVDone dcDone pmDone anDone cdDone ctDone), slDone⟩)
    (cDone : PySem.W.codeIn K cdDone "Walk.tell_done" = true)
    (kDone : PySem.W.keepIn K (.ref fDone) = true)
    (aTt : PySem.W.findIn K (.ref W) "tell_told" = some (some (.ref fTt)))
    (iTt : PySem.W.isFn K (.ref fTt) = true)
    (lTt : K.lookup fTt = some ⟨ocTt, odTt, .func (PySem.W.fnOf "tell_told" "Walk.tell_told" (defArgs sTt) (defBody sTt) (defScope sTt) .none kVTt dcTt pmTt anTt cdTt ctTt), slTt⟩)
    (cTt : PySem.W.codeIn K cdTt "Walk.tell_told" = true)
    (kTt : PySem.W.keepIn K (.ref fTt) = true)
    (aAnswer : PySem.W.findIn K (.ref W) "answer" = some (some (.ref fAnswer)))
    (iAnswer : PySem.W.isFn K (.ref fAnswer) = true)
    (lAnswer : K.lookup fAnswer = some ⟨ocAnswer, odAnswer, .func (PySem.W.fnOf "answer" "Walk.answer" (defArgs sAnswer) (defBody sAnswer) (defScope sAnswer) .none kVAnswer dcAnswer pmAnswer anAnswer cdAnswer ctAnswer), slAnswer⟩)
    (cAnswer : PySem.W.codeIn K cdAnswer "Walk.answer" = true)
    (kAnswer : PySem.W.keepIn K (.ref fAnswer) = true)
    (aAns : PySem.W.nsIn K mainGlobals "answers" = some (some (.ref fAns)))
    (lAns : K.lookup fAns = some ⟨ocAns, odAns, .func (PySem.W.fnOf "answers" "answers" (defArgs sAns) (defBody sAns) (defScope sAns) .none kVAns dcAns pmAns anAns cdAns ctAns), slAns⟩)
    (cAns : PySem.W.codeIn K cdAns "answers" = true)
    (kAns : PySem.W.keepIn K (.ref fAns) = true)
    (pgC : PySem.W.plainGet K C Str.empty = true)
    (hdC : PySem.W.hasDictIn K C = true)
    (poC : PySem.W.plainOver K C = true)
    (saC : PySem.W.findIn K (.ref C) "__setattr__" = some (some (.builtin "object.__setattr__")))
    (mkC : PySem.W.makesIn K C = true)
    (kcC : PySem.W.keepIn K (.ref C) = true)
    (pgW : PySem.W.plainGet K W Str.empty = true)
    (hdW : PySem.W.hasDictIn K W = true)
    (poW : PySem.W.plainOver K W = true)
    (saW : PySem.W.findIn K (.ref W) "__setattr__" = some (some (.builtin "object.__setattr__")))
    (mkW : PySem.W.makesIn K W = true)
    (kcW : PySem.W.keepIn K (.ref W) = true)
    (nC_a : PySem.W.findIn K (.ref C) "a" = some none)
    (nC_b : PySem.W.findIn K (.ref C) "b" = some none)
    (nC_k : PySem.W.findIn K (.ref C) "k" = some none)
    (nW_n : PySem.W.findIn K (.ref W) "n" = some none)
    (nW_triple : PySem.W.findIn K (.ref W) "triple" = some none)
    (nW_steps_done : PySem.W.findIn K (.ref W) "steps_done" = some none)
    (g_BEGIN : PySem.W.nsIn K mainGlobals "BEGIN" = some (some (.int (0) t_BEGIN)))
    (g_STEP : PySem.W.nsIn K mainGlobals "STEP" = some (some (.int (1) t_STEP)))
    (g_STEPS : PySem.W.nsIn K mainGlobals "STEPS" = some (some (.int (2) t_STEPS)))
    (g_TAKEN : PySem.W.nsIn K mainGlobals "TAKEN" = some (some (.int (3) t_TAKEN)))
    (g_FITS : PySem.W.nsIn K mainGlobals "FITS" = some (some (.int (4) t_FITS)))
    (g_ALL : PySem.W.nsIn K mainGlobals "ALL" = some (some (.int (5) t_ALL)))
    (g_DIFFS : PySem.W.nsIn K mainGlobals "DIFFS" = some (some (.int (6) t_DIFFS)))
    (g_LEAST : PySem.W.nsIn K mainGlobals "LEAST" = some (some (.int (7) t_LEAST)))
    (g_LONG : PySem.W.nsIn K mainGlobals "LONG" = some (some (.int (8) t_LONG)))
    (g_SHORT : PySem.W.nsIn K mainGlobals "SHORT" = some (some (.int (9) t_SHORT)))
    (g_LONGEST : PySem.W.nsIn K mainGlobals "LONGEST" = some (some (.int (10) t_LONGEST)))
    (g_GREATEST : PySem.W.nsIn K mainGlobals "GREATEST" = some (some (.int (11) t_GREATEST)))
    (g_MINUS : PySem.W.nsIn K mainGlobals "MINUS" = some (some (.int (12) t_MINUS)))
    (g_AGAIN : PySem.W.nsIn K mainGlobals "AGAIN" = some (some (.int (13) t_AGAIN)))
    (g_DONE : PySem.W.nsIn K mainGlobals "DONE" = some (some (.int (14) t_DONE)))
    (g_TOLD : PySem.W.nsIn K mainGlobals "TOLD" = some (some (.int (15) t_TOLD)))
    (g_NO_MINUS_ONE : PySem.W.nsIn K mainGlobals "NO_MINUS_ONE" = some (some (.int (-33) t_NO_MINUS_ONE)))
    (g_NOT_BEGUN : PySem.W.nsIn K mainGlobals "NOT_BEGUN" = some (some (.int (-11) t_NOT_BEGUN)))
    (g_AT_THE_END : PySem.W.nsIn K mainGlobals "AT_THE_END" = some (some (.int (-16) t_AT_THE_END)))
    (g_NOT_AS_TOLD : PySem.W.nsIn K mainGlobals "NOT_AS_TOLD" = some (some (.int (-22) t_NOT_AS_TOLD)))
    (g_LEAST_N : PySem.W.nsIn K mainGlobals "LEAST_N" = some (some (.int (2) t_LEAST_N)))
    (g_GREATEST_N : PySem.W.nsIn K mainGlobals "GREATEST_N" = some (some (.int (60) t_GREATEST_N)))
    (g_MOST_STEPS : PySem.W.nsIn K mainGlobals "MOST_STEPS" = some (some (.int (60) t_MOST_STEPS)))
    (g_GREATEST_M : PySem.W.nsIn K mainGlobals "GREATEST_M" = some (some (.int (1000) t_GREATEST_M)))
    (z_abs : PySem.W.nsIn K mainGlobals "abs" = some none)
    (z_len : PySem.W.nsIn K mainGlobals "len" = some none)
    (z_range : PySem.W.nsIn K mainGlobals "range" = some none)
    (z_list : PySem.W.nsIn K mainGlobals "list" = some none)
    (aTupA : PySem.W.nsIn K mainGlobals "CALLS_WITH_ARGUMENT" = some (some (.ref tpA)))
    (lTupA : K.lookup tpA = some ⟨.type "tuple", odTA, .seq #[.int (0) uA0, .int (2) uA1, .int (4) uA2, .int (7) uA3, .int (8) uA4, .int (10) uA5, .int (11) uA6, .int (12) uA7] nTA, slTA⟩)
    (aTupS : PySem.W.nsIn K mainGlobals "SHORT_DIFFERENCES" = some (some (.ref tpS)))
    (lTupS : K.lookup tpS = some ⟨.type "tuple", odTS, .seq #[.int (1) uS0, .int (-1) uS1, .int (2) uS2, .int (-2) uS3, .int (4) uS4, .int (-4) uS5] nTS, slTS⟩) :
    ∃ fd : FuncData, (∀ (s : Shared) (us : List Value), us.length = (["calls"] : List Str).length → BindsTo s fd ⟨us, []⟩ ((["calls"] : List Str).zip us)) ∧ ∀ base : Heap, K.In base → base.Ns mainGlobals mg → FnOk P w K mg base CX0 8 fa fd ["calls"] (spAns K) := by
  have e := hfa.symm.trans (PySem.W.mg_of X G aAns)
  cases e
  have FTri := fun_mk (st := sTri) lTri cTri kTri
  have bTri := FTri.binds (ps := ["self", "a", "b", "k"]) fun _ _ _ _ _ _ us hl => match us, hl with | [_, _, _, _], _ => rfl
  have FSq := fun_mk (st := sSq) lSq cSq kSq
  have bSq := FSq.binds (ps := ["number"]) fun _ _ _ _ _ _ us hl => match us, hl with | [_], _ => rfl
  have mSq := PySem.W.mg_of X G aSq
  have FBnd := fun_mk (st := sBnd) lBnd cBnd kBnd
  have bBnd := FBnd.binds (ps := ["number"]) fun _ _ _ _ _ _ us hl => match us, hl with | [_], _ => rfl
  have mBnd := PySem.W.mg_of X G aBnd
  have FTold := fun_mk (st := sTold) lTold cTold kTold
  have bTold := FTold.binds (ps := ["n"]) fun _ _ _ _ _ _ us hl => match us, hl with | [_], _ => rfl
  have mTold := PySem.W.mg_of X G aTold
  have FNear := fun_mk (st := sNear) lNear cNear kNear
  have bNear := FNear.binds (ps := ["numbers", "n"]) fun _ _ _ _ _ _ us hl => match us, hl with | [_, _], _ => rfl
  have mNear := PySem.W.mg_of X G aNear
  have FFirst := fun_mk (st := sFirst) lFirst cFirst kFirst
  have bFirst := FFirst.binds (ps := ["n"]) fun _ _ _ _ _ _ us hl => match us, hl with | [_], _ => rfl
  have mFirst := PySem.W.mg_of X G aFirst
  have FFit := fun_mk (st := sFit) lFit cFit kFit
  have bFit := FFit.binds (ps := ["triple", "m"]) fun _ _ _ _ _ _ us hl => match us, hl with | [_, _], _ => rfl
  have mFit := PySem.W.mg_of X G aFit
  have FTaken := fun_mk (st := sTaken) lTaken cTaken kTaken
  have bTaken := FTaken.binds (ps := ["triple", "n"]) fun _ _ _ _ _ _ us hl => match us, hl with | [_, _], _ => rfl
  have mTaken := PySem.W.mg_of X G aTaken
  have FNext := fun_mk (st := sNext) lNext cNext kNext
  have bNext := FNext.binds (ps := ["triple", "n"]) fun _ _ _ _ _ _ us hl => match us, hl with | [_, _], _ => rfl
  have mNext := PySem.W.mg_of X G aNext
  have FAfter := fun_mk (st := sAfter) lAfter cAfter kAfter
  have bAfter := FAfter.binds (ps := ["n", "j"]) fun _ _ _ _ _ _ us hl => match us, hl with | [_, _], _ => rfl
  have mAfter := PySem.W.mg_of X G aAfter
  have FWay := fun_mk (st := sWay) lWay cWay kWay
  have bWay := FWay.binds (ps := ["n"]) fun _ _ _ _ _ _ us hl => match us, hl with | [_], _ => rfl
  have mWay := PySem.W.mg_of X G aWay
  have FTellT := fun_mk (st := sTellT) lTellT cTellT kTellT
  have bTellT := FTellT.binds (ps := ["triple"]) fun _ _ _ _ _ _ us hl => match us, hl with | [_], _ => rfl
  have mTellT := PySem.W.mg_of X G aTellT
  have FPairs := fun_mk (st := sPairs) lPairs cPairs kPairs
  have bPairs := FPairs.binds (ps := ["way"]) fun _ _ _ _ _ _ us hl => match us, hl with | [_], _ => rfl
  have mPairs := PySem.W.mg_of X G aPairs
  have FDiffs := fun_mk (st := sDiffs) lDiffs cDiffs kDiffs
  have bDiffs := FDiffs.binds (ps := ["way"]) fun _ _ _ _ _ _ us hl => match us, hl with | [_], _ => rfl
  have mDiffs := PySem.W.mg_of X G aDiffs
  have FLeast := fun_mk (st := sLeast) lLeast cLeast kLeast
  have bLeast := FLeast.binds (ps := ["n"]) fun _ _ _ _ _ _ us hl => match us, hl with | [_], _ => rfl
  have mLeast := PySem.W.mg_of X G aLeast
  have FFD := fun_mk (st := sFD) lFD cFD kFD
  have bFD := FFD.binds (ps := ["way", "differences"]) fun _ _ _ _ _ _ us hl => match us, hl with | [_, _], _ => rfl
  have mFD := PySem.W.mg_of X G aFD
  have FLong := fun_mk (st := sLong) lLong cLong kLong
  have bLong := FLong.binds (ps := ["n"]) fun _ _ _ _ _ _ us hl => match us, hl with | [_], _ => rfl
  have mLong := PySem.W.mg_of X G aLong
  have FMinus := fun_mk (st := sMinus) lMinus cMinus kMinus
  have bMinus := FMinus.binds (ps := ["n"]) fun _ _ _ _ _ _ us hl => match us, hl with | [_], _ => rfl
  have mMinus := PySem.W.mg_of X G aMinus
  have FEv := fun_mk (st := sEv) lEv cEv kEv
  have bEv := FEv.binds (ps := ["b"]) fun _ _ _ _ _ _ us hl => match us, hl with | [_], _ => rfl
  have mEv := PySem.W.mg_of X G aEv
  have FRow := fun_mk (st := sRow) lRow cRow kRow
  have bRow := FRow.binds (ps := ["rows"]) fun _ _ _ _ _ _ us hl => match us, hl with | [_], _ => rfl
  have mRow := PySem.W.mg_of X G aRow
  have FLgst := fun_mk (st := sLgst) lLgst cLgst kLgst
  have bLgst := FLgst.binds (ps := ["b"]) fun _ _ _ _ _ _ us hl => match us, hl with | [_], _ => rfl
  have mLgst := PySem.W.mg_of X G aLgst
  have FGrst := fun_mk (st := sGrst) lGrst cGrst kGrst
  have bGrst := FGrst.binds (ps := ["b"]) fun _ _ _ _ _ _ us hl => match us, hl with | [_], _ => rfl
  have mGrst := PySem.W.mg_of X G aGrst
  have FApart := fun_mk (st := sApart) lApart cApart kApart
  have bApart := FApart.binds (ps := ["call", "argument"]) fun _ _ _ _ _ _ us hl => match us, hl with | [_, _], _ => rfl
  have mApart := PySem.W.mg_of X G aApart
  have FInit := fun_mk (st := sInit) lInit cInit kInit
  have bInit := FInit.binds (ps := ["self"]) fun _ _ _ _ _ _ us hl => match us, hl with | [_], _ => rfl
  have FBegin := fun_mk (st := sBegin) lBegin cBegin kBegin
  have bBegin := FBegin.binds (ps := ["self", "n"]) fun _ _ _ _ _ _ us hl => match us, hl with | [_, _], _ => rfl
  have mBegin : Meth K W "begin" fBegin := ⟨aBegin, iBegin, kBegin⟩
  have FGo := fun_mk (st := sGo) lGo cGo kGo
  have bGo := FGo.binds (ps := ["self"]) fun _ _ _ _ _ _ us hl => match us, hl with | [_], _ => rfl
  have mGo : Meth K W "go_to_first" fGo := ⟨aGo, iGo, kGo⟩
  have FStep := fun_mk (st := sStep) lStep cStep kStep
  have bStep := FStep.binds (ps := ["self"]) fun _ _ _ _ _ _ us hl => match us, hl with | [_], _ => rfl
  have mStep : Meth K W "take_step" fStep := ⟨aStep, iStep, kStep⟩
  have FSteps := fun_mk (st := sSteps) lSteps cSteps kSteps
  have bSteps := FSteps.binds (ps := ["self", "j"]) fun _ _ _ _ _ _ us hl => match us, hl with | [_, _], _ => rfl
  have mSteps : Meth K W "tell_steps" fSteps := ⟨aSteps, iSteps, kSteps⟩
  have FTk := fun_mk (st := sTk) lTk cTk kTk
  have bTk := FTk.binds (ps := ["self"]) fun _ _ _ _ _ _ us hl => match us, hl with | [_], _ => rfl
  have mTk : Meth K W "tell_taken" fTk := ⟨aTk, iTk, kTk⟩
  have FFits := fun_mk (st := sFits) lFits cFits kFits
  have bFits := FFits.binds (ps := ["self", "m"]) fun _ _ _ _ _ _ us hl => match us, hl with | [_, _], _ => rfl
  have mFits : Meth K W "tell_fits" fFits := ⟨aFits, iFits, kFits⟩
  have FShort := fun_mk (st := sShort) lShort cShort kShort
  have bShort := FShort.binds (ps := ["self"]) fun _ _ _ _ _ _ us hl => match us, hl with | [_], _ => rfl
  have mShort : Meth K W "tell_short" fShort := ⟨aShort, iShort, kShort⟩
  have FAgain := fun_mk (st := sAgain) lAgain cAgain kAgain
  have bAgain := FAgain.binds (ps := ["self"]) fun _ _ _ _ _ _ us hl => match us, hl with | [_], _ => rfl
  have mAgain : Meth K W "walk_again" fAgain := ⟨aAgain, iAgain, kAgain⟩
  have FDone := fun_mk (st := sDone) lDone cDone kDone
  have bDone := FDone.binds (ps := ["self"]) fun _ _ _ _ _ _ us hl => match us, hl with | [_], _ => rfl
  have mDone : Meth K W "tell_done" fDone := ⟨aDone, iDone, kDone⟩
  have FTt := fun_mk (st := sTt) lTt cTt kTt
  have bTt := FTt.binds (ps := ["self"]) fun _ _ _ _ _ _ us hl => match us, hl with | [_], _ => rfl
  have mTt : Meth K W "tell_told" fTt := ⟨aTt, iTt, kTt⟩
  have FAnswer := fun_mk (st := sAnswer) lAnswer cAnswer kAnswer
  have bAnswer := FAnswer.binds (ps := ["self", "call", "argument"]) fun _ _ _ _ _ _ us hl => match us, hl with | [_, _, _], _ => rfl
  have mAnswer : Meth K W "answer" fAnswer := ⟨aAnswer, iAnswer, kAnswer⟩
  have FAns := fun_mk (st := sAns) lAns cAns kAns
  have bAns := FAns.binds (ps := ["calls"]) fun _ _ _ _ _ _ us hl => match us, hl with | [_], _ => rfl
  have mAns := PySem.W.mg_of X G aAns
  have clsC : Cls K C := ⟨pgC, hdC, poC, saC⟩
  have mgC := PySem.W.mg_of X G aC
  have clsW : Cls K W := ⟨pgW, hdW, poW, saW⟩
  have mgW := PySem.W.mg_of X G aW
  have h_BEGIN := PySem.W.mg_of X G g_BEGIN
  have h_STEP := PySem.W.mg_of X G g_STEP
  have h_STEPS := PySem.W.mg_of X G g_STEPS
  have h_TAKEN := PySem.W.mg_of X G g_TAKEN
  have h_FITS := PySem.W.mg_of X G g_FITS
  have h_ALL := PySem.W.mg_of X G g_ALL
  have h_DIFFS := PySem.W.mg_of X G g_DIFFS
  have h_LEAST := PySem.W.mg_of X G g_LEAST
  have h_LONG := PySem.W.mg_of X G g_LONG
  have h_SHORT := PySem.W.mg_of X G g_SHORT
  have h_LONGEST := PySem.W.mg_of X G g_LONGEST
  have h_GREATEST := PySem.W.mg_of X G g_GREATEST
  have h_MINUS := PySem.W.mg_of X G g_MINUS
  have h_AGAIN := PySem.W.mg_of X G g_AGAIN
  have h_DONE := PySem.W.mg_of X G g_DONE
  have h_TOLD := PySem.W.mg_of X G g_TOLD
  have h_NO_MINUS_ONE := PySem.W.mg_of X G g_NO_MINUS_ONE
  have h_NOT_BEGUN := PySem.W.mg_of X G g_NOT_BEGUN
  have h_AT_THE_END := PySem.W.mg_of X G g_AT_THE_END
  have h_NOT_AS_TOLD := PySem.W.mg_of X G g_NOT_AS_TOLD
  have h_LEAST_N := PySem.W.mg_of X G g_LEAST_N
  have h_GREATEST_N := PySem.W.mg_of X G g_GREATEST_N
  have h_MOST_STEPS := PySem.W.mg_of X G g_MOST_STEPS
  have h_GREATEST_M := PySem.W.mg_of X G g_GREATEST_M
  have y_abs := PySem.W.mg_none_of X G z_abs
  have y_len := PySem.W.mg_none_of X G z_len
  have y_range := PySem.W.mg_none_of X G z_range
  have y_list := PySem.W.mg_none_of X G z_list
  have mgTupA := PySem.W.mg_of X G aTupA
  have sqTupA : ∀ H : Hp, SqT K H tpA (([0, 2, 4, 7, 8, 10, 11, 12] : List Int).map V.int) := fun H => .inr ⟨_, _, _, lTupA, rfl, rfl, (by show 8 ≤ sizeLine; decide), .cons ⟨_, rfl⟩ (.cons ⟨_, rfl⟩ (.cons ⟨_, rfl⟩ (.cons ⟨_, rfl⟩ (.cons ⟨_, rfl⟩ (.cons ⟨_, rfl⟩ (.cons ⟨_, rfl⟩ (.cons ⟨_, rfl⟩ (.nil))))))))⟩
  have mgTupS := PySem.W.mg_of X G aTupS
  have sqTupS : ∀ H : Hp, SqT K H tpS (([1, -1, 2, -2, 4, -4] : List Int).map V.int) := fun H => .inr ⟨_, _, _, lTupS, rfl, rfl, (by show 6 ≤ sizeLine; decide), .cons ⟨_, rfl⟩ (.cons ⟨_, rfl⟩ (.cons ⟨_, rfl⟩ (.cons ⟨_, rfl⟩ (.cons ⟨_, rfl⟩ (.cons ⟨_, rfl⟩ (.nil))))))⟩
  have T : Txt K mg C := ⟨clsC, nC_a, nC_b, nC_k, mgC, y_abs, y_len, y_range, y_list, ⟨_, h_LEAST_N⟩, ⟨_, h_GREATEST_N⟩, ⟨_, h_NOT_AS_TOLD⟩⟩
  have TW : TxtW K mg W := ⟨clsW, nW_n, nW_triple, nW_steps_done, mgW, ⟨_, h_NOT_BEGUN⟩, ⟨_, h_AT_THE_END⟩, ⟨_, h_MOST_STEPS⟩, ⟨_, h_GREATEST_M⟩⟩
  have TA : TxtA K mg tpA := ⟨mgTupA, sqTupA⟩
  have TS : TxtS K mg tpS := ⟨mgTupS, sqTupS⟩
  have TC : TxtC mg := ⟨⟨_, h_BEGIN⟩, ⟨_, h_STEP⟩, ⟨_, h_STEPS⟩, ⟨_, h_TAKEN⟩, ⟨_, h_FITS⟩, ⟨_, h_ALL⟩, ⟨_, h_DIFFS⟩, ⟨_, h_LEAST⟩, ⟨_, h_LONG⟩, ⟨_, h_SHORT⟩, ⟨_, h_LONGEST⟩, ⟨_, h_GREATEST⟩, ⟨_, h_MINUS⟩, ⟨_, h_AGAIN⟩, ⟨_, h_DONE⟩, ⟨_, h_TOLD⟩⟩
  have MC : Mk K C fTri := ⟨mkC, aTri, iTri, kcC⟩
  have MW : Mk K W fInit := ⟨mkW, aInit, iInit, kcW⟩
  refine ⟨PySem.W.fnOf "answers" "answers" (defArgs sAns) (defBody sAns) (defScope sAns) .none kVAns dcAns pmAns anAns cdAns ctAns, fun s us hu => match us, hu with | [_], _ => .of_eq rfl, fun base _ _ => ?_⟩
  have GTold := ok_told (P := P) (w := w) (base := base) FTold T FBnd bBnd mBnd FSq bSq mSq
  have GFirst := ok_first (P := P) (w := w) (base := base) FFirst T MC FTri bTri FNear bNear mNear
  have GFit := ok_fit (P := P) (w := w) (base := base) FFit T
  have GTaken := ok_taken (P := P) (w := w) (base := base) FTaken T FFit bFit mFit FNear bNear mNear
  have GNext := ok_next (P := P) (w := w) (base := base) FNext T MC FTri bTri GTaken FTaken bTaken mTaken
  have GAfter := ok_after FAfter T GFirst FFirst bFirst mFirst GNext FNext bNext mNext
  have GWay := ok_way FWay T GFirst FFirst bFirst mFirst GNext FNext bNext mNext
  have GTellT := ok_tellT (P := P) (w := w) (base := base) FTellT T
  have GPairs := ok_pairs (P := P) (w := w) (base := base) FPairs T
  have GDiffs := ok_diffs (P := P) (w := w) (base := base) FDiffs T
  have GLeast := ok_least FLeast T GTold FTold bTold mTold GWay FWay bWay mWay
  have GFD := ok_FD (P := P) (w := w) (base := base) FFD T
  have GLong := ok_long FLong T GTold FTold bTold mTold GWay FWay bWay mWay
  have GMinus := ok_minus FMinus T ⟨_, h_NO_MINUS_ONE⟩ GTold FTold bTold mTold GWay FWay bWay mWay GFD FFD bFD mFD
  have GEv := ok_ev FEv T GTold FTold bTold mTold
  have GRow := ok_row (P := P) (w := w) (mg := mg) (base := base) FRow
  have GLgst := ok_lgst FLgst T FBnd bBnd mBnd GEv FEv bEv mEv GRow FRow bRow mRow GWay FWay bWay mWay
  have GGrst := ok_grst FGrst T FBnd bBnd mBnd GEv FEv bEv mEv GRow FRow bRow mRow GWay FWay bWay mWay
  have GApart := ok_apart FApart TC GLeast FLeast bLeast mLeast GLong FLong bLong mLong GLgst FLgst bLgst mLgst GGrst FGrst bGrst mGrst GMinus FMinus bMinus mMinus
  have GGo := ok_go FGo T TW GFirst FFirst bFirst mFirst
  have GBegin := ok_begin FBegin T TW GTold FTold bTold mTold GGo bGo mGo
  have GStep := ok_step FStep T TW GNext FNext bNext mNext GTellT FTellT bTellT mTellT
  have GSteps := ok_steps FSteps T TW GAfter FAfter bAfter mAfter GTellT FTellT bTellT mTellT
  have GTk := ok_tk FTk T TW GTaken FTaken bTaken mTaken
  have GFits := ok_fits FFits T TW GFit FFit bFit mFit
  have GShort := ok_short FShort T TW TS GWay FWay bWay mWay GFD FFD bFD mFD GTellT FTellT bTellT mTellT
  have GAgain := ok_again FAgain T TW GGo bGo mGo GTellT FTellT bTellT mTellT
  have GDone := ok_done (P := P) (w := w) (base := base) FDone T TW
  have GTt := ok_tt (P := P) (w := w) (base := base) FTt T TW
  have GAnswer := ok_answer FAnswer T TW TC GBegin bBegin mBegin GStep bStep mStep GSteps bSteps mSteps GTk bTk mTk GFits bFits mFits GWay FWay bWay mWay GPairs FPairs bPairs mPairs GDiffs FDiffs bDiffs mDiffs GShort bShort mShort GAgain bAgain mAgain GDone bDone mDone GTt bTt mTt GApart FApart bApart mApart
  exact ok_ans FAns T TW TA MW FInit bInit GAnswer bAnswer mAnswer
end Rw
open PySem PySem.W PyProof.Rows
set_option maxRecDepth 100000 in
set_option maxHeartbeats 0 in
theorem PySem.Challenge.cw_roundway_s01_answers_holds : PySem.Challenge.rw_roundway_s01_answers.Holds := by
  w_on; k_headS; (case hw => exact ⟨[.list [.int 1]], by decide +kernel, by decide +kernel⟩)
  k_fillS
  refine L2.walk_specK (r := PySem.Challenge.rw_roundway_s01_answers) (k := 8) (CX := L2.CX0) (ps := ["calls"]) (sp := Rw.spAns) (by decide +kernel) rfl rfl ⟨rfl, by decide, by decide⟩ (fun w h Y => PySem.W.kIn_of Y) ?F ?S (fun _ _ _ _ z => z)
  case F =>
    intro w mg fa h Y KX G hmg
    refine' Rw.all_mk KX G hmg ?aC ?aW ?aTri ?iTri ?lTri ?cTri ?kTri ?aSq ?lSq ?cSq ?kSq ?aBnd ?lBnd ?cBnd ?kBnd ?aTold ?lTold ?cTold ?kTold ?aNear ?lNear ?cNear ?kNear ?aFirst ?lFirst ?cFirst ?kFirst ?aFit ?lFit ?cFit ?kFit ?aTaken ?lTaken ?cTaken ?kTaken ?aNext ?lNext ?cNext ?kNext ?aAfter ?lAfter ?cAfter ?kAfter ?aWay ?lWay ?cWay ?kWay ?aTellT ?lTellT ?cTellT ?kTellT ?aPairs ?lPairs ?cPairs ?kPairs ?aDiffs ?lDiffs ?cDiffs ?kDiffs ?aLeast ?lLeast ?cLeast ?kLeast ?aFD ?lFD ?cFD ?kFD ?aLong ?lLong ?cLong ?kLong ?aMinus ?lMinus ?cMinus ?kMinus ?aEv ?lEv ?cEv ?kEv ?aRow ?lRow ?cRow ?kRow ?aLgst ?lLgst ?cLgst ?kLgst ?aGrst ?lGrst ?cGrst ?kGrst ?aApart ?lApart ?cApart ?kApart ?aInit ?iInit ?lInit ?cInit ?kInit ?aBegin ?iBegin ?lBegin ?cBegin ?kBegin ?aGo ?iGo ?lGo ?cGo ?kGo ?aStep ?iStep ?lStep ?cStep ?kStep ?aSteps ?iSteps ?lSteps ?cSteps ?kSteps ?aTk ?iTk ?lTk ?cTk ?kTk ?aFits ?iFits ?lFits ?cFits ?kFits ?aShort ?iShort ?lShort ?cShort ?kShort ?aAgain ?iAgain ?lAgain ?cAgain ?kAgain ?aDone ?iDone ?lDone ?cDone ?kDone ?aTt ?iTt ?lTt ?cTt ?kTt ?aAnswer ?iAnswer ?lAnswer ?cAnswer ?kAnswer ?aAns ?lAns ?cAns ?kAns ?pgC ?hdC ?poC ?saC ?mkC ?kcC ?pgW ?hdW ?poW ?saW ?mkW ?kcW ?nC_a ?nC_b ?nC_k ?nW_n ?nW_triple ?nW_steps_done ?g_BEGIN ?g_STEP ?g_STEPS ?g_TAKEN ?g_FITS ?g_ALL ?g_DIFFS ?g_LEAST ?g_LONG ?g_SHORT ?g_LONGEST ?g_GREATEST ?g_MINUS ?g_AGAIN ?g_DONE ?g_TOLD ?g_NO_MINUS_ONE ?g_NOT_BEGUN ?g_AT_THE_END ?g_NOT_AS_TOLD ?g_LEAST_N ?g_GREATEST_N ?g_MOST_STEPS ?g_GREATEST_M ?z_abs ?z_len ?z_range ?z_list ?aTupA ?lTupA ?aTupS ?lTupS
    (case aC => k_is)
    (case aW => k_is)
    (case aTri => k_is)
    (case iTri => k_is)
    (case lTri => k_is)
    (case cTri => k_is)
    (case kTri => k_is)
    (case aSq => k_is)
    (case lSq => k_is)
    (case cSq => k_is)
    (case kSq => k_is)
    (case aBnd => k_is)
    (case lBnd => k_is)
    (case cBnd => k_is)
    (case kBnd => k_is)
    (case aTold => k_is)
    (case lTold => k_is)
    (case cTold => k_is)
    (case kTold => k_is)
    (case aNear => k_is)
    (case lNear => k_is)
    (case cNear => k_is)
    (case kNear => k_is)
    (case aFirst => k_is)
    (case lFirst => k_is)
    (case cFirst => k_is)
    (case kFirst => k_is)
    (case aFit => k_is)
    (case lFit => k_is)
    (case cFit => k_is)
    (case kFit => k_is)
    (case aTaken => k_is)
    (case lTaken => k_is)
    (case cTaken => k_is)
    (case kTaken => k_is)
    (case aNext => k_is)
    (case lNext => k_is)
    (case cNext => k_is)
    (case kNext => k_is)
    (case aAfter => k_is)
    (case lAfter => k_is)
    (case cAfter => k_is)
    (case kAfter => k_is)
    (case aWay => k_is)
    (case lWay => k_is)
    (case cWay => k_is)
    (case kWay => k_is)
    (case aTellT => k_is)
    (case lTellT => k_is)
    (case cTellT => k_is)
    (case kTellT => k_is)
    (case aPairs => k_is)
    (case lPairs => k_is)
    (case cPairs => k_is)
    (case kPairs => k_is)
    (case aDiffs => k_is)
    (case lDiffs => k_is)
    (case cDiffs => k_is)
    (case kDiffs => k_is)
    (case aLeast => k_is)
    (case lLeast => k_is)
    (case cLeast => k_is)
    (case kLeast => k_is)
    (case aFD => k_is)
    (case lFD => k_is)
    (case cFD => k_is)
    (case kFD => k_is)
    (case aLong => k_is)
    (case lLong => k_is)
    (case cLong => k_is)
    (case kLong => k_is)
    (case aMinus => k_is)
    (case lMinus => k_is)
    (case cMinus => k_is)
    (case kMinus => k_is)
    (case aEv => k_is)
    (case lEv => k_is)
    (case cEv => k_is)
    (case kEv => k_is)
    (case aRow => k_is)
    (case lRow => k_is)
    (case cRow => k_is)
    (case kRow => k_is)
    (case aLgst => k_is)
    (case lLgst => k_is)
    (case cLgst => k_is)
    (case kLgst => k_is)
    (case aGrst => k_is)
    (case lGrst => k_is)
    (case cGrst => k_is)
    (case kGrst => k_is)
    (case aApart => k_is)
    (case lApart => k_is)
    (case cApart => k_is)
    (case kApart => k_is)
    (case aInit => k_is)
    (case iInit => k_is)
    (case lInit => k_is)
    (case cInit => k_is)
    (case kInit => k_is)
    (case aBegin => k_is)
    (case iBegin => k_is)
    (case lBegin => k_is)
    (case cBegin => k_is)
    (case kBegin => k_is)
    (case aGo => k_is)
    (case iGo => k_is)
    (case lGo => k_is)
    (case cGo => k_is)
    (case kGo => k_is)
    (case aStep => k_is)
    (case iStep => k_is)
    (case lStep => k_is)
    (case cStep => k_is)
    (case kStep => k_is)
    (case aSteps => k_is)
    (case iSteps => k_is)
    (case lSteps => k_is)
    (case cSteps => k_is)
    (case kSteps => k_is)
    (case aTk => k_is)
    (case iTk => k_is)
    (case lTk => k_is)
    (case cTk => k_is)
    (case kTk => k_is)
    (case aFits => k_is)
    (case iFits => k_is)
    (case lFits => k_is)
    (case cFits => k_is)
    (case kFits => k_is)
    (case aShort => k_is)
    (case iShort => k_is)
    (case lShort => k_is)
    (case cShort => k_is)
    (case kShort => k_is)
    (case aAgain => k_is)
    (case iAgain => k_is)
    (case lAgain => k_is)
    (case cAgain => k_is)
    (case kAgain => k_is)
    (case aDone => k_is)
    (case iDone => k_is)
    (case lDone => k_is)
    (case cDone => k_is)
    (case kDone => k_is)
    (case aTt => k_is)
    (case iTt => k_is)
    (case lTt => k_is)
    (case cTt => k_is)
    (case kTt => k_is)
    (case aAnswer => k_is)
    (case iAnswer => k_is)
    (case lAnswer => k_is)
    (case cAnswer => k_is)
    (case kAnswer => k_is)
    (case aAns => k_is)
    (case lAns => k_is)
    (case cAns => k_is)
    (case kAns => k_is)
    (case pgC => k_is)
    (case hdC => k_is)
    (case poC => k_is)
    (case saC => k_is)
    (case mkC => k_is)
    (case kcC => k_is)
    (case pgW => k_is)
    (case hdW => k_is)
    (case poW => k_is)
    (case saW => k_is)
    (case mkW => k_is)
    (case kcW => k_is)
    (case nC_a => k_is)
    (case nC_b => k_is)
    (case nC_k => k_is)
    (case nW_n => k_is)
    (case nW_triple => k_is)
    (case nW_steps_done => k_is)
    (case g_BEGIN => k_is)
    (case g_STEP => k_is)
    (case g_STEPS => k_is)
    (case g_TAKEN => k_is)
    (case g_FITS => k_is)
    (case g_ALL => k_is)
    (case g_DIFFS => k_is)
    (case g_LEAST => k_is)
    (case g_LONG => k_is)
    (case g_SHORT => k_is)
    (case g_LONGEST => k_is)
    (case g_GREATEST => k_is)
    (case g_MINUS => k_is)
    (case g_AGAIN => k_is)
    (case g_DONE => k_is)
    (case g_TOLD => k_is)
    (case g_NO_MINUS_ONE => k_is)
    (case g_NOT_BEGUN => k_is)
    (case g_AT_THE_END => k_is)
    (case g_NOT_AS_TOLD => k_is)
    (case g_LEAST_N => k_is)
    (case g_GREATEST_N => k_is)
    (case g_MOST_STEPS => k_is)
    (case g_GREATEST_M => k_is)
    (case z_abs => k_is)
    (case z_len => k_is)
    (case z_range => k_is)
    (case z_list => k_is)
    (case aTupA => k_is)
    (case lTupA => k_is)
    (case aTupS => k_is)
    (case lTupS => k_is)
  case S =>
    intro K H xs a hO hwi hask hx
    cases hx with
    | cons h1 h2 =>
      cases h2
      cases h1 with
      | lst hs ha =>
        have e := L2.ints_dw a.1 _ ha
        subst e
        have q : ((Codec.inLen 0 200 a.1 && a.1.all (Codec.inInt 0 4294967295)) && true) = true := hwi
        rw [Bool.and_eq_true, Bool.and_eq_true] at q
        exact ⟨_, a.1, rfl, hs, (Codec.inNat_iff.mp q.1.1).2, hask, fun H' p hp => .lst (L2.SqL.of hp) (L2.dw_ints _)⟩
#print axioms PySem.Challenge.cw_roundway_s01_answers_holds
end
