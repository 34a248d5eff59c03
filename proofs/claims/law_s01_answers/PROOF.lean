import PyProof.Rows.All
import Wide.All
import OpenK.AllK
import Wide.FinOn
import PyProof.EqAt
import PyProof.EqKinds
import PyProof.TupleCall
import KE.BitLaws
import PySf08
import KE.OsGo
import Open.SpecLaws
import PySem.Challenge.RW_jsonstates_s01_answers
-- CHANGE: your row's module here, as the last of these rows
set_option Elab.async false
set_option linter.all false
set_option maxRecDepth 100000
namespace L2
open PySem PySem.Spec PyProof.Rows

abbrev Key := Sum Int Str
def keyIs : Key → Value → Bool
  | .inl k, v => Value.isInt k v
  | .inr x, v => Value.isStrOf x v
def keyH (w : World) : Key → Int
  | .inl k => hashInt k
  | .inr x => hashStr w x
theorem keyIs_shape : ∀ {k : Key} {v : Value}, keyIs k v = true → (∃ i t, k = Sum.inl i ∧ v = Value.int i t) ∨ (∃ x t, k = Sum.inr x ∧ v = Value.str x t)
  | .inl i, v, h => by
    obtain ⟨t, e⟩ := Value.isInt_shape (k := i) (v := v) h
    exact .inl ⟨i, t, rfl, e⟩
  | .inr x, v, h => by
    obtain ⟨t, e⟩ := Value.isStrOf_shape (x := x) (v := v) h
    exact .inr ⟨x, t, rfl, e⟩
theorem key_ll (a b : Int) : decide ((Sum.inl a : Key) = Sum.inl b) = (a == b) := by
  by_cases e : a = b
  · subst e; simp
  · have h : ¬ (Sum.inl a : Key) = Sum.inl b := fun q => e (Sum.inl.inj q)
    rw [decide_eq_false h]
    exact (beq_eq_false_iff_ne.mpr e).symm
theorem key_rr (a b : Str) : decide ((Sum.inr a : Key) = Sum.inr b) = decide (a = b) := by
  by_cases e : a = b
  · subst e; simp
  · have h : ¬ (Sum.inr a : Key) = Sum.inr b := fun q => e (Sum.inr.inj q)
    rw [decide_eq_false h, decide_eq_false e]
theorem key_lr (a : Int) (b : Str) : decide ((Sum.inl a : Key) = Sum.inr b) = false := decide_eq_false (fun q => nomatch q)
theorem key_rl (a : Str) (b : Int) : decide ((Sum.inr a : Key) = Sum.inl b) = false := decide_eq_false (fun q => nomatch q)

def mixKind (prog : Program) (w : World) : PySem.KeyKind prog w Key where
  is := keyIs
  hash := keyH w
  inj := fun v a b ha hb => by
    rcases keyIs_shape ha with ⟨i, t, rfl, rfl⟩ | ⟨x, t, rfl, rfl⟩
    · rcases keyIs_shape hb with ⟨j, u, rfl, e⟩ | ⟨y, u, rfl, e⟩
      · injection e with e1 _; rw [e1]
      · exact nomatch e
    · rcases keyIs_shape hb with ⟨j, u, rfl, e⟩ | ⟨y, u, rfl, e⟩
      · exact nomatch e
      · injection e with e1 _; rw [e1]
  byValue := fun k v h => by
    rcases keyIs_shape h with ⟨i, t, rfl, rfl⟩ | ⟨x, t, rfl, rfl⟩ <;> rfl
  pyHash := fun hv h => by
    rcases keyIs_shape hv with ⟨i, t, rfl, rfl⟩ | ⟨x, t, rfl, rfl⟩
    · exact wpAny_pyHash_int h
    · exact wpAny_pyHash_str h
  eqBool := fun hu hv h => by
    rcases keyIs_shape hu with ⟨i, t, rfl, rfl⟩ | ⟨x, t, rfl, rfl⟩
    · rcases keyIs_shape hv with ⟨j, u, rfl, rfl⟩ | ⟨y, u, rfl, rfl⟩
      · rw [key_ll] at h; exact wpAny_eqBool_int h
      · rw [key_lr] at h; exact SeqAt.EqAt.int_str i t y u _ _ _ _ h
    · rcases keyIs_shape hv with ⟨j, u, rfl, rfl⟩ | ⟨y, u, rfl, rfl⟩
      · rw [key_rl] at h; exact SeqAt.EqAt.str_int x t j u _ _ _ _ h
      · rw [key_rr] at h; exact wpAny_eqBool_str h
  «strs» := fun k x t v h => by
    rcases keyIs_shape h with ⟨i, u, rfl, e⟩ | ⟨y, u, rfl, e⟩
    · exact nomatch e
    · injection e with e1 _
      subst e1
      cases v <;> rfl

end L2

namespace L2
open PySem PySem.Spec PyProof.Rows

inductive V where
  | non | bl (b : Bool) | int (i : Int) | str (x : Str) | byt (b : Array UInt8) | flt (b : UInt64) | ref (a : Addr) | ty (n : String)
  deriving DecidableEq

def RelV : V → Value → Prop
  | .non, u => u = Value.none
  | .bl b, u => u = Value.bool b
  | .int i, u => ∃ t, u = Value.int i t
  | .str x, u => ∃ t, u = Value.str x t
  | .byt b, u => ∃ t, u = Value.bytes b t
  | .flt b, u => ∃ t, u = Value.float b t
  | .ref a, u => u = Value.ref a
  | .ty n, u => u = Value.type n

abbrev Vals : List V → List Value → Prop := Paired RelV
theorem Vals.length {xs : List V} {us : List Value} (r : Vals xs us) : xs.length = us.length := Paired.length r
theorem Vals.get : ∀ {xs : List V} {us : List Value} {i : Nat} {x : V}, Vals xs us → xs[i]? = some x → ∃ u, us[i]? = some u ∧ RelV x u
  | _, _, _, _, .nil, e => by simp at e
  | _, _, 0, _, .cons r _, e => by simp at e; subst e; exact ⟨_, rfl, r⟩
  | _, _, i + 1, x, .cons _ t, e => by
    obtain ⟨u, h1, h2⟩ := Vals.get (i := i) (x := x) t (by simpa using e)
    exact ⟨u, by simpa using h1, h2⟩
theorem Vals.set {x : V} {u : Value} (r : RelV x u) : ∀ {xs : List V} {us : List Value} (i : Nat), Vals xs us → Vals (xs.set i x) (us.set i u)
  | _, _, _, .nil => .nil
  | _, _, 0, .cons _ t => .cons r t
  | _, _, i + 1, .cons q t => .cons q (Vals.set r i t)
theorem Vals.append : ∀ {xs ys : List V} {us ws : List Value}, Vals xs us → Vals ys ws → Vals (xs ++ ys) (us ++ ws)
  | _, _, _, _, .nil, s => s
  | _, _, _, _, .cons r t, s => .cons r (Vals.append t s)
theorem Vals.take : ∀ {xs : List V} {us : List Value} (n : Nat), Vals xs us → Vals (xs.take n) (us.take n)
  | _, _, 0, _ => .nil
  | _, _, _ + 1, .nil => .nil
  | _, _, n + 1, .cons r t => .cons r (Vals.take n t)
theorem Vals.drop : ∀ {xs : List V} {us : List Value} (n : Nat), Vals xs us → Vals (xs.drop n) (us.drop n)
  | _, _, 0, r => r
  | _, _, _ + 1, .nil => .nil
  | _, _, n + 1, .cons _ t => Vals.drop n t
theorem Vals.none_of : ∀ {xs : List V} {us : List Value} {i : Nat}, Vals xs us → xs[i]? = none → us[i]? = none := fun {xs us i} r e => by
  have h1 := r.length
  have h2 : xs.length ≤ i := List.getElem?_eq_none_iff.mp e
  exact List.getElem?_eq_none_iff.mpr (by omega)

def RelO : Option V → Option Value → Prop
  | some v, some u => RelV v u
  | none, none => True
  | _, _ => False
def KV {κ : Type} : List (κ × V) → List (κ × Value) → Prop := Paired fun (p : κ × V) (q : κ × Value) => p.1 = q.1 ∧ RelV p.2 q.2

def kV : Key → V
  | .inl i => .int i
  | .inr x => .str x

inductive HO where
  /-- a list -/
  | lst (xs : List V)
  /-- a tuple (never changes) -/
  | tup (xs : List V)
  /-- a dict whose keys are ints and texts; one whose keys are tuples of ints and texts (the empty one is both) -/
  | dK (kvs : List (Key × V)) | dT (kvs : List (List Key × V))
  /-- a set of ints: its members, its size -/
  | set (S : Int → Bool) (n : Nat)
  /-- an instance of the class at C, its dict at dx, its attributes -/
  | ins (C dx : Addr) (fs : List (Str × V))
  /-- the dict of the instance at x -/
  | own (x : Addr)
  /-- the dict of an exception -/
  | xd (fs : List (Str × V))
  /-- a bound method, f of x -/
  | met (f x : Addr)
  /-- a range object lo, lo + 1, .. below hi -/
  | rng (lo hi : Int)
  /-- a thing that is known to the object (the script; a dict while a loop walks it): read, never written while it is so -/
  | frz (o : Obj) (u : HO)
  /-- a code object's table -/
  | tbl (ps : Array Value)
  /-- any other thing, by what is true of its one object (a def of one's own: SetO a S n := HO.ext fun h => ..) -/
  | ext (φ : Heap → Prop)

abbrev Hp := Addr → Option HO
def upd (H : Hp) (a : Addr) (o : HO) : Hp := fun b => if b = a then some o else H b
theorem upd_same {H : Hp} {a : Addr} {o : HO} : upd H a o a = some o := by unfold upd; rw [if_pos rfl]
theorem upd_ne {H : Hp} {a b : Addr} {o : HO} (h : b ≠ a) : upd H a o b = H b := by unfold upd; rw [if_neg h]
theorem upd_upd {H : Hp} {a : Addr} {o u : HO} : upd (upd H a o) a u = upd H a u := by
  funext b; unfold upd; split <;> rfl
theorem ne_of {H : Hp} {a b : Addr} {o u : HO} (h : H a = some o) (h' : H b = some u) (d : o ≠ u) : a ≠ b := by
  intro e; subst e; rw [h] at h'; exact d (Option.some.inj h')
theorem ne_of_none {H : Hp} {a b : Addr} {o : HO} (h : H a = some o) (h' : H b = none) : a ≠ b := by
  intro e; subst e; rw [h] at h'; cases h'

section
variable (P : Program) (w : World)
def ObjOk (H : Hp) (h : Heap) (a : Addr) : HO → Prop
  | .lst xs => xs.length ≤ sizeLine ∧ ∃ (its : List Value) (n : Nat), Vals xs its ∧ h.get? a = some { cls := .type "list", data := .seq its.toArray n }
  | .tup xs => xs.length ≤ sizeLine ∧ ∃ its : List Value, Vals xs its ∧ IsTup h a its.toArray
  | .dK kvs => kvs.length ≤ sizeLine ∧ (a == sysModules) = false ∧ ∃ vs, KV kvs vs ∧ h.DictOf (mixKind P w) a vs
  | .dT kvs => kvs.length ≤ sizeLine ∧ (a == sysModules) = false ∧ ∃ xs : List (List Key × Addr × Value),
      Paired (fun (p : List Key × V) (q : List Key × Addr × Value) => p.1 = q.1 ∧ H q.2.1 = some (.tup (p.1.map kV)) ∧ RelV p.2 q.2.2) kvs xs ∧
      ∃ o es ep, h.get? a = some o ∧ o.ExactDict ∧ o.data = .dict es ep ∧ es.toList = xs.map (entryOfKey (tupleKind (mixKind P w))) ∧ (xs.map (·.1)).Nodup
  | .set S n => h.SetOf (intKind P w) a S n
  | .ins C dx fs => H dx = some (.own a) ∧ fs.length ≤ 1000 ∧ dx ≠ a ∧ h.get? a = some (PySem.W.instObj C dx) ∧
      ∃ mA, h.Ns1 dx mA ∧ (∀ f, RelO (fs.lookup f) (mA f)) ∧ PySem.Within mA (fs.map (·.1))
  | .own _ => ∃ o, h.get? a = some o
  | .xd fs => ∃ mA, h.Ns1 a mA ∧ ∀ f, RelO (fs.lookup f) (mA f)
  | .rng lo hi => ∃ t u v, h.get? a = some { cls := .type "range", data := .fields #[.int lo t, .int hi u, .int 1 v] }
  | .frz o u => h.get? a = some o ∧ ObjOk H h a u
  | .tbl ps => h.get? a = some { cls := .none, data := .fields ps }
  | .met f x => h.get? a = some (PySem.W.methodObj (.ref f) (.ref x))
  | .ext φ => φ h ∧ (∃ o, h.get? a = some o) ∧ ∀ h1 h2 : Heap, φ h1 → (∀ o, h1.get? a = some o → h2.get? a = some o) → φ h2
def HOk (H : Hp) (h : Heap) : Prop := ∀ a o, H a = some o → ObjOk P w H h a o
end

section
variable {P : Program} {w : World} {H H' : Hp} {h h' : Heap} {a : Addr} {o : HO}
theorem ObjOk.lt (x : ObjOk P w H h a o) : a < h.objs.size := by
  cases o with
  | lst xs => obtain ⟨_, _, _, _, e⟩ := x; exact Heap.lt_size e
  | tup xs => obtain ⟨_, _, _, p⟩ := x; exact p.lt
  | dK kvs => obtain ⟨_, _, _, _, o, _, _, e, _⟩ := x; exact Heap.lt_size e
  | dT kvs => obtain ⟨_, _, _, _, o, _, _, e, _⟩ := x; exact Heap.lt_size e
  | set S n => obtain ⟨o, _, _, _, e, _⟩ := x; exact Heap.lt_size e
  | ins C dx fs => obtain ⟨_, _, _, e, _⟩ := x; exact Heap.lt_size e
  | own y => obtain ⟨_, e⟩ := x; exact Heap.lt_size e
  | xd fs => obtain ⟨_, ⟨_, _, _, e, _⟩, _⟩ := x; exact Heap.lt_size e
  | rng lo hi => obtain ⟨_, _, _, e⟩ := x; exact Heap.lt_size e
  | frz ob u => obtain ⟨e, _⟩ := x; exact Heap.lt_size e
  | tbl ps => exact Heap.lt_size (show h.get? a = some _ from x)
  | met f y => exact Heap.lt_size (show h.get? a = some _ from x)
  | ext φ => obtain ⟨_, ⟨_, e⟩, _⟩ := x; exact Heap.lt_size e
theorem Paired.mapP {α β : Type} {F G : α → β → Prop} : ∀ {l₁ : List α} {l₂ : List β}, Paired F l₁ l₂ → (∀ a b, F a b → G a b) → Paired G l₁ l₂
  | _, _, .nil, _ => .nil
  | _, _, .cons r t, f => .cons (f _ _ r) (Paired.mapP t f)
theorem ObjOk.stay (x : ObjOk P w H h a o) (k : ∀ b u, (b = a ∨ H b = some (.own a)) → h.get? b = some u → h'.get? b = some u)
    (ho : ∀ b, H b = some (.own a) → H' b = some (.own a)) (ht : ∀ b xs, H b = some (.tup xs) → H' b = some (.tup xs)) : ObjOk P w H' h' a o := by
  induction o with
  | lst xs => obtain ⟨z, its, n, r, e⟩ := x; exact ⟨z, its, n, r, k _ _ (.inl rfl) e⟩
  | tup xs => obtain ⟨z, its, r, ob, e, c⟩ := x; exact ⟨z, its, r, ob, k _ _ (.inl rfl) e, c⟩
  | dK kvs => obtain ⟨z, y, vs, r, ob, es, ep, e, c⟩ := x; exact ⟨z, y, vs, r, ob, es, ep, k _ _ (.inl rfl) e, c⟩
  | dT kvs =>
    obtain ⟨z, y, xs, r, ob, es, ep, e, c⟩ := x
    exact ⟨z, y, xs, Paired.mapP r fun p q z => ⟨z.1, ht _ _ z.2.1, z.2.2⟩, ob, es, ep, k _ _ (.inl rfl) e, c⟩
  | set S n => obtain ⟨ob, es, ep, t, e, c⟩ := x; exact ⟨ob, es, ep, t, k _ _ (.inl rfl) e, c⟩
  | ins C dx fs =>
    obtain ⟨d, z, ne, e, mA, ⟨od, es, ep, e2, c⟩, r⟩ := x
    exact ⟨ho _ d, z, ne, k _ _ (.inl rfl) e, mA, ⟨od, es, ep, k _ _ (.inr d) e2, c⟩, r⟩
  | own y => obtain ⟨ob, e⟩ := x; exact ⟨ob, k _ _ (.inl rfl) e⟩
  | xd fs => obtain ⟨mA, ⟨od, es, ep, e, c⟩, r⟩ := x; exact ⟨mA, ⟨od, es, ep, k _ _ (.inl rfl) e, c⟩, r⟩
  | rng lo hi => obtain ⟨t, u, v, e⟩ := x; exact ⟨t, u, v, k _ _ (.inl rfl) e⟩
  | frz ob u ih => obtain ⟨e, q⟩ := x; exact ⟨k _ _ (.inl rfl) e, ih q⟩
  | tbl ps =>
    have e : h.get? a = some { cls := .none, data := .fields ps } := x
    show h'.get? a = some { cls := .none, data := .fields ps }
    exact k a _ (.inl rfl) e
  | met f y =>
    have e : h.get? a = some (PySem.W.methodObj (.ref f) (.ref y)) := x
    show h'.get? a = some (PySem.W.methodObj (.ref f) (.ref y))
    exact k a _ (.inl rfl) e
  | ext φ => obtain ⟨p, ⟨o, e⟩, st⟩ := x; exact ⟨st _ _ p fun o q => k _ _ (.inl rfl) q, ⟨o, k _ _ (.inl rfl) e⟩, st⟩
theorem HOk.lt (x : HOk P w H h) (e : H a = some o) : a < h.objs.size := (x a o e).lt
theorem HOk.fresh (x : HOk P w H h) (e : h.objs.size ≤ a) : H a = none := by
  cases q : H a with
  | none => rfl
  | some u => exact absurd (Nat.lt_of_lt_of_le (x.lt q) e) (Nat.lt_irrefl _)
theorem HOk.kept (x : HOk P w H h) (k : ∀ b u, h.get? b = some u → h'.get? b = some u) : HOk P w H h' := fun a o e =>
  (x a o e).stay (fun b u _ q => k b u q) (fun _ q => q) fun _ _ q => q
theorem HOk.laid (x : HOk P w H h) (k : ∀ b u, h.get? b = some u → h'.get? b = some u) (hp : h.objs.size ≤ a) (new : ObjOk P w (upd H a o) h' a o) : HOk P w (upd H a o) h' := fun b u e => by
  have hn := x.fresh hp
  by_cases hb : b = a
  · subst hb; rw [upd_same] at e; cases e; exact new
  · rw [upd_ne hb] at e
    exact (x b u e).stay (fun c v _ q => k c v q) (fun c q => by rw [upd_ne (ne_of_none q hn)]; exact q) fun c xs q => by rw [upd_ne (ne_of_none q hn)]; exact q
end

def Rd (H : Hp) (a : Addr) (u : HO) : Prop := H a = some u ∨ ∃ o, H a = some (.frz o u)
theorem Rd.of {H : Hp} {a : Addr} {u : HO} (h : H a = some u) : Rd H a u := .inl h
theorem Rd.ok {P : Program} {w : World} {H : Hp} {h : Heap} {a : Addr} {u : HO} (r : Rd H a u) (x : HOk P w H h) : ObjOk P w H h a u := by
  rcases r with r | ⟨o, r⟩
  · exact x a u r
  · obtain ⟨_, q⟩ := x a _ r
    exact q
def Mut : Option HO → Prop
  | some (.lst _) => True
  | some (.dK _) => True
  | some (.dT _) => True
  | some (.set _ _) => True
  | some (.ins _ _ _) => True
  | some (.ext _) => True
  | _ => False
section
variable {P : Program} {w : World} {H : Hp} {h h' : Heap} {x e : Addr} {o' : HO}
theorem HOk.write (ok : HOk P w H h) (mu : Mut (H x)) (he : e = x ∨ H e = some (.own x)) (k : ∀ b u, b ≠ e → h.get? b = some u → h'.get? b = some u) (heo : ∃ u, h'.get? e = some u)
    (new : ObjOk P w (upd H x o') h' x o') : HOk P w (upd H x o') h' := fun b u q => by
  have nown : ∀ c y, H c = some (.own y) → c ≠ x := fun c y r z => by subst z; rw [r] at mu; exact mu
  have ntup : ∀ c xs, H c = some (.tup xs) → c ≠ x := fun c xs r z => by subst z; rw [r] at mu; exact mu
  by_cases hb : b = x
  · subst hb; rw [upd_same] at q; cases q; exact new
  · rw [upd_ne hb] at q
    by_cases hbe : b = e
    · have q' : H b = some (.own x) := by
        rcases he with z | z
        · exact absurd (hbe.trans z) hb
        · rw [hbe]; exact z
      rw [q] at q'; cases q'
      obtain ⟨v, hv⟩ := heo
      exact ⟨v, by rw [hbe]; exact hv⟩
    · refine (ok b u q).stay (fun c v hc r => k c v ?_ r) (fun c r => by rw [upd_ne (nown c b r)]; exact r) fun c xs r => by rw [upd_ne (ntup c xs r)]; exact r
      rcases hc with rfl | hc
      · exact hbe
      · rintro rfl
        rcases he with z | z
        · exact nown c b hc z
        · rw [hc] at z; cases z; exact hb rfl
end

structure Un (fs ex : List Addr) (H H' : Hp) (h h' : Heap) : Prop where
  keep : ∀ b o, h.get? b = some o → H b = none → b ∉ fs → b ∉ ex → h'.get? b = some o
  slot : ∀ b o, h.get? b = some o → H b = none → b ∈ fs → b ∉ ex → ∃ sl, h'.get? b = some { o with slots := sl }
  free : ∀ b o, h.get? b = some o → H b = none → b ∉ ex → H' b = none
  there : ∀ b o, h.get? b = some o → b ∉ ex → ∃ o', h'.get? b = some o'
  tups : ∀ b xs, H b = some (.tup xs) → H' b = some (.tup xs)
  frzs : ∀ b o u, H b = some (.frz o u) → H' b = some (.frz o u)
  tbls : ∀ b ps, H b = some (.tbl ps) → ∃ more, H' b = some (.tbl (ps ++ more))
section
variable {fs fs' ex ex' : List Addr} {H H1 H2 : Hp} {h h1 h2 h' : Heap} {a x e : Addr} {o : HO}
theorem Un.any (u : Un fs ex H H1 h h1) {b : Addr} {ob : Obj} (q : h.get? b = some ob) (n : H b = none) (hx : b ∉ ex) : ∃ sl, h1.get? b = some { ob with slots := sl } := by
  by_cases hb : b ∈ fs
  · exact u.slot b ob q n hb hx
  · exact ⟨ob.slots, u.keep b ob q n hb hx⟩
theorem Un.trans (a : Un fs ex H H1 h h1) (b : Un fs ex H1 H2 h1 h2) : Un fs ex H H2 h h2 where
  keep := fun c ob q n hc hx => b.keep c ob (a.keep c ob q n hc hx) (a.free c ob q n hx) hc hx
  slot := fun c ob q n hc hx => by
    obtain ⟨sl, e1⟩ := a.slot c ob q n hc hx
    obtain ⟨sl', e2⟩ := b.slot c _ e1 (a.free c ob q n hx) hc hx
    exact ⟨sl', e2⟩
  free := fun c ob q n hx => by
    obtain ⟨o', e1⟩ := a.there c ob q hx
    exact b.free c o' e1 (a.free c ob q n hx) hx
  there := fun c ob q hx => by
    obtain ⟨o', e1⟩ := a.there c ob q hx
    exact b.there c o' e1 hx
  tups := fun c xs q => b.tups c xs (a.tups c xs q)
  frzs := fun c ob xs q => b.frzs c ob xs (a.frzs c ob xs q)
  tbls := fun c ps q => by
    obtain ⟨m1, e1⟩ := a.tbls c ps q
    obtain ⟨m2, e2⟩ := b.tbls c _ e1
    exact ⟨m1 ++ m2, by rw [e2, Array.append_assoc]⟩
theorem Un.kept (k : ∀ b u, h.get? b = some u → h'.get? b = some u) : Un fs ex H H h h' :=
  ⟨fun b ob q _ _ _ => k b ob q, fun b ob q _ _ _ => ⟨ob.slots, k b ob q⟩, fun _ _ _ n _ => n, fun b ob q _ => ⟨ob, k b ob q⟩, fun _ _ q => q, fun _ _ _ q => q, fun _ ps q => ⟨#[], by rw [q]; simp⟩⟩
theorem Un.refl : Un fs ex H H h h := Un.kept fun _ _ q => q
theorem Un.laid (k : ∀ b u, h.get? b = some u → h'.get? b = some u) (hp : h.objs.size ≤ a) (hn : H a = none) : Un fs ex H (upd H a o) h h' where
  keep := fun b u q _ _ _ => k b u q
  slot := fun b u q _ _ _ => ⟨u.slots, k b u q⟩
  free := fun b u q n _ => by rw [upd_ne (Nat.ne_of_lt (Nat.lt_of_lt_of_le (Heap.lt_size q) hp))]; exact n
  there := fun b u q _ => ⟨u, k b u q⟩
  tups := fun b xs q => by rw [upd_ne (ne_of_none q hn)]; exact q
  frzs := fun b u xs q => by rw [upd_ne (ne_of_none q hn)]; exact q
  tbls := fun b ps q => ⟨#[], by rw [upd_ne (ne_of_none q hn), q]; simp⟩
theorem Un.write (mu : Mut (H x)) (he : e = x ∨ H e = some (.own x)) (k : ∀ b u, b ≠ e → h.get? b = some u → h'.get? b = some u) (heo : ∃ u, h'.get? e = some u) : Un fs ex H (upd H x o) h h' := by
  have hx : ∀ b, H b = none → b ≠ x := fun b n z => by subst z; rw [n] at mu; exact mu
  have hb : ∀ b, H b = none → b ≠ e := fun b n z => by
    subst z
    rcases he with r | r
    · exact hx b n r
    · rw [n] at r; cases r
  have hm : ∀ b u, H b = some u → ¬ Mut (some u) → b ≠ x := fun b u q nm z => by subst z; rw [q] at mu; exact nm mu
  refine ⟨fun b u q n _ _ => k b u (hb b n) q, fun b u q n _ _ => ⟨u.slots, k b u (hb b n) q⟩, fun b u q n _ => by rw [upd_ne (hx b n)]; exact n, fun b u q _ => ?_,
    fun b xs q => by rw [upd_ne (hm b _ q fun z => z)]; exact q, fun b u xs q => by rw [upd_ne (hm b _ q fun z => z)]; exact q, fun b ps q => ⟨#[], by rw [upd_ne (hm b _ q fun z => z), q]; simp⟩⟩
  by_cases hbe : b = e
  · subst hbe; exact heo
  · exact ⟨u, k b u hbe q⟩
theorem Un.mono (u : Un fs ex H H1 h h1) (hs : ∀ b ∈ fs, b ∈ fs') (hx : ∀ b ∈ ex, b ∈ ex') : Un fs' ex' H H1 h h1 :=
  ⟨fun b ob q n hb he => u.keep b ob q n (fun z => hb (hs b z)) fun z => he (hx b z), fun _ _ q n _ he => u.any q n fun z => he (hx _ z), fun b ob q n he => u.free b ob q n fun z => he (hx b z), fun b ob q he => u.there b ob q fun z => he (hx b z), u.tups, u.frzs, u.tbls⟩
end

def trk (h : Heap) (H : Hp) : List Addr := (List.range h.objs.size).filter fun a => (H a).isSome
def hidT (h : Heap) (H : Hp) : Heap := PySem.W.hideAll h (trk h H)
theorem hidT_size (h : Heap) (H : Hp) : (hidT h H).objs.size = h.objs.size := PySem.W.hideAll_size _ _
theorem hidT_get {h : Heap} {H : Hp} {b : Addr} {o : Obj} (e : h.get? b = some o) (n : H b = none) : (hidT h H).get? b = some o :=
  PySem.W.hideAll_get _ e fun hm => by
    have q : (H b).isSome = true := (List.mem_filter.mp hm).2
    rw [n] at q; simp at q
theorem of_hidT {h : Heap} {H : Hp} {b : Addr} {o : Obj} (e : (hidT h H).get? b = some o) : h.get? b = some o ∧ H b = none := by
  have e' : h.get? b = some o := PySem.W.of_hideAll (trk h H) e
  refine ⟨e', ?_⟩
  cases q : H b with
  | none => rfl
  | some x =>
    have hm : b ∈ trk h H := List.mem_filter.mpr ⟨List.mem_range.mpr (Heap.lt_size e'), by simp [q]⟩
    have z : (hidT h H).get? b = none := PySem.W.hideAll_none (trk h H) hm
    rw [z] at e; cases e

def allNews (g h : Heap) (L : Addr) : List (Addr × Obj) := (List.range h.objs.size).filterMap fun a => if a = L ∨ (g.get? a).isSome = true then none else (h.get? a).map fun o => (a, o)
def rest (g h : Heap) (L d : Addr) : List (Addr × Obj) := (allNews g h L).filter fun p => decide (p.1 ≠ d)
end L2

namespace L2
open PySem PySem.Spec PyProof.Rows

structure Mod (K : PySem.W.Frag) (mg : Str → Option Value) (base : Heap) : Prop where
  kin : K.In base
  glob : base.Ns mainGlobals mg
  blt : ∃ mb, base.Ns builtinsNs mb ∧ ∀ x : Str, x ≠ "__name__" → mb x = bootBuiltins x
  nolimit : base.NoLimit

structure Cx where
  prog : Program
  w : World
  K : PySem.W.Frag
  mg : Str → Option Value
  base : Heap
  A : Around
  N : List Str
  s_0 : Shared
  H_0 : Hp
  env : Env
  outer : List Env
  stack : List Env
  ex : List Addr
  fn : Str → Bool
  calm : Bool
  pn : List (Addr × Obj)
  xe : Value → Shared → Prop
def frs (l : List Env) : List Addr := l.filterMap (·.frame)
abbrev Cx.fs (X : Cx) : List Addr := frs X.outer

def Vis (sc : Scope) (x : Str) : Prop := sc.names.lookup x = some .local ∨ sc.names.lookup x = some .cell ∨ sc.names.lookup x = some .free
def Loc (sc : Scope) (x : Str) : Prop := sc.names.lookup x = some .local ∨ sc.names.lookup x = some .cell
def Look (env : Env) (h : Heap) (m : Str → Option Value) (x : Str) (u : Value) : Prop :=
  (env.kindOf x = some .local ∧ m x = some u) ∨ ((env.kindOf x = some .cell ∨ env.kindOf x = some .free) ∧ ∃ c, env.cells.lookup x = some c ∧ h.IsCell c (some u))

structure Cx.Ok (X : Cx) : Prop where
  mod : Mod X.K X.mg X.base
  kind : X.env.scope.kind = .function
  glob : X.env.globals = mainGlobals
  blt : X.env.builtins = builtinsNs
  above : X.s_0.heap.objs.size ≤ X.env.locals
  inj : ∀ x y c, X.env.cells.lookup x = some c → X.env.cells.lookup y = some c → x = y
  has : ∀ x, (X.env.kindOf x = some .cell ∨ X.env.kindOf x = some .free) → ∃ c, X.env.cells.lookup x = some c
  cab : ∀ x c, X.fn x = true → X.env.cells.lookup x = some c → X.s_0.heap.objs.size ≤ c
  hd : X.calm = true → X.A.handled = none
  frames : X.A.frames = some X.stack
  stk : X.stack = X.outer ∨ (X.stack = X.env :: X.outer ∧ X.env.frame = some X.env.locals)
  exf : ∀ b ∈ X.ex, b ≠ X.env.locals ∧ ∀ x c, X.env.cells.lookup x = some c → c ≠ b
  bs : ∀ b o, X.base.get? b = some o → X.s_0.heap.get? b = some o ∧ X.H_0 b = none
  bsz : X.base.objs.size ≤ X.s_0.heap.objs.size
  noex : ∀ b o, X.base.get? b = some o → b ∉ X.ex
  exfs : ∀ b ∈ X.ex, b ∉ X.fs
  funs : X.s_0.heap.FunFrames X.base X.outer
  frf : ∀ b ∈ X.fs, X.H_0 b = none

structure Inv (X : Cx) (pins : List (Addr × Obj)) (σ : List (Option V)) (H : Hp) (s : Shared) : Prop where
  ok : X.Ok
  os : s.os = X.s_0.os
  bare : AllBare s.gens
  base : Un X.fs X.ex X.H_0 H X.s_0.heap s.heap
  loc : ∃ m, s.heap.Ns X.env.locals m ∧ ∀ (i : Nat) (x : Str) (v : V), X.N[i]? = some x → σ[i]? = some (some v) → Vis X.env.scope x → ∃ u, RelV v u ∧ Look X.env s.heap m x u
  cell : ∀ x c, X.env.cells.lookup x = some c → ∃ v, s.heap.IsCell c v
  free : H X.env.locals = none
  freeC : ∀ x c, X.env.cells.lookup x = some c → H c = none
  pin : ∀ p ∈ X.pn ++ pins, s.heap.get? p.1 = some p.2 ∧ H p.1 = none ∧ p.1 ≠ X.env.locals ∧ p.1 ∉ X.fs ∧ ∀ v, p.2.data ≠ .cell v
  hok : HOk X.prog X.w H s.heap
  len : σ.length = X.N.length

section
variable {X : Cx} {pins : List (Addr × Obj)} {σ : List (Option V)} {H H' : Hp} {s : Shared} {h' : Heap}

theorem Cx.Ok.nofr (ok : X.Ok) {b : Addr} {o : Obj} (e : X.base.get? b = some o) : b ∉ X.fs := fun hb => by
  have := (ok.funs.mem hb).1
  rw [e] at this; cases this
theorem Inv.bs (I : Inv X pins σ H s) : ∀ b o, X.base.get? b = some o → s.heap.get? b = some o ∧ H b = none := fun b o e =>
  ⟨I.base.keep b o (I.ok.bs b o e).1 (I.ok.bs b o e).2 (I.ok.nofr e) (I.ok.noex b o e), I.base.free b o (I.ok.bs b o e).1 (I.ok.bs b o e).2 (I.ok.noex b o e)⟩
theorem Inv.bk (I : Inv X pins σ H s) : ∀ b o, X.base.get? b = some o → s.heap.get? b = some o := fun b o e => (I.bs b o e).1
theorem Inv.mod (I : Inv X pins σ H s) : Mod X.K X.mg X.base := I.ok.mod
theorem Inv.kIn (I : Inv X pins σ H s) : X.K.In s.heap := I.ok.mod.kin.keeps I.bk
theorem Inv.nolimit (I : Inv X pins σ H s) : s.heap.NoLimit := I.ok.mod.nolimit.keeps I.bk
theorem Inv.fr (I : Inv X pins σ H s) : ∃ m, Fr X.base X.env.locals s.heap m :=
  let ⟨m, hn, _⟩ := I.loc
  ⟨m, hn, I.bk, Nat.le_trans I.ok.bsz I.ok.above⟩
theorem Inv.lt (I : Inv X pins σ H s) : X.env.locals < s.heap.objs.size := let ⟨_, hn, _⟩ := I.loc; hn.lt
theorem Inv.sz (I : Inv X pins σ H s) : X.s_0.heap.objs.size ≤ s.heap.objs.size := Nat.le_trans I.ok.above (Nat.le_of_lt I.lt)
theorem Inv.nofs (I : Inv X pins σ H s) {a : Addr} (h : s.heap.objs.size ≤ a) : a ∉ X.fs := fun hb => by
  obtain ⟨_, o, ho, _⟩ := I.ok.funs.mem hb
  exact absurd (Nat.lt_of_lt_of_le (Heap.lt_size ho) (Nat.le_trans I.sz h)) (Nat.lt_irrefl _)
theorem Inv.cne (I : Inv X pins σ H s) : ∀ x c, X.env.cells.lookup x = some c → c ≠ X.env.locals := fun x c e z => by
  obtain ⟨v, o, ho, hd⟩ := I.cell x c e
  obtain ⟨m, ⟨o', es, ep, ho', hd', _⟩, _⟩ := I.loc
  rw [z, ho'] at ho; cases ho; rw [hd'] at hd; cases hd
theorem Inv.funs (I : Inv X pins σ H s) : s.heap.FunFrames X.base X.outer := by
  have all : ∀ (l : List Env), (∀ b ∈ frs l, b ∈ X.fs) → X.s_0.heap.FunFrames X.base l → s.heap.FunFrames X.base l := by
    intro l
    induction l with
    | nil => intro _ _; trivial
    | cons env r ih =>
      intro hs hl
      obtain ⟨hk, ⟨L, o, hf, hn, ho, hd⟩, hr⟩ := hl
      have hL : L ∈ X.fs := hs L (by unfold frs; rw [List.filterMap_cons, hf]; exact List.mem_cons_self)
      obtain ⟨sl, e⟩ := I.base.slot L o ho (I.ok.frf L hL) hL fun z => I.ok.exfs L z hL
      exact ⟨hk, ⟨L, _, hf, hn, e, hd⟩, ih (fun b hb => hs b (by unfold frs; rw [List.filterMap_cons, hf]; exact List.mem_cons_of_mem _ hb)) hr⟩
  exact all X.outer (fun _ hb => hb) I.ok.funs

theorem Inv.stack (I : Inv X pins σ H s) : s.heap.FunFrames X.base X.stack := by
  rcases I.ok.stk with e | ⟨e, hf⟩
  · rw [e]; exact I.funs
  · rw [e]
    obtain ⟨m, hn, _⟩ := I.loc
    refine .cons (by rw [I.ok.kind]; decide) hf hn ?_ I.funs
    exact Heap.get?_none_of_le (Nat.le_trans I.ok.bsz I.ok.above)
theorem Inv.stkSub (I : Inv X pins σ H s) : ∀ b ∈ frs X.stack, b ∈ X.env.locals :: X.fs := fun b hb => by
  rcases I.ok.stk with e | ⟨e, hf⟩
  · rw [e] at hb; exact List.mem_cons_of_mem _ hb
  · rw [e] at hb
    unfold frs at hb
    rw [List.filterMap_cons, hf] at hb
    exact hb
theorem Inv.stkFree (I : Inv X pins σ H s) : ∀ b ∈ frs X.stack, H b = none := fun b hb => by
  rcases List.mem_cons.mp (I.stkSub b hb) with e | hb
  · rw [e]; exact I.free
  · obtain ⟨_, o, ho, _⟩ := I.ok.funs.mem hb
    exact I.base.free b o ho (I.ok.frf b hb) fun z => I.ok.exfs b z hb

theorem Inv.step {g' : Array GenState} {t' : Nat} {d' : Drawn} {ch : List Addr} (I : Inv X pins σ H s)
    (hch : ∀ b ∈ ch, (b ∈ X.ex ∨ X.s_0.heap.objs.size ≤ b) ∧ b ≠ X.env.locals ∧ (∀ x c, X.env.cells.lookup x = some c → c ≠ b) ∧ ∀ p ∈ X.pn ++ pins, p.1 ≠ b)
    (keep : ∀ b o, b ≠ X.env.locals → b ∉ X.fs → b ∉ ch → s.heap.get? b = some o → H b = none → h'.get? b = some o)
    (slot : ∀ b o, b ≠ X.env.locals → b ∈ X.fs → b ∉ ch → s.heap.get? b = some o → H b = none → ∃ sl, h'.get? b = some { o with slots := sl }) (free : ∀ b o, b ∉ ch → s.heap.get? b = some o → H b = none → H' b = none)
    (there : ∀ b o, b ∉ ch → s.heap.get? b = some o → ∃ o', h'.get? b = some o')
    (tups : ∀ b xs, H b = some (.tup xs) → H' b = some (.tup xs)) (frzs : ∀ b o u, H b = some (.frz o u) → H' b = some (.frz o u)) (tbls : ∀ b ps, H b = some (.tbl ps) → ∃ more, H' b = some (.tbl (ps ++ more)))
    (ns : ∀ m, s.heap.Ns X.env.locals m → h'.Ns X.env.locals m) (hok : HOk X.prog X.w H' h') (hg : AllBare g') :
    Inv X pins σ H' { s with heap := h', gens := g', drawn := d', toks := t' } := by
  have neL : ∀ b o, X.s_0.heap.get? b = some o → b ≠ X.env.locals := fun b o e => Nat.ne_of_lt (Nat.lt_of_lt_of_le (Heap.lt_size e) I.ok.above)
  have neC : ∀ b o, X.s_0.heap.get? b = some o → b ∉ X.ex → b ∉ ch := fun b o e hx hb => by
    rcases (hch b hb).1 with z | z
    · exact hx z
    · exact absurd (Nat.lt_of_lt_of_le (Heap.lt_size e) z) (Nat.lt_irrefl _)
  have cellK : ∀ x c, X.env.cells.lookup x = some c → ∀ v, s.heap.IsCell c v → h'.IsCell c v := fun x c e v ⟨o, ho, hd⟩ => by
    have nch : c ∉ ch := fun z => (hch c z).2.2.1 x c e rfl
    by_cases hc : c ∈ X.fs
    · obtain ⟨sl, q⟩ := slot c o (I.cne x c e) hc nch ho (I.freeC x c e)
      exact ⟨_, q, hd⟩
    · exact ⟨o, keep c o (I.cne x c e) hc nch ho (I.freeC x c e), hd⟩
  refine ⟨I.ok, I.os, hg, ⟨fun b o e n hb hx => ?_, fun b o e n hb hx => ?_, fun b o e n hx => ?_, fun b o e hx => ?_, fun b xs e => tups b xs (I.base.tups b xs e), fun b o xs e => frzs b o xs (I.base.frzs b o xs e), fun b ps e => ?_⟩, ?_, fun x c e => ?_, ?_, fun x c e => ?_, fun p hp => ?_, hok, I.len⟩
  · exact keep b o (neL b o e) hb (neC b o e hx) (I.base.keep b o e n hb hx) (I.base.free b o e n hx)
  · obtain ⟨sl, e1⟩ := I.base.slot b o e n hb hx
    obtain ⟨sl', e2⟩ := slot b _ (neL b o e) hb (neC b o e hx) e1 (I.base.free b o e n hx)
    exact ⟨sl', e2⟩
  · obtain ⟨o', e1⟩ := I.base.there b o e hx
    exact free b o' (neC b o e hx) e1 (I.base.free b o e n hx)
  · obtain ⟨o', e1⟩ := I.base.there b o e hx
    exact there b o' (neC b o e hx) e1
  · obtain ⟨m1, e1⟩ := I.base.tbls b ps e
    obtain ⟨m2, e2⟩ := tbls b _ e1
    exact ⟨m1 ++ m2, by rw [e2, Array.append_assoc]⟩
  · obtain ⟨m, hn, hl⟩ := I.loc
    refine ⟨m, ns m hn, fun i x v e1 e2 e3 => ?_⟩
    obtain ⟨u, r, l⟩ := hl i x v e1 e2 e3
    refine ⟨u, r, ?_⟩
    rcases l with l | ⟨k, c, e, z⟩
    · exact .inl l
    · exact .inr ⟨k, c, e, cellK x c e _ z⟩
  · obtain ⟨v, z⟩ := I.cell x c e
    exact ⟨v, cellK x c e v z⟩
  · obtain ⟨m, ⟨o, _, _, ho, _⟩, _⟩ := I.loc
    exact free _ o (fun z => (hch _ z).2.1 rfl) ho I.free
  · obtain ⟨v, o, ho, hd⟩ := I.cell x c e
    exact free c o (fun z => (hch c z).2.2.1 x c e rfl) ho (I.freeC x c e)
  · obtain ⟨e, n, ne, nf, d⟩ := I.pin p hp
    have nch : p.1 ∉ ch := fun z => (hch p.1 z).2.2.2 p hp rfl
    exact ⟨keep p.1 p.2 ne nf nch e n, free p.1 p.2 nch e n, ne, nf, d⟩
theorem Inv.un {t' : Nat} (I : Inv X pins σ H s) (u : Un X.fs [] H H' s.heap h') (hok : HOk X.prog X.w H' h') : Inv X pins σ H' { s with heap := h', toks := t' } := by
  obtain ⟨m, ⟨o, es, ep, ho, r⟩, _⟩ := id I.loc
  obtain ⟨sl, hL⟩ := u.any ho I.free (by simp)
  exact I.step (g' := s.gens) (d' := s.drawn) (ch := []) (fun _ z => nomatch z) (fun b o _ hb _ e n => u.keep b o e n hb (by simp)) (fun b o _ hb _ e n => u.slot b o e n hb (by simp)) (fun b o _ e n => u.free b o e n (by simp)) (fun b o _ e => u.there b o e (by simp)) u.tups u.frzs u.tbls (fun m' hm => by
    obtain ⟨o', es', ep', ho', r'⟩ := hm
    rw [ho] at ho'; cases ho'
    exact ⟨_, es', ep', hL, r'⟩) hok I.bare
theorem Inv.call {g' : Array GenState} {t' : Nat} {d' : Drawn} {ch : List Addr} (I : Inv X pins σ H s) (u : Un (frs X.stack) ch H H' s.heap h') (hok : HOk X.prog X.w H' h') (hg : AllBare g')
    (hch : ∀ b ∈ ch, (b ∈ X.ex ∨ X.s_0.heap.objs.size ≤ b) ∧ b ≠ X.env.locals ∧ (∀ x c, X.env.cells.lookup x = some c → c ≠ b) ∧ ∀ p ∈ X.pn ++ pins, p.1 ≠ b) :
    Inv X pins σ H' { s with heap := h', gens := g', drawn := d', toks := t' } := by
  obtain ⟨m, ⟨o, es, ep, ho, r⟩, _⟩ := id I.loc
  obtain ⟨sl, hL⟩ := u.any ho I.free fun z => (hch _ z).2.1 rfl
  exact I.step (ch := ch) hch (fun b o hL hb hc e n => u.keep b o e n (fun z => (List.mem_cons.mp (I.stkSub b z)).elim hL hb) hc) (fun b o _ _ hc e n => u.any e n hc) (fun b o hc e n => u.free b o e n hc) (fun b o hc e => u.there b o e hc) u.tups u.frzs u.tbls (fun m' hm => by
    obtain ⟨o', es', ep', ho', r'⟩ := hm
    rw [ho] at ho'; cases ho'
    exact ⟨_, es', ep', hL, r'⟩) hok hg
theorem Inv.turned {t' : Nat} {it : Addr} (I : Inv X pins σ H s) (k : ∀ b o, b ≠ it → s.heap.get? b = some o → h'.get? b = some o) (hn : H it = none) (hL : it ≠ X.env.locals)
    (h1 : it ∈ X.ex ∨ X.s_0.heap.objs.size ≤ it) (h2 : ∀ x c, X.env.cells.lookup x = some c → c ≠ it) (h3 : ∀ p ∈ X.pn ++ pins, p.1 ≠ it) : Inv X pins σ H { s with heap := h', toks := t' } := by
  have nit : ∀ b u, H b = some u → b ≠ it := fun b u e z => by rw [z, hn] at e; cases e
  refine I.step (g' := s.gens) (d' := s.drawn) (ch := [it]) (fun b hb => ?_) (fun b o _ _ hc e _ => k b o (fun z => hc (by simp [z])) e) (fun b o _ _ hc e _ => ⟨o.slots, k b o (fun z => hc (by simp [z])) e⟩) (fun _ _ _ _ n => n)
    (fun b o hc e => ⟨o, k b o (fun z => hc (by simp [z])) e⟩) (fun _ _ e => e) (fun _ _ _ e => e) (fun b ps e => ⟨#[], by rw [e]; simp⟩) (fun m hm => ?_) (fun b u e => ?_) I.bare
  · have e : b = it := by simpa using hb
    subst e
    exact ⟨h1, hL, h2, h3⟩
  · obtain ⟨o, es, ep, ho, r⟩ := hm
    exact ⟨o, es, ep, k _ o (Ne.symm hL) ho, r⟩
  · refine (I.hok b u e).stay (fun c v hc q => k c v ?_ q) (fun _ q => q) fun _ _ q => q
    rcases hc with z | z
    · rw [z]; exact nit b u e
    · exact nit c _ z
theorem Inv.tok (I : Inv X pins σ H s) (t : Nat) : Inv X pins σ H { s with toks := t } := I.un (h' := s.heap) (t' := t) Un.refl I.hok
theorem Inv.kept {t' : Nat} (I : Inv X pins σ H s) (k : ∀ b u, s.heap.get? b = some u → h'.get? b = some u) : Inv X pins σ H { s with heap := h', toks := t' } := I.un (Un.kept k) (I.hok.kept k)
theorem Inv.laid {a : Addr} {o : HO} {t' : Nat} (I : Inv X pins σ H s) (k : ∀ b u, s.heap.get? b = some u → h'.get? b = some u) (hp : s.heap.objs.size ≤ a) (new : ObjOk X.prog X.w (upd H a o) h' a o) :
    Inv X pins σ (upd H a o) { s with heap := h', toks := t' } := I.un (Un.laid k hp (I.hok.fresh hp)) (I.hok.laid k hp new)
theorem Inv.write {x e : Addr} {o : HO} {t' : Nat} (I : Inv X pins σ H s) (mu : Mut (H x)) (he : e = x ∨ H e = some (.own x)) (k : ∀ b u, b ≠ e → s.heap.get? b = some u → h'.get? b = some u) (heo : ∃ u, h'.get? e = some u)
    (new : ObjOk X.prog X.w (upd H x o) h' x o) : Inv X pins σ (upd H x o) { s with heap := h', toks := t' } := I.un (Un.write mu he k heo) (I.hok.write mu he k heo new)
theorem Inv.weak {σ' : List (Option V)} (I : Inv X pins σ H s) (hl : σ'.length = σ.length) (w : ∀ (i : Nat) v, σ'[i]? = some (some v) → σ[i]? = some (some v)) : Inv X pins σ' H s :=
  ⟨I.ok, I.os, I.bare, I.base, let ⟨m, hn, hl'⟩ := I.loc; ⟨m, hn, fun i x v e1 e2 e3 => hl' i x v e1 (w i v e2) e3⟩, I.cell, I.free, I.freeC, I.pin, I.hok, hl.trans I.len⟩
theorem Inv.pins_of {pins' : List (Addr × Obj)} (I : Inv X pins σ H s) (h : ∀ p ∈ pins', s.heap.get? p.1 = some p.2 ∧ H p.1 = none ∧ p.1 ≠ X.env.locals ∧ p.1 ∉ X.fs ∧ ∀ v, p.2.data ≠ .cell v) : Inv X pins' σ H s :=
  ⟨I.ok, I.os, I.bare, I.base, I.loc, I.cell, I.free, I.freeC, fun p hp => (List.mem_append.mp hp).elim (fun z => I.pin p (List.mem_append_left _ z)) (h p), I.hok, I.len⟩

theorem nodup_ix {N : List Str} (hN : N.Nodup) {i j : Nat} {x : Str} (a : N[i]? = some x) (b : N[j]? = some x) : i = j := by
  obtain ⟨h1, e1⟩ := List.getElem?_eq_some_iff.mp a
  obtain ⟨h2, e2⟩ := List.getElem?_eq_some_iff.mp b
  exact (List.getElem_inj hN).mp (e1.trans e2.symm)

theorem store_ok2 {M : Model} {A : Around} {E : Value → Shared → Prop} {i : Nat} {x : Str} {v : V} {u : Value} {Q : Unit → Shared → Prop} (I : Inv X pins σ H s) (hN : X.N.Nodup) (hi : X.N[i]? = some x) (hx : Loc X.env.scope x) (r : RelV v u)
    (h : ∀ s', Inv X pins (σ.set i (some v)) H s' → (∃ a, Heap.SameBut a s.heap s'.heap ∧ (a = X.env.locals ∨ X.env.cells.lookup x = some a)) → Q () s') (hf : X.fn x = true ∨ X.env.scope.names.lookup x = some .local := by first | exact .inl rfl | exact .inr rfl | assumption) : wpAny M A (storeName X.env x u) Q E s := by
  obtain ⟨m, hn, hl⟩ := id I.loc
  have hcls : (X.env.scope.kind == .class || (X.env.scope.kind == .module && X.env.locals != X.env.globals)) = false := by rw [I.ok.kind]; rfl
  have hiσ : i < σ.length := by rw [I.len]; exact (List.getElem?_eq_some_iff.mp hi).1
  have cne := I.cne
  have tracked : ∀ {a : Addr} {h' : Heap}, (∃ o, s.heap.get? a = some o ∧ H a = none) → Heap.SameBut a s.heap h' → HOk X.prog X.w H h' := fun {a h'} ha hs b ob e => by
    obtain ⟨_, _, hfree⟩ := ha
    refine (I.hok b ob e).stay (fun c w' hc q => (hs.2 c ?_).trans q) (fun _ q => q) fun _ _ q => q
    rintro rfl
    rcases hc with rfl | hc
    · rw [hfree] at e; cases e
    · rw [hfree] at hc; cases hc
  rcases hx with hk | hk
  · refine wpAny_storeName_local hk hn (fun h' hn' hs => ?_) hcls
    obtain ⟨oL, _, _, hoL, _⟩ := id hn
    refine h _ ⟨I.ok, I.os, I.bare, ⟨fun b o e n hb hx => ?_, fun b o e n hb hx => ?_, I.base.free, fun b o e hx => ?_, I.base.tups, I.base.frzs, I.base.tbls⟩, ⟨_, hn', fun j y v' e1 e2 e3 => ?_⟩, fun y c e => ?_, I.free, I.freeC, fun p hp => ?_, tracked ⟨oL, hoL, I.free⟩ hs, by simpa using I.len⟩ ⟨_, hs, .inl rfl⟩
    · exact (hs.2 b (Nat.ne_of_lt (Nat.lt_of_lt_of_le (Heap.lt_size e) I.ok.above))).trans (I.base.keep b o e n hb hx)
    · obtain ⟨sl, e1⟩ := I.base.slot b o e n hb hx
      exact ⟨sl, (hs.2 b (Nat.ne_of_lt (Nat.lt_of_lt_of_le (Heap.lt_size e) I.ok.above))).trans e1⟩
    · obtain ⟨o', e1⟩ := I.base.there b o e hx
      exact ⟨o', (hs.2 b (Nat.ne_of_lt (Nat.lt_of_lt_of_le (Heap.lt_size e) I.ok.above))).trans e1⟩
    · by_cases hj : j = i
      · subst hj
        rw [hi] at e1; cases e1
        rw [List.getElem?_set_self hiσ] at e2
        cases e2
        exact ⟨u, r, .inl ⟨hk, by simp⟩⟩
      · rw [List.getElem?_set_ne (Ne.symm hj)] at e2
        obtain ⟨u', r', q⟩ := hl j y v' e1 e2 e3
        refine ⟨u', r', ?_⟩
        rcases q with ⟨k, e⟩ | ⟨k, c, e, z⟩
        · refine .inl ⟨k, ?_⟩
          have : y ≠ x := fun e => hj (nodup_ix hN e1 (e ▸ hi))
          simp [this, e]
        · exact .inr ⟨k, c, e, z.sameBut hs (cne y c e)⟩
    · obtain ⟨w', z⟩ := I.cell y c e
      exact ⟨w', z.sameBut hs (cne y c e)⟩
    · obtain ⟨e, n, ne, nf, d⟩ := I.pin p hp
      exact ⟨(hs.2 p.1 ne).trans e, n, ne, nf, d⟩
  · have hfn : X.fn x = true := by
      rcases hf with z | z
      · exact z
      · rw [z] at hk; cases hk
    obtain ⟨c, hc⟩ := I.ok.has x (.inl hk)
    obtain ⟨w', z⟩ := I.cell x c hc
    refine wpAny_storeName_cell I.ok.kind hk hc z (fun h' hc' hs => ?_)
    obtain ⟨oc, hoc, hocd⟩ := id z
    refine h { s with heap := h' } ⟨I.ok, I.os, I.bare, ⟨fun b o e n hb hx => ?_, fun b o e n hb hx => ?_, I.base.free, fun b o e hx => ?_, I.base.tups, I.base.frzs, I.base.tbls⟩, ⟨m, hn.sameBut hs (Ne.symm (cne x c hc)), fun j y v' e1 e2 e3 => ?_⟩, fun y c' e => ?_, I.free, I.freeC, fun p hp => ?_, tracked ⟨oc, hoc, I.freeC x c hc⟩ hs, by simpa using I.len⟩ ⟨c, hs, .inr hc⟩
    · exact (hs.2 b (Nat.ne_of_lt (Nat.lt_of_lt_of_le (Heap.lt_size e) (I.ok.cab x c hfn hc)))).trans (I.base.keep b o e n hb hx)
    · obtain ⟨sl, e1⟩ := I.base.slot b o e n hb hx
      exact ⟨sl, (hs.2 b (Nat.ne_of_lt (Nat.lt_of_lt_of_le (Heap.lt_size e) (I.ok.cab x c hfn hc)))).trans e1⟩
    · obtain ⟨o', e1⟩ := I.base.there b o e hx
      exact ⟨o', (hs.2 b (Nat.ne_of_lt (Nat.lt_of_lt_of_le (Heap.lt_size e) (I.ok.cab x c hfn hc)))).trans e1⟩
    · by_cases hj : j = i
      · subst hj
        rw [hi] at e1; cases e1
        rw [List.getElem?_set_self hiσ] at e2
        cases e2
        exact ⟨u, r, .inr ⟨.inl hk, c, hc, hc'⟩⟩
      · rw [List.getElem?_set_ne (Ne.symm hj)] at e2
        obtain ⟨u', r', q⟩ := hl j y v' e1 e2 e3
        refine ⟨u', r', ?_⟩
        rcases q with q | ⟨k, c', e, z'⟩
        · exact .inl q
        · refine .inr ⟨k, c', e, z'.sameBut hs ?_⟩
          rintro rfl
          exact hj (nodup_ix hN e1 (I.ok.inj _ _ _ e hc ▸ hi))
    · by_cases hcc : c' = c
      · subst hcc; exact ⟨_, hc'⟩
      · obtain ⟨w2, z2⟩ := I.cell y c' e
        exact ⟨w2, z2.sameBut hs hcc⟩
    · obtain ⟨e, n, ne, nf, d⟩ := I.pin p hp
      refine ⟨(hs.2 p.1 ?_).trans e, n, ne, nf, d⟩
      intro q
      rw [q, hoc] at e
      have q' : oc = p.2 := Option.some.inj e
      exact d w' (by rw [← q']; exact hocd)
theorem store_ok {M : Model} {A : Around} {E : Value → Shared → Prop} {i : Nat} {x : Str} {v : V} {u : Value} {Q : Unit → Shared → Prop} (I : Inv X pins σ H s) (hN : X.N.Nodup) (hi : X.N[i]? = some x) (hx : Loc X.env.scope x) (r : RelV v u)
    (h : ∀ s', Inv X pins (σ.set i (some v)) H s' → Q () s') (hf : X.fn x = true ∨ X.env.scope.names.lookup x = some .local := by first | exact .inl rfl | exact .inr rfl | assumption) : wpAny M A (storeName X.env x u) Q E s :=
  store_ok2 I hN hi hx r (fun s' I' _ => h s' I') hf
theorem Inv.call' {s' : Shared} {ch : List Addr} (I : Inv X pins σ H s) (ho : s'.os = s.os) (u : Un (frs X.stack) ch H H' s.heap s'.heap) (hok : HOk X.prog X.w H' s'.heap) (hg : AllBare s'.gens)
    (hch : ∀ b ∈ ch, (b ∈ X.ex ∨ X.s_0.heap.objs.size ≤ b) ∧ b ≠ X.env.locals ∧ (∀ x c, X.env.cells.lookup x = some c → c ≠ b) ∧ ∀ p ∈ X.pn ++ pins, p.1 ≠ b) : Inv X pins σ H' s' := by
  obtain ⟨h', g', d', t', o'⟩ := s'
  have e : o' = s.os := ho
  subst e
  exact I.call (g' := g') (t' := t') (d' := d') u hok hg hch
end

abbrev XK := Value → Option Addr → Hp → Prop
abbrev St := List (Option V)
abbrev VK := V → Hp → Prop
abbrev TE := St → Hp → VK → Prop
abbrev TT := St → Hp → (Bool → Hp → Prop) → Prop
abbrev TA := St → Hp → (List V → Hp → Prop) → Prop
structure Ends where
  nx : St → Hp → Prop
  rt : VK
  bk : St → Hp → Prop := fun _ _ => False
  ct : St → Hp → Prop := fun _ _ => False
abbrev TS := Ends → St → Hp → Prop

def EP (X : Cx) (pins : List (Addr × Obj)) (σ : St) (Q : VK) (u : Value) (s' : Shared) : Prop := ∃ v H', Inv X pins σ H' s' ∧ RelV v u ∧ Q v H'
def TP (X : Cx) (pins : List (Addr × Obj)) (σ : St) (Q : Bool → Hp → Prop) (b : Bool) (s' : Shared) : Prop := ∃ H', Inv X pins σ H' s' ∧ Q b H'
def AP (X : Cx) (pins : List (Addr × Obj)) (σ : St) (Q : List V → Hp → Prop) (us : List Value) (s' : Shared) : Prop := ∃ vs H', Inv X pins σ H' s' ∧ Vals vs us ∧ Q vs H'
def SP (X : Cx) (pins : List (Addr × Obj)) (D : Ends) (f : Flow) (s' : Shared) : Prop :=
  match f with
  | .next => ∃ σ' H', Inv X pins σ' H' s' ∧ D.nx σ' H'
  | .brk => ∃ σ' H', Inv X pins σ' H' s' ∧ D.bk σ' H'
  | .cont => ∃ σ' H', Inv X pins σ' H' s' ∧ D.ct σ' H'
  | .ret u => ∃ v σ' H', Inv X pins σ' H' s' ∧ RelV v u ∧ D.rt v H'

def PE (X : Cx) (e : Expr) (t : TE) : Prop :=
  ∀ (pins : List (Addr × Obj)) (s : Shared) (σ : St) (H : Hp) (Q : VK), Inv X pins σ H s → t σ H Q → wpAny (model X.prog X.w) X.A (eval e X.env) (EP X pins σ Q) X.xe s
def PT (X : Cx) (e : Expr) (t : TT) : Prop :=
  ∀ (pins : List (Addr × Obj)) (s : Shared) (σ : St) (H : Hp) (Q : Bool → Hp → Prop), Inv X pins σ H s → t σ H Q → wpAny (model X.prog X.w) X.A (isTrue e X.env (eval e X.env)) (TP X pins σ Q) X.xe s
def PW (X : Cx) (e : Expr) (t : TT) : Prop :=
  ∀ (whole : Sem Value) (pins : List (Addr × Obj)) (s : Shared) (σ : St) (H : Hp) (Q : Bool → Hp → Prop), Inv X pins σ H s → t σ H Q → wpAny (model X.prog X.w) X.A (isTrue e X.env whole) (TP X pins σ Q) X.xe s
theorem PW.pt {X : Cx} {e : Expr} {t : TT} (h : PW X e t) : PT X e t := h _
def PA (X : Cx) (es : List Expr) (t : TA) : Prop :=
  ∀ (pos : Pos) (pins : List (Addr × Obj)) (s : Shared) (σ : St) (H : Hp) (Q : List V → Hp → Prop), Inv X pins σ H s → t σ H Q → wpAny (model X.prog X.w) X.A (spliced (backTo pos (starEach es X.env))) (AP X pins σ Q) X.xe s
def PS (X : Cx) (st : Stmt) (t : TS) : Prop :=
  ∀ (pins : List (Addr × Obj)) (s : Shared) (σ : St) (H : Hp) (D : Ends), Inv X pins σ H s → t D σ H → wpAny (model X.prog X.w) X.A (exec st X.env) (SP X pins D) X.xe s
def PSs (X : Cx) (st : List Stmt) (t : TS) : Prop :=
  ∀ (pins : List (Addr × Obj)) (s : Shared) (σ : St) (H : Hp) (D : Ends), Inv X pins σ H s → t D σ H → wpAny (model X.prog X.w) X.A (execs st X.env) (SP X pins D) X.xe s
theorem thn {α : Type} {t : Sem α} {Q Q' : α → Shared → Prop} {M : Model} {A : Around} {E : Value → Shared → Prop} {s : Shared} (h : wpAny M A t Q E s) (hQ : ∀ a s, Q a s → Q' a s) : wpAny M A t Q' E s := wpAny_mono h hQ fun _ _ x => x
end L2

namespace L2
open PySem PySem.Spec PyProof.Rows
section
variable {X : Cx}

def tVar (i : Nat) : TE := fun σ H Q => ∃ v, σ[i]? = some (some v) ∧ Q v H
def tC (v : V) : TE := fun _ H Q => Q v H
theorem pe_var {i : Nat} {x : Str} {pos : Pos} (hN : X.N[i]? = some x) (hv : Vis X.env.scope x) (hd : (x == ("__debug__" : Str)) = false := by decide) (hcd : (x == ("__classdict__" : Str)) = false := by decide) : PE X (.Name x pos) (tVar i) := by
  intro pins s σ H Q I h
  obtain ⟨v, e, h⟩ := h
  obtain ⟨m, hn, hl⟩ := I.loc
  obtain ⟨u, r, l⟩ := hl i x v hN e hv
  have fin : EP X pins σ Q u s := ⟨v, H, I, r, h⟩
  rcases l with ⟨hk, hm⟩ | ⟨hk, c, hc, hcell⟩
  · exact wpAny_Name (wpAny_loadName_local I.ok.kind hk hn hm fin) hd
  · rcases hk with hk | hk
    · exact wpAny_Name (wpAny_loadName_cell I.ok.kind hk hc hcell fin) hd
    · exact wpAny_Name (wpAny_loadName_free I.ok.kind hk hc hcell fin hcd) hd
theorem pe_int {i j pos} : PE X (.Constant (.int i) j pos) (tC (.int i)) := fun _ _ _ H _ I h => wpAny_Constant_int ⟨.int i, H, I.tok _, ⟨_, rfl⟩, h⟩
theorem pe_bl {b j pos} : PE X (.Constant (.bool b) j pos) (tC (.bl b)) := fun _ _ _ H _ I h => Constant_bool ⟨.bl b, H, I, rfl, h⟩
theorem pe_str {x j pos} : PE X (.Constant (.str x) j pos) (tC (.str x)) := fun _ _ _ H _ I h => Calls.Constant_str ⟨.str x, H, I.tok _, ⟨_, rfl⟩, h⟩

def Gl (X : Cx) (x : Str) : Prop := X.env.kindOf x = some .globalImplicit
theorem ld_glob {E : Value → Shared → Prop} {pins : List (Addr × Obj)} {s : Shared} {σ : St} {H : Hp} {x : Str} {u : Value} {pos : Pos} {Q : Value → Shared → Prop} (I : Inv X pins σ H s) (hg : Gl X x) (hm : X.mg x = some u) (h : Q u s)
    (hd : (x == ("__debug__" : Str)) = false := by decide) : wpAny (model X.prog X.w) X.A (eval (.Name x pos) X.env) Q E s :=
  Calls.Name_function_global I.ok.kind hg (Calls.loadGlobal_global (by rw [I.ok.glob]; exact I.mod.glob.keeps I.bk) hm h) hd
theorem ld_blt {E : Value → Shared → Prop} {pins : List (Addr × Obj)} {s : Shared} {σ : St} {H : Hp} {x : Str} {u : Value} {pos : Pos} {Q : Value → Shared → Prop} (I : Inv X pins σ H s) (hg : Gl X x) (hm : X.mg x = none) (hv : bootBuiltins x = some u) (h : Q u s)
    (hn : x ≠ "__name__" := by decide) (hd : (x == ("__debug__" : Str)) = false := by decide) : wpAny (model X.prog X.w) X.A (eval (.Name x pos) X.env) Q E s := by
  obtain ⟨mb, h1, h2⟩ := I.mod.blt
  exact Calls.Name_function_global I.ok.kind hg (Calls.loadGlobal_builtin (by rw [I.ok.glob]; exact I.mod.glob.keeps I.bk) hm (by rw [I.ok.blt]; exact h1.keeps I.bk) ((h2 x hn).trans hv) h) hd
theorem pe_glob {x : Str} {v : V} {u : Value} {pos : Pos} (hg : Gl X x) (hm : X.mg x = some u) (r : RelV v u) (hd : (x == ("__debug__" : Str)) = false := by decide) : PE X (.Name x pos) (tC v) :=
  fun _ _ _ H _ I h => ld_glob I hg hm ⟨v, H, I, r, h⟩ hd
variable {a b : Expr} {ta tb : TE} {pos : Pos}
def tB (t : TE) : TT := fun σ H Q => t σ H fun x H1 => ∃ c, x = .bl c ∧ Q c H1
theorem pt_val {e : Expr} {t : TE} (h : PE X e t) (he : ∀ whole, isTrue e X.env whole = (do let v ← whole; standAt e.pos; holding [v] (truthy v)) := by intro _; rfl) : PT X e (tB t) := by
  intro pins s σ H Q I hw
  refine isTrue_plain (thn (h pins s σ H _ I hw) fun v s1 ⟨x, H1, I1, r1, q1⟩ => ?_) (he _)
  obtain ⟨d, rfl, q⟩ := q1
  cases r1
  exact wpAny_truthy_bool ⟨H1, I1, q⟩

variable {tA tB' : TT} {rest : List Expr}
def tOr (t u : TT) : TT := fun σ H Q => t σ H fun c H1 => if c = true then Q true H1 else u σ H1 Q
def tNot (t : TT) : TT := fun σ H Q => t σ H fun c H1 => Q (!c) H1
theorem pw_or1 (ha : PT X a tA) : PW X (.BoolOp .Or [a] pos) tA := by
  intro wh pins s σ H Q I h
  refine isTrue_or (thn (ha pins s σ H Q I h) fun c s1 e => ?_)
  cases c with
  | false => exact isTrue_or_nil e
  | true => exact e
theorem pw_or (ha : PT X a tA) (hb : PW X (.BoolOp .Or (b :: rest) pos) tB') : PW X (.BoolOp .Or (a :: b :: rest) pos) (tOr tA tB') := by
  intro wh pins s σ H Q I h
  refine isTrue_or (thn (ha pins s σ H _ I h) fun c s1 ⟨H1, I1, q1⟩ => ?_)
  cases c with
  | true => exact ⟨H1, I1, q1⟩
  | false => exact hb wh pins s1 σ H1 Q I1 q1
theorem pt_not (ha : PT X a tA) : PT X (.UnaryOp .Not a pos) (tNot tA) := by
  intro pins s σ H Q I h
  exact isTrue_not (ha pins s σ H (fun c H1 => Q (!c) H1) I h)
def tOrV (ta tb : TE) : TE := fun σ H Q => ta σ H fun x H1 => ∃ c, x = .bl c ∧ if c = true then Q (.bl true) H1 else tb σ H1 Q
theorem pe_one {op} {t : TE} (h : PE X a t) : PE X (.BoolOp op [a] pos) t := fun pins s σ H Q I hw => BoolOp_one (h pins s σ H Q I hw)
theorem pe_or (ha : PE X a ta) (hb : PE X (.BoolOp .Or (b :: rest) pos) tb) : PE X (.BoolOp .Or (a :: b :: rest) pos) (tOrV ta tb) := by
  intro pins s σ H Q I h
  refine BoolOp_or (thn (ha pins s σ H _ I h) fun v s1 ⟨x, H1, I1, r1, q1⟩ => ?_)
  obtain ⟨c, rfl, q1⟩ := q1
  cases r1
  refine wpAny_truthy_bool ?_
  cases c with
  | false => exact hb pins s1 σ H1 Q I1 q1
  | true => exact ⟨.bl true, H1, I1, rfl, q1⟩
def tIf (t : TT) (ta tb : TE) : TE := fun σ H Q => t σ H fun c H1 => if c = true then ta σ H1 Q else tb σ H1 Q
theorem pe_ifExp {c : Expr} (hc : PT X c tA) (ha : PE X a ta) (hb : PE X b tb) : PE X (.IfExp c a b pos) (tIf tA ta tb) := by
  intro pins s σ H Q I h
  refine wpAny_IfExp (thn (hc pins s σ H _ I h) fun d s1 ⟨H1, I1, q1⟩ => ?_)
  cases d with
  | true => exact ha pins s1 σ H1 Q I1 q1
  | false => exact hb pins s1 σ H1 Q I1 q1
end
end L2

namespace L2
open PySem PySem.Spec PyProof.Rows

def SqL (K : PySem.W.Frag) (H : Hp) (a : Addr) (xs : List V) : Prop :=
  Rd H a (.lst xs) ∨
    ∃ (o : Obj) (its : Array Value) (n : Nat), K.lookup a = some o ∧ o.cls = .type "list" ∧ o.dict = none ∧ o.data = .seq its n ∧ its.size ≤ sizeLine ∧ Vals xs its.toList
def SqT (K : PySem.W.Frag) (H : Hp) (a : Addr) (xs : List V) : Prop :=
  Rd H a (.tup xs) ∨
    ∃ (o : Obj) (its : Array Value) (n : Nat), K.lookup a = some o ∧ o.cls = .type "tuple" ∧ o.data = .seq its n ∧ its.size ≤ sizeLine ∧ Vals xs its.toList
def absV : Value → Option V
  | .none => some .non
  | .bool b => some (.bl b)
  | .int i _ => some (.int i)
  | .str x _ => some (.str x)
  | .bytes b _ => some (.byt b)
  | .float b _ => some (.flt b)
  | .ref a => some (.ref a)
  | .type n => some (.ty n)
  | _ => none
theorem RelV.abs {x : V} {u : Value} (r : RelV x u) : absV u = some x := by
  cases x with
  | non => cases r; rfl
  | bl _ => cases r; rfl
  | int _ => obtain ⟨t, rfl⟩ := r; rfl
  | str _ => obtain ⟨t, rfl⟩ := r; rfl
  | byt _ => obtain ⟨t, rfl⟩ := r; rfl
  | flt _ => obtain ⟨t, rfl⟩ := r; rfl
  | ref _ => cases r; rfl
  | ty _ => cases r; rfl
theorem RelV.inj {x y : V} {u : Value} (r : RelV x u) (q : RelV y u) : x = y := Option.some.inj (r.abs.symm.trans q.abs)
theorem Vals.inj : ∀ {xs ys : List V} {us : List Value}, Vals xs us → Vals ys us → xs = ys
  | _, _, _, .nil, .nil => rfl
  | _, _, _, .cons r t, .cons r' t' => by rw [r.inj r', Vals.inj t t']
section
variable {X : Cx} {pins : List (Addr × Obj)} {σ : St} {H : Hp} {s : Shared} {a : Addr} {xs ys : List V}
theorem SqL.of {K : PySem.W.Frag} (h : H a = some (.lst xs)) : SqL K H a xs := .inl (.inl h)
theorem SqT.of {K : PySem.W.Frag} (h : H a = some (.tup xs)) : SqT K H a xs := .inl (.inl h)
theorem Inv.list (I : Inv X pins σ H s) (h : SqL X.K H a xs) : ∃ its : List Value, Vals xs its ∧ PlainL s.heap a its.toArray ∧ xs.length ≤ sizeLine := by
  rcases h with h | ⟨o, its, n, hk, hc, hd, hs, hz, r⟩
  · obtain ⟨z, its, n, r, e⟩ := h.ok I.hok
    exact ⟨its, r, ⟨_, n, e, rfl, rfl, rfl⟩, z⟩
  · refine ⟨its.toList, r, ⟨o, n, I.kIn a o hk, hc, hd, by simpa using hs⟩, ?_⟩
    have e := r.length
    simp only [Array.length_toList] at e
    omega
theorem Inv.tuple (I : Inv X pins σ H s) (h : SqT X.K H a xs) : ∃ its : List Value, Vals xs its ∧ IsTup s.heap a its.toArray ∧ xs.length ≤ sizeLine := by
  rcases h with h | ⟨o, its, n, hk, hc, hs, hz, r⟩
  · obtain ⟨z, its, r, p⟩ := h.ok I.hok
    exact ⟨its, r, p, z⟩
  · refine ⟨its.toList, r, ⟨o, I.kIn a o hk, hc, n, by simpa using hs⟩, ?_⟩
    have e := r.length
    simp only [Array.length_toList] at e
    omega
theorem Inv.list_inj (I : Inv X pins σ H s) (h : SqL X.K H a xs) (h' : SqL X.K H a ys) : xs = ys := by
  obtain ⟨its, r, ⟨o, n, e, _, _, d⟩, _⟩ := I.list h
  obtain ⟨its', r', ⟨o', n', e', _, _, d'⟩, _⟩ := I.list h'
  rw [e] at e'; cases e'
  rw [d] at d'
  injection d' with d1 _
  have : its = its' := by simpa using congrArg Array.toList d1
  subst this
  exact r.inj r'
end

abbrev Cx.wish (X : Cx) (E : Value → Shared → Prop) : Cx := { X with xe := E }
abbrev Cx.nox (X : Cx) : Cx := X.wish fun _ _ => False
theorem Cx.Ok.wish {X : Cx} (ok : X.Ok) (E : Value → Shared → Prop) : (X.wish E).Ok :=
  ⟨ok.mod, ok.kind, ok.glob, ok.blt, ok.above, ok.inj, ok.has, ok.cab, ok.hd, ok.frames, ok.stk, ok.exf, ok.bs, ok.bsz, ok.noex, ok.exfs, ok.funs, ok.frf⟩
theorem Cx.Ok.unwish {X : Cx} {E : Value → Shared → Prop} (ok : (X.wish E).Ok) : X.Ok :=
  ⟨ok.mod, ok.kind, ok.glob, ok.blt, ok.above, ok.inj, ok.has, ok.cab, ok.hd, ok.frames, ok.stk, ok.exf, ok.bs, ok.bsz, ok.noex, ok.exfs, ok.funs, ok.frf⟩
section
variable {X : Cx} {pins : List (Addr × Obj)} {σ : St} {H : Hp} {s : Shared} {E : Value → Shared → Prop}
theorem Inv.wish (I : Inv X pins σ H s) (E : Value → Shared → Prop) : Inv (X.wish E) pins σ H s := ⟨I.ok.wish E, I.os, I.bare, I.base, I.loc, I.cell, I.free, I.freeC, I.pin, I.hok, I.len⟩
theorem Inv.unwish (I : Inv (X.wish E) pins σ H s) : Inv X pins σ H s := ⟨I.ok.unwish, I.os, I.bare, I.base, I.loc, I.cell, I.free, I.freeC, I.pin, I.hok, I.len⟩
theorem SP.unwish {D : Ends} {f : Flow} {s' : Shared} (h : SP (X.wish E) pins D f s') : SP X pins D f s' := by
  cases f with
  | next => obtain ⟨σ', H', I, q⟩ := h; exact ⟨σ', H', I.unwish, q⟩
  | brk => obtain ⟨σ', H', I, q⟩ := h; exact ⟨σ', H', I.unwish, q⟩
  | cont => obtain ⟨σ', H', I, q⟩ := h; exact ⟨σ', H', I.unwish, q⟩
  | ret u => obtain ⟨v, σ', H', I, r, q⟩ := h; exact ⟨v, σ', H', I.unwish, r, q⟩
theorem PE.nox {e : Expr} {t : TE} (h : PE X.nox e t) : PE X e t := fun pins s σ H Q I hw =>
  wpAny_mono (h pins s σ H Q (I.wish _) hw) (fun _ _ ⟨v, H', I', r, q⟩ => ⟨v, H', I'.unwish, r, q⟩) fun _ _ z => False.elim z
theorem PT.nox {e : Expr} {t : TT} (h : PT X.nox e t) : PT X e t := fun pins s σ H Q I hw =>
  wpAny_mono (h pins s σ H Q (I.wish _) hw) (fun _ _ ⟨H', I', q⟩ => ⟨H', I'.unwish, q⟩) fun _ _ z => False.elim z
theorem PSs.nox {st : List Stmt} {t : TS} (h : PSs X.nox st t) : PSs X st t := fun pins s σ H D I hw =>
  wpAny_mono (h pins s σ H D (I.wish _) hw) (fun _ _ q => q.unwish) fun _ _ z => False.elim z
end

section
variable {X : Cx} {st : Stmt} {rest : List Stmt} {t u : TS} {e : Expr} {te : TE} {pos : Pos}
def tNext : TS := fun D σ H => D.nx σ H
def tSeq (t u : TS) : TS := fun D σ H => t { D with nx := u D } σ H
theorem pss_nil : PSs X [] tNext := fun _ _ σ H _ I h => wpAny_execs_nil ⟨σ, H, I, h⟩
theorem pss_cons (h1 : PS X st t) (h2 : PSs X rest u) : PSs X (st :: rest) (tSeq t u) := by
  intro pins s σ H D I h
  refine wpAny_execs_cons (thn (h1 pins s σ H { D with nx := u D } I h) fun f s1 q => ?_)
  cases f with
  | next =>
    obtain ⟨σ', H', I', q⟩ := q
    exact h2 pins s1 σ' H' D I' q
  | ret v => exact q
  | brk => exact q
  | cont => exact q
theorem pss_one (h1 : PS X st t) : PSs X [st] t := by
  intro pins s σ H D I h
  refine wpAny_execs_cons (thn (h1 pins s σ H D I h) fun f s1 q => ?_)
  cases f with
  | next => exact wpAny_execs_nil q
  | ret v => exact q
  | brk => exact q
  | cont => exact q
theorem Inv.quiet {pins : List (Addr × Obj)} {σ : St} {H : Hp} {s : Shared} (I : Inv X pins σ H s) : interactive X.env = false := by simp [interactive, I.ok.kind]
def tDrop (te : TE) : TS := fun D σ H => te σ H fun _ H1 => D.nx σ H1
theorem ps_expr (he : PE X e te) (hs : swapsWith e none pos.line X.env = pure false := by rfl) : PS X (.Expr e pos) (tDrop te) := by
  intro pins s σ H D I h
  exact wpAny_Expr_any (thn (he pins s σ H _ I h) fun v s1 ⟨x, H1, I1, r1, q1⟩ => ⟨σ, H1, I1, q1⟩) I.quiet hs
def tRet (te : TE) : TS := fun D σ H => te σ H D.rt
theorem ps_ret (he : PE X e te) : PS X (.Return (some e) pos) (tRet te) := by
  intro pins s σ H D I h
  exact wpAny_Return_some (thn (he pins s σ H _ I h) fun v s1 ⟨x, H1, I1, r1, q1⟩ => ⟨x, σ, H1, I1, r1, q1⟩)
def tIfS (c : TT) (t u : TS) : TS := fun D σ H => c σ H fun b H1 => if b = true then t D σ H1 else u D σ H1
theorem ps_if {c : Expr} {a b : List Stmt} {tc : TT} (hc : PT X c tc) (ha : PSs X a t) (hb : PSs X b u) : PS X (.If c a b pos) (tIfS tc t u) := by
  intro pins s σ H D I h
  refine wpAny_If (thn (hc pins s σ H _ I h) fun d s1 ⟨H1, I1, q1⟩ => ?_)
  cases d with
  | true => exact ha pins s1 σ H1 D I1 q1
  | false => exact hb pins s1 σ H1 D I1 q1
end

abbrev TG := V → St → Hp → (St → Hp → Prop) → Prop
def PG (X : Cx) (target : Expr) (t : TG) : Prop :=
  ∀ (pins : List (Addr × Obj)) (s : Shared) (σ : St) (H : Hp) (v : V) (u : Value) (Q : St → Hp → Prop), Inv X pins σ H s → RelV v u → t v σ H Q →
    wpAny (model X.prog X.w) X.A (assign target X.env u) (fun _ s' => ∃ σ' H', Inv X pins σ' H' s' ∧ Q σ' H') X.xe s
abbrev TSet := V → V → V → Hp → (Hp → Prop) → Prop
def PSet (X : Cx) (t : TSet) : Prop :=
  ∀ (pins : List (Addr × Obj)) (s : Shared) (σ : St) (H : Hp) (o i v : V) (ov iv u : Value) (Q : Hp → Prop), Inv X pins σ H s → RelV o ov → RelV i iv → RelV v u → t o i v H Q →
    wpAny (model X.prog X.w) X.A (setItem ov iv u) (fun _ s' => ∃ H', Inv X pins σ H' s' ∧ Q H') X.xe s
abbrev TIp := V → V → Hp → VK → Prop
def PIp (X : Cx) (op : Operator) (t : TIp) : Prop :=
  ∀ (pins : List (Addr × Obj)) (s : Shared) (σ : St) (H : Hp) (x y : V) (v u : Value) (Q : VK), Inv X pins σ H s → RelV x v → RelV y u → t x y H Q →
    wpAny (model X.prog X.w) X.A (inplaceOp op v u) (EP X pins σ Q) X.xe s
section
variable {X : Cx} {pos : Pos}
def gName (i : Nat) : TG := fun v σ H Q => Q (σ.set i (some v)) H
theorem pg_name {i : Nat} {x : Str} (hN : X.N.Nodup) (hi : X.N[i]? = some x) (hx : Loc X.env.scope x) (hf : X.fn x = true ∨ X.env.scope.names.lookup x = some .local := by first | exact .inl rfl | exact .inr rfl | assumption) : PG X (.Name x pos) (gName i) := by
  intro pins s σ H v u Q I r h
  exact wpAny_assign_Name (store_ok I hN hi hx r (fun s' I' => ⟨_, H, I', h⟩) hf)
def tAsg (te : TE) (g : TG) : TS := fun D σ H => te σ H fun x H1 => g x σ H1 D.nx
theorem ps_set {i : Nat} {x : Str} {e : Expr} {te : TE} {pos' : Pos} (hN : X.N.Nodup) (hi : X.N[i]? = some x) (hx : Loc X.env.scope x) (he : PE X e te) (hs : swapsWith e (some (.Name x pos')) pos.line X.env = pure false := by rfl) (hf : X.fn x = true ∨ X.env.scope.names.lookup x = some .local := by first | exact .inl rfl | exact .inr rfl | assumption) :
    PS X (.Assign [.Name x pos'] e pos) (tAsg te (gName i)) := by
  intro pins s σ H D I h
  refine wpAny_Assign_Name (thn (he pins s σ H _ I h) fun v s1 ⟨y, H1, I1, r1, q1⟩ => ?_) hs
  exact store_ok I1 hN hi hx r1 (fun s2 I2 => ⟨_, H1, I2, q1⟩) hf
def tAug (i : Nat) (te : TE) (ti : TIp) : TS := fun D σ H => ∃ x, σ[i]? = some (some x) ∧ te σ H fun y H1 => ti x y H1 fun z H2 => D.nx (σ.set i (some z)) H2
theorem ps_aug {i : Nat} {x : Str} {e : Expr} {te : TE} {op : Operator} {ti : TIp} {pos' : Pos} (hN : X.N.Nodup) (hi : X.N[i]? = some x) (hx : Loc X.env.scope x) (he : PE X e te) (ho : PIp X op ti) (hf : X.fn x = true ∨ X.env.scope.names.lookup x = some .local := by first | exact .inl rfl | exact .inr rfl | assumption) :
    PS X (.AugAssign (.Name x pos') op e pos) (tAug i te ti) := by
  intro pins s σ H D I h
  obtain ⟨v, e1, h⟩ := h
  obtain ⟨m, hn, hl⟩ := I.loc
  have vis : Vis X.env.scope x := by rcases hx with k | k; exact .inl k; exact .inr (.inl k)
  obtain ⟨u, r, l⟩ := hl i x v hi e1 vis
  refine wpAny_AugAssign_Name ?_
  have go : wpAny (model X.prog X.w) X.A (eval e X.env) (fun w s₂ => wpAny (model X.prog X.w) X.A (inplaceOp op u w) (fun r s₃ => wpAny (model X.prog X.w) X.A (storeName X.env x r) (fun _ => SP X pins D .next) X.xe s₃) X.xe s₂) X.xe s := by
    refine thn (he pins s σ H _ I h) fun w s1 ⟨y, H1, I1, r1, q1⟩ => ?_
    refine thn (ho pins s1 σ H1 v y u w _ I1 r r1 q1) fun z s2 ⟨zv, H2, I2, r2, q2⟩ => ?_
    exact store_ok I2 hN hi hx r2 (fun s3 I3 => ⟨_, H2, I3, q2⟩) hf
  rcases l with ⟨hk, hm⟩ | ⟨hk, c, hc, hcell⟩
  · exact wpAny_loadName_local I.ok.kind hk hn hm go
  · rcases hk with hk | hk
    · exact wpAny_loadName_cell I.ok.kind hk hc hcell go
    · rcases hx with k | k
      · have : X.env.scope.names.lookup x = some .free := hk
        rw [k] at this; cases this
      · have : X.env.scope.names.lookup x = some .free := hk
        rw [k] at this; cases this
def tAugS (to ti te : TE) (tget : V → V → Hp → VK → Prop) (tip : TIp) (tset : TSet) : TS := fun D σ H => to σ H fun o H1 => ti σ H1 fun i H2 => tget o i H2 fun x H3 => te σ H3 fun y H4 => tip x y H4 fun z H5 => tset o i z H5 fun H6 => D.nx σ H6
def PGet (X : Cx) (t : V → V → Hp → VK → Prop) : Prop :=
  ∀ (pins : List (Addr × Obj)) (s : Shared) (σ : St) (H : Hp) (o i : V) (ov iv : Value) (Q : VK), Inv X pins σ H s → RelV o ov → RelV i iv → t o i H Q →
    wpAny (model X.prog X.w) X.A (getItem ov iv) (EP X pins σ Q) X.xe s
theorem ps_augS {o i e : Expr} {to ti te : TE} {tget : V → V → Hp → VK → Prop} {tip : TIp} {tset : TSet} {op : Operator} {tpos : Pos} (ho : PE X o to) (hi : PE X i ti) (hg : PGet X tget) (he : PE X e te) (hp : PIp X op tip) (hs : PSet X tset)
    (ha : ∀ ov iv new, augStore i ov iv new = (do holding [new, ov, iv] (setItem ov iv new); release [new, ov, iv] []; pure .next) := by intros; rfl) : PS X (.AugAssign (.Subscript o i tpos) op e pos) (tAugS to ti te tget tip tset) := by
  intro pins s σ H D I h
  refine wpAny_AugAssign_SubscriptAny (thn (ho pins s σ H _ I h) fun ov s1 ⟨x1, H1, I1, r1, q1⟩ => ?_) ha
  refine thn (hi pins s1 σ H1 _ I1 q1) fun iv s2 ⟨x2, H2, I2, r2, q2⟩ => ?_
  refine thn (hg pins s2 σ H2 x1 x2 ov iv _ I2 r1 r2 q2) fun old s3 ⟨x3, H3, I3, r3, q3⟩ => ?_
  refine thn (he pins s3 σ H3 _ I3 q3) fun v s4 ⟨x4, H4, I4, r4, q4⟩ => ?_
  refine thn (hp pins s4 σ H4 x3 x4 old v _ I4 r3 r4 q4) fun new s5 ⟨x5, H5, I5, r5, q5⟩ => ?_
  exact thn (hs pins s5 σ H5 x1 x2 x5 ov iv new _ I5 r1 r2 r5 q5) fun _ s6 ⟨H6, I6, q6⟩ => ⟨σ, H6, I6, q6⟩
def ipI (f : Int → Int → Int) : TIp := fun x y H Q => ∃ i j, x = .int i ∧ y = .int j ∧ Q (.int (f i j)) H
theorem ip_add : PIp X .Add (ipI fun i j => i + j) := by
  intro pins s σ H x y v u Q I r1 r2 h
  obtain ⟨i, j, e1, e2, q⟩ := h
  subst e1; subst e2
  obtain ⟨t, rfl⟩ := r1
  obtain ⟨t', rfl⟩ := r2
  exact iadd_int ⟨.int _, H, I.tok _, ⟨_, rfl⟩, q⟩
end

section
variable {X : Cx} {pos : Pos}
def tWhile (c : TT) (tb : TS) : TS := fun D σ H => ∃ W : Nat → St → Hp → Prop, (∃ m, W m σ H) ∧ ∀ m σ H, W m σ H →
  c σ H fun b H1 => if b = true then ∃ N : St → Hp → Prop, (∀ σ' H', N σ' H' → ∃ m', m' < m ∧ W m' σ' H') ∧ tb { D with nx := N, ct := N, bk := D.nx } σ H1 else D.nx σ H1
theorem ps_while {c : Expr} {body : List Stmt} {tc : TT} {tb : TS} (hp : PassesOwn (model X.prog X.w) X.A X.env X.xe) (hc : PT X c tc) (hb : PSs X body tb) : PS X (.While c body [] pos) (tWhile tc tb) := by
  intro pins s σ H D I h
  obtain ⟨W, ⟨m0, w0⟩, turn⟩ := h
  refine wpAny_While (codeAny_whileLoop (fun n s' => ∃ σ' H', Inv X pins σ' H' s' ∧ W n σ' H') ?_ m0 ⟨σ, H, I, w0⟩)
  rintro n s1 ⟨σ1, H1, I1, w1⟩
  refine wpAny_passesOwn hp (thn (hc pins s1 σ1 H1 _ I1 (turn n σ1 H1 w1)) fun b s2 ⟨H2, I2, q2⟩ => ?_)
  cases b with
  | true =>
    obtain ⟨N, hN, q2⟩ := q2
    rw [if_pos rfl]
    refine wpAny_passesOwn hp (thn (hb pins s2 σ1 H2 _ I2 q2) fun f s3 q3 => ?_)
    cases f with
    | next =>
      obtain ⟨σ3, H3, I3, n3⟩ := q3
      obtain ⟨m', hm, w3⟩ := hN σ3 H3 n3
      exact ⟨m', hm, σ3, H3, I3, w3⟩
    | cont =>
      obtain ⟨σ3, H3, I3, n3⟩ := q3
      obtain ⟨m', hm, w3⟩ := hN σ3 H3 n3
      exact ⟨m', hm, σ3, H3, I3, w3⟩
    | brk => exact q3
    | ret v => exact q3
  | false =>
    rw [if_neg Bool.false_ne_true]
    exact wpAny_execs_nil ⟨σ1, H2, I2, q2⟩
end

structure It where
  go : Nat → Hp → Prop
  yld : Nat → Hp → V → Hp → Prop
  stop : Nat → Hp → Prop
def FpOk (X : Cx) (pins : List (Addr × Obj)) (H : Hp) (b : Addr) : Prop :=
  H b = none ∧ b ≠ X.env.locals ∧ b ∉ X.fs ∧ (b ∈ X.ex ∨ X.s_0.heap.objs.size ≤ b) ∧ (∀ x c, X.env.cells.lookup x = some c → c ≠ b) ∧ ∀ p ∈ X.pn ++ pins, p.1 ≠ b
theorem Inv.fpOk {X : Cx} {pins : List (Addr × Obj)} {σ : St} {H H' : Hp} {s : Shared} {b : Addr} (I : Inv X pins σ H s) (hb : s.heap.objs.size ≤ b) (hn : H' b = none) : FpOk X pins H' b := by
  refine ⟨hn, Nat.ne_of_gt (Nat.lt_of_lt_of_le I.lt hb), I.nofs hb, .inr (Nat.le_trans I.sz hb), fun x c e z => ?_, fun p hp z => ?_⟩
  · obtain ⟨v, q⟩ := I.cell x c e
    exact absurd (Nat.lt_of_lt_of_le q.lt (by rw [z]; exact hb)) (Nat.lt_irrefl _)
  · exact absurd (Nat.lt_of_lt_of_le (Heap.lt_size (I.pin p hp).1) (by rw [z]; exact hb)) (Nat.lt_irrefl _)
structure Turn (P : Program) (w : World) (K : PySem.W.Frag) (tg : Expr) (J : It) (fp : List Addr) (it : Addr) (tn : Nat → Heap → Prop) : Prop where
  mem : it ∈ fp
  obj : ∀ i h, tn i h → ∀ b ∈ fp, ∃ o, h.get? b = some o ∧ ∀ v, o.data ≠ .cell v
  keep : ∀ i h h', tn i h → (∀ b ∈ fp, ∀ o, h.get? b = some o → h'.get? b = some o) → tn i h'
  item : ∀ (X : Cx), X.prog = P → X.w = w → X.K = K → X.calm = true → ∀ (i : Nat) (pins : List (Addr × Obj)) (s : Shared) (σ : St) (H : Hp) (E : Value → Shared → Prop), Inv X pins σ H s → (∀ b ∈ fp, FpOk X pins H b) → tn i s.heap → J.go i H →
    wpAny (model P w) X.A (pyNext (.ref it)) (fun r s1 => ∃ u, r = some u ∧
      wpAny (model P w) X.A (letOwnedTupleGo tg (.ref it) u) (fun _ s2 => ∃ x H', Inv X pins σ H' s2 ∧ RelV x u ∧ J.yld i H x H' ∧ tn (i + 1) s2.heap ∧ ∀ b ∈ fp, H' b = none) E s1) E s
  done : ∀ (X : Cx), X.prog = P → X.w = w → X.K = K → X.calm = true → ∀ (i : Nat) (pins : List (Addr × Obj)) (s : Shared) (σ : St) (H : Hp) (E : Value → Shared → Prop), Inv X pins σ H s → (∀ b ∈ fp, FpOk X pins H b) → tn i s.heap → J.stop i H →
    wpAny (model P w) X.A (pyNext (.ref it)) (fun r s1 => r = none ∧ Inv X pins σ H s1) E s
  self : ∀ (A : Around) (i : Nat) (s : Shared) (Q : Value → Shared → Prop) (E : Value → Shared → Prop), tn i s.heap → Q (.ref it) s → wpAny (model P w) A (pyIter (.ref it)) Q E s
abbrev TI := St → Hp → (It → Hp → Prop) → Prop
def PIE (X : Cx) (pins : List (Addr × Obj)) (σ : St) (tg : Expr) (R : It → Hp → Prop) (itv : Value) (s2 : Shared) : Prop :=
  ∃ (it : Addr) (fp : List Addr) (tn : Nat → Heap → Prop) (J : It) (H' : Hp), itv = .ref it ∧ Inv X pins σ H' s2 ∧ Turn X.prog X.w X.K tg J fp it tn ∧ tn 0 s2.heap ∧ (∀ b ∈ fp, FpOk X pins H' b) ∧ R J H'
def PI (X : Cx) (tg iter : Expr) (wi : TI) : Prop :=
  ∀ (pins : List (Addr × Obj)) (s : Shared) (σ : St) (H : Hp) (R : It → Hp → Prop), Inv X pins σ H s → wi σ H R →
    wpAny (model X.prog X.w) X.A (eval iter X.env) (fun v s1 => wpAny (model X.prog X.w) X.A (pyIter v) (PIE X pins σ tg R) X.xe s1) X.xe s

theorem go_of {M : Model} {A : Around} {E : Value → Shared → Prop} {s : Shared} {tg : Expr} {it : Addr} {u : Value} {o : Obj} {n : String} {vs : Array Value} {Q : Unit → Shared → Prop} (ho : s.heap.get? it = some o) (hc : o.cls = .type n) (hd : o.data = .fields vs)
    (hn : ["enumerate", "zip", "dict_itemiterator", "dict_reverseitemiterator", "odict_iterator", "itertools.zip_longest", "itertools.pairwise"].contains n = false) (hQ : Q () s) : wpAny M A (letOwnedTupleGo tg (.ref it) u) Q E s := by
  unfold letOwnedTupleGo
  cases tg <;> first
    | exact wpAny_pure hQ
    | (cases u <;> first
        | exact wpAny_pure hQ
        | (refine wpAny_bind (wpAny_load ho ?_)
           rw [hc, hd]
           show wpAny M A (if (["enumerate", "zip", "dict_itemiterator", "dict_reverseitemiterator", "odict_iterator", "itertools.zip_longest", "itertools.pairwise"].contains n && vs[0]? == some (rawInt _)) = true then _ else _) Q E s
           rw [if_neg (by intro h; rw [hn, Bool.false_and] at h; cases h)]
           exact wpAny_pure hQ))

def Itl (K : PySem.W.Frag) (a : Addr) : It :=
  ⟨fun i H => ∃ xs x, SqL K H a xs ∧ xs[i]? = some x, fun i H x H' => H' = H ∧ ∀ xs, SqL K H a xs → xs[i]? = some x, fun i H => ∃ xs, SqL K H a xs ∧ xs.length ≤ i⟩
theorem turn_list {P : Program} {w : World} {K : PySem.W.Frag} {tg : Expr} (a it : Addr) : Turn P w K tg (Itl K a) [it] it (fun i h => h.IsListIter it a i) where
  mem := by simp
  obj := fun i h st b hb => by
    have e : b = it := by simpa using hb
    subst e
    obtain ⟨o, e, c, d⟩ := st
    exact ⟨o, e, fun v z => by rw [d] at z; cases z⟩
  keep := fun i h h' st k => st.at fun o e => k it (by simp) o e
  item := by
    intro X hP hw hK hc i pins s σ H E I hf st hg
    subst hP hw hK
    obtain ⟨xs, x, hq, hx⟩ := hg
    obtain ⟨its, rv, p, hz⟩ := I.list hq
    obtain ⟨u, hu, ru⟩ := rv.get hx
    obtain ⟨f0, f1, f2, f3, f4, f5⟩ := hf it (by simp)
    refine wpAny_pyNext_list_item st p.isList (x := u) (by simpa using hu) fun h' st' sb => ?_
    have I1 : Inv X pins σ H { s with heap := h' } := I.turned (t' := s.toks) (fun b o hb e => (sb.2 b hb).trans e) f0 f1 f3 f4 f5
    obtain ⟨o, e, c, d⟩ := id st'
    exact ⟨u, rfl, go_of (s := { s with heap := h' }) e c d (by decide) ⟨x, H, I1, ru, ⟨rfl, fun ys hy => by rw [I.list_inj hy hq]; exact hx⟩, st', fun b hb => (hf b hb).1⟩⟩
  done := by
    intro X hP hw hK hc i pins s σ H E I hf st hg
    subst hP hw hK
    obtain ⟨xs, hq, hx⟩ := hg
    obtain ⟨its, rv, p, hz⟩ := I.list hq
    obtain ⟨f0, f1, f2, f3, f4, f5⟩ := hf it (by simp)
    have hl := rv.length
    exact wpAny_pyNext_list_end (I.ok.hd hc) st p.isList (by simp; omega) fun h' eb => ⟨rfl, I.turned (t' := s.toks) (fun b o hb e => eb b o hb e) f0 f1 f3 f4 f5⟩
  self := fun _ _ _ _ _ st h => wpAny_pyIter_listiter st h
end L2

namespace L2
open PySem PySem.Spec PyProof.Rows
section
variable {X : Cx} {tg : Expr}
def iList (K : PySem.W.Frag) (tl : TE) : TI := fun σ H R => tl σ H fun x H1 => ∃ a, x = .ref a ∧ (∃ xs, SqL K H1 a xs) ∧ R (Itl K a) H1
theorem pi_list {l : Expr} {tl : TE} (hl : PE X l tl) : PI X tg l (iList X.K tl) := by
  intro pins s σ H R I h
  refine thn (hl pins s σ H _ I h) fun v s1 ⟨x, H1, I1, r1, q1⟩ => ?_
  obtain ⟨a, e, ⟨xs, hq⟩, q⟩ := q1
  subst e
  cases r1
  obtain ⟨its, rv, p, hz⟩ := I1.list hq
  refine wpAny_pyIter_list p.isList ?_
  refine ⟨s1.heap.objs.size, [s1.heap.objs.size], _, _, H1, rfl, I1.kept (t' := s1.toks) fun b o e => Heap.get?_push_of_some _ e, turn_list a _, ⟨_, Heap.get?_push_size _ rfl, rfl, rfl⟩, fun b hb => ?_, q⟩
  have e : b = s1.heap.objs.size := by simpa using hb
  subst e
  exact I1.fpOk (Nat.le_refl _) (I1.hok.fresh (Nat.le_refl _))
def tFor (wi : TI) (g : TG) (tb : TS) : TS := fun D σ H => wi σ H fun J H1 => ∃ W : Nat → Nat → St → Hp → Prop, (∃ m, W 0 m σ H1) ∧ ∀ i m σ H, W i m σ H →
  (J.stop i H ∧ D.nx σ H) ∨ (J.go i H ∧ ∃ N : St → Hp → Prop, (∀ σ' H', N σ' H' → ∃ m', m' < m ∧ W (i + 1) m' σ' H') ∧ ∀ x H', J.yld i H x H' → g x σ H' fun σ2 H2 => tb { D with nx := N, ct := N, bk := D.nx } σ2 H2)
def pinsAt (fp : List Addr) (h : Heap) : List (Addr × Obj) := fp.filterMap fun b => (h.get? b).map fun o => (b, o)
theorem mem_pinsAt {fp : List Addr} {h : Heap} {b : Addr} {o : Obj} (hb : b ∈ fp) (e : h.get? b = some o) : (b, o) ∈ pinsAt fp h := List.mem_filterMap.mpr ⟨b, hb, by rw [e]; rfl⟩
theorem of_pinsAt {fp : List Addr} {h : Heap} {p : Addr × Obj} (hp : p ∈ pinsAt fp h) : p.1 ∈ fp ∧ h.get? p.1 = some p.2 := by
  obtain ⟨b, hb, e⟩ := List.mem_filterMap.mp hp
  cases q : h.get? b with
  | none => rw [q] at e; cases e
  | some o =>
    rw [q] at e
    have e' : (b, o) = p := Option.some.inj e
    subst e'
    exact ⟨hb, q⟩
theorem Inv.pinned {pins : List (Addr × Obj)} {σ : St} {H : Hp} {s : Shared} {fp : List Addr} (I : Inv X pins σ H s) (hf : ∀ b ∈ fp, FpOk X pins H b) (ho : ∀ b ∈ fp, ∃ o, s.heap.get? b = some o ∧ ∀ v, o.data ≠ .cell v) : Inv X (pins ++ pinsAt fp s.heap) σ H s :=
  I.pins_of fun p hp => (List.mem_append.mp hp).elim (fun z => I.pin p (List.mem_append_right _ z)) fun z => by
    obtain ⟨hb, e⟩ := of_pinsAt z
    obtain ⟨f0, f1, f2, _⟩ := hf p.1 hb
    obtain ⟨o, e', d⟩ := ho p.1 hb
    rw [e] at e'; cases e'
    exact ⟨e, f0, f1, f2, d⟩
theorem Inv.unpinned {pins pl : List (Addr × Obj)} {σ : St} {H : Hp} {s : Shared} (I : Inv X (pins ++ pl) σ H s) : Inv X pins σ H s := I.pins_of fun p hp => I.pin p (List.mem_append_right _ (List.mem_append_left _ hp))
theorem ps_for {iter : Expr} {body : List Stmt} {wi : TI} {g : TG} {tb : TS} {pos : Pos} (hp : PassesOwn (model X.prog X.w) X.A X.env X.xe) (hc : X.calm = true) (hi : PI X tg iter wi) (hg : PG X tg g) (hb : PSs X body tb)
    (hs : ∀ x, foldedSetIterable iter X.env x = pure x := by intro _; rfl) : PS X (.For tg iter body [] pos) (tFor wi g tb) := by
  intro pins s σ H D I h
  refine wpAny_For (thn (hi pins s σ H _ I h) fun v s1 h1 => thn h1 fun itv s2 h2 => ?_) hs
  obtain ⟨it, fp, tn, J, H2, e, I2, T, st2, f2, W, ⟨m0, w0⟩, turn⟩ := h2
  subst e
  -- what stays true of the iterator's objects through the loop
  have stat : ∀ {H' : Hp}, (∀ b ∈ fp, H' b = none) → ∀ b ∈ fp, FpOk X pins H' b := fun hn b hb => ⟨hn b hb, (f2 b hb).2⟩
  refine codeAny_forLoop_any (fun n s' => ∃ i σ' H', Inv X pins σ' H' s' ∧ tn i s'.heap ∧ (∀ b ∈ fp, H' b = none) ∧ W i n σ' H') ?_ m0 ⟨0, σ, H2, I2, st2, fun b hb => (f2 b hb).1, w0⟩
  rintro n s3 ⟨i, σ3, H3, I3, st3, fr3, w3⟩
  rcases turn i n σ3 H3 w3 with ⟨stop, qn⟩ | ⟨go, N, hN, step⟩
  · refine wpAny_passesOwn hp (thn (T.done X rfl rfl rfl hc i pins s3 σ3 H3 X.xe I3 (stat fr3) st3 stop) fun r s4 ⟨hr, I4⟩ => ?_)
    subst hr
    exact wpAny_execs_nil ⟨σ3, H3, I4, qn⟩
  · refine wpAny_passesOwn hp (thn (T.item X rfl rfl rfl hc i pins s3 σ3 H3 X.xe I3 (stat fr3) st3 go) fun r s4 ⟨u, hr, h4⟩ => ?_)
    subst hr
    refine wpAny_passesOwn hp (thn h4 fun _ s5 ⟨x, H5, I5, r5, y5, st5, fr5⟩ => ?_)
    have I5' := I5.pinned (stat fr5) (T.obj _ _ st5)
    refine wpAny_passesOwn hp (thn (hg _ s5 σ3 H5 x u _ I5' r5 (step x H5 y5)) fun _ s6 ⟨σ6, H6, I6, q6⟩ => ?_)
    refine wpAny_passesOwn hp (thn (hb _ s6 σ6 H6 _ I6 q6) fun f s7 q7 => ?_)
    have again : ∀ {σ7 : St} {H7 : Hp}, Inv X (pins ++ pinsAt fp s5.heap) σ7 H7 s7 → N σ7 H7 → ∃ m, m < n ∧ ∃ i σ' H', Inv X pins σ' H' s7 ∧ tn i s7.heap ∧ (∀ b ∈ fp, H' b = none) ∧ W i m σ' H' := fun {σ7 H7} I7 n7 => by
      obtain ⟨m', hm, w7⟩ := hN σ7 H7 n7
      refine ⟨m', hm, i + 1, σ7, H7, I7.unpinned, T.keep _ _ _ st5 fun b hb o e => (I7.pin (b, o) (List.mem_append_right _ (List.mem_append_right _ (mem_pinsAt hb e)))).1, fun b hb => ?_, w7⟩
      obtain ⟨o, e, d⟩ := T.obj _ _ st5 b hb
      exact (I7.pin (b, o) (List.mem_append_right _ (List.mem_append_right _ (mem_pinsAt hb e)))).2.1
    cases f with
    | next => obtain ⟨σ7, H7, I7, n7⟩ := q7; exact again I7 n7
    | cont => obtain ⟨σ7, H7, I7, n7⟩ := q7; exact again I7 n7
    | brk => obtain ⟨σ7, H7, I7, q7⟩ := q7; exact ⟨σ7, H7, I7.unpinned, q7⟩
    | ret v => obtain ⟨x7, σ7, H7, I7, r7, q7⟩ := q7; exact ⟨x7, σ7, H7, I7.unpinned, r7, q7⟩
end

theorem for_list {K : PySem.W.Frag} {a : Addr} {xs : List V} {g : TG} {tb : TS} {D : Ends} {σ : St} {H : Hp} (Pv : Nat → St → Hp → Prop) (h0 : Pv 0 σ H) (hl : ∀ i σ H, i ≤ xs.length → Pv i σ H → SqL K H a xs)
    (hs : ∀ i x σ H, xs[i]? = some x → Pv i σ H → g x σ H fun σ2 H2 => tb { D with nx := Pv (i + 1), ct := Pv (i + 1), bk := D.nx } σ2 H2) (hd : ∀ σ H, Pv xs.length σ H → D.nx σ H) :
    ∃ W : Nat → Nat → St → Hp → Prop, (∃ m, W 0 m σ H) ∧ ∀ i m σ H, W i m σ H →
      ((Itl K a).stop i H ∧ D.nx σ H) ∨ ((Itl K a).go i H ∧ ∃ N : St → Hp → Prop, (∀ σ' H', N σ' H' → ∃ m', m' < m ∧ W (i + 1) m' σ' H') ∧ ∀ x H', (Itl K a).yld i H x H' → g x σ H' fun σ2 H2 => tb { D with nx := N, ct := N, bk := D.nx } σ2 H2) := by
  refine ⟨fun i m σ H => m = xs.length - i ∧ i ≤ xs.length ∧ Pv i σ H, ⟨xs.length, by simp, Nat.zero_le _, h0⟩, ?_⟩
  rintro i m σ H ⟨rfl, hi, p⟩
  have q := hl i σ H hi p
  by_cases hlt : i < xs.length
  · refine .inr ⟨⟨xs, xs[i], q, by simp [hlt]⟩, Pv (i + 1), fun σ' H' p' => ⟨xs.length - (i + 1), by omega, rfl, hlt, p'⟩, fun x H' y => ?_⟩
    obtain ⟨e, y⟩ := y
    subst e
    exact hs i x σ _ (y xs q) p
  · have e : i = xs.length := by omega
    subst e
    exact .inl ⟨⟨xs, q, Nat.le_refl _⟩, hd σ H p⟩
theorem while_by {c : TT} {tb : TS} {D : Ends} {σ : St} {H : Hp} (Pv : St → Hp → Prop) (μ : St → Hp → Nat) (h0 : Pv σ H)
    (hs : ∀ σ H, Pv σ H → c σ H fun b H1 => if b = true then tb { D with nx := fun σ' H' => Pv σ' H' ∧ μ σ' H' < μ σ H, ct := fun σ' H' => Pv σ' H' ∧ μ σ' H' < μ σ H, bk := D.nx } σ H1 else D.nx σ H1)
    (mono : ∀ σ H Q Q', (∀ b H1, Q b H1 → Q' b H1) → c σ H Q → c σ H Q') : tWhile c tb D σ H := by
  refine ⟨fun m σ H => m = μ σ H ∧ Pv σ H, ⟨_, rfl, h0⟩, ?_⟩
  rintro m σ H ⟨rfl, p⟩
  refine mono σ H _ _ (fun b H1 q => ?_) (hs σ H p)
  cases b with
  | true => exact ⟨_, fun σ' H' ⟨p', l⟩ => ⟨_, l, rfl, p'⟩, q⟩
  | false => exact q
end L2

namespace L2
open PySem PySem.Spec PyProof.Rows

abbrev R2 := V → V → Hp → VK → Prop
def OpR (X : Cx) (f : Value → Value → Sem Value) (r : R2) : Prop :=
  ∀ (pins : List (Addr × Obj)) (s : Shared) (σ : St) (H : Hp) (x y : V) (v u : Value) (Q : VK), Inv X pins σ H s → RelV x v → RelV y u → r x y H Q →
    wpAny (model X.prog X.w) X.A (f v u) (EP X pins σ Q) X.xe s
def UnR (X : Cx) (f : Value → Sem Value) (r : V → Hp → VK → Prop) : Prop :=
  ∀ (pins : List (Addr × Obj)) (s : Shared) (σ : St) (H : Hp) (x : V) (v : Value) (Q : VK), Inv X pins σ H s → RelV x v → r x H Q →
    wpAny (model X.prog X.w) X.A (f v) (EP X pins σ Q) X.xe s
def CallR (X : Cx) (f : Value) (r : List V → Hp → VK → Prop) : Prop :=
  ∀ (pins : List (Addr × Obj)) (s : Shared) (σ : St) (H : Hp) (xs : List V) (us : List Value) (Q : VK), Inv X pins σ H s → Vals xs us → r xs H Q →
    wpAny (model X.prog X.w) X.A (call f us) (EP X pins σ Q) X.xe s
def tOp (r : R2) (ta tb : TE) : TE := fun σ H Q => ta σ H fun x H1 => tb σ H1 fun y H2 => r x y H2 Q
def tUn (r : V → Hp → VK → Prop) (ta : TE) : TE := fun σ H Q => ta σ H fun x H1 => r x H1 Q
def rI (C : Int → Int → Prop) (g : Int → Int → V) : R2 := fun x y H Q => ∃ i j, x = .int i ∧ y = .int j ∧ C i j ∧ Q (g i j) H
def rI0 (g : Int → Int → V) : R2 := fun x y H Q => ∃ i j, x = .int i ∧ y = .int j ∧ Q (g i j) H
def rU (g : Int → V) : V → Hp → VK → Prop := fun x H Q => ∃ i, x = .int i ∧ Q (g i) H

section
variable {X : Cx} {a b c : Expr} {ta tb tc : TE} {pos : Pos}

theorem binT (ha : PE X a ta) (hb : PE X b tb) {pins : List (Addr × Obj)} {s : Shared} {σ : St} {H : Hp} {R : V → V → Hp → Prop} (I : Inv X pins σ H s)
    (h : ta σ H fun x H1 => tb σ H1 fun y H2 => R x y H2) {Q : Value → Shared → Prop} {f : Value → Value → Sem Value}
    (hf : ∀ v u s2 x y H2, Inv X pins σ H2 s2 → RelV x v → RelV y u → R x y H2 → wpAny (model X.prog X.w) X.A (f v u) Q X.xe s2) :
    wpAny (model X.prog X.w) X.A (eval a X.env) (fun v s₁ => wpAny (model X.prog X.w) X.A (eval b X.env) (fun u s₂ => wpAny (model X.prog X.w) X.A (f v u) Q X.xe s₂) X.xe s₁) X.xe s := by
  refine thn (ha pins s σ H _ I h) fun v s1 ⟨x, H1, I1, r1, q1⟩ => ?_
  refine thn (hb pins s1 σ H1 _ I1 q1) fun u s2 ⟨y, H2, I2, r2, q2⟩ => ?_
  exact hf v u s2 x y H2 I2 r1 r2 q2

theorem pe_op {op : Operator} {r : R2} (ho : OpR X (binaryOp op) r) (ha : PE X a ta) (hb : PE X b tb) : PE X (.BinOp a op b pos) (tOp r ta tb) := by
  intro pins s σ H Q I h
  exact wpAny_BinOp (binT ha hb I h fun v u s2 x y H2 I2 rx ry q => ho pins s2 σ H2 x y v u Q I2 rx ry q)
theorem pe_un {op : UnaryOp} {r : V → Hp → VK → Prop} (ho : UnR X (unaryOp op) r) (ha : PE X a ta) : PE X (.UnaryOp op a pos) (tUn r ta) := by
  intro pins s σ H Q I h
  exact UnaryOp_ (thn (ha pins s σ H _ I h) fun v s1 ⟨x, H1, I1, r1, q1⟩ => ho pins s1 σ H1 x v Q I1 r1 q1)
theorem opI {f : Value → Value → Sem Value} {C : Int → Int → Prop} {g : Int → Int → Int}
    (rule : ∀ (i j : Int) (t u : Tok) (s : Shared) (Q : Value → Shared → Prop) (E : Value → Shared → Prop), C i j → Q (.int (g i j) s.toks) { s with toks := s.toks + 1 } → wpAny (model X.prog X.w) X.A (f (.int i t) (.int j u)) Q E s) :
    OpR X f (rI C fun i j => .int (g i j)) := by
  intro pins s σ H x y v u Q I rx ry h
  obtain ⟨i, j, rfl, rfl, hc, q⟩ := h
  obtain ⟨t, rfl⟩ := rx
  obtain ⟨t', rfl⟩ := ry
  exact rule i j t t' s _ _ hc ⟨.int (g i j), H, I.tok _, ⟨_, rfl⟩, q⟩
theorem opI0 {f : Value → Value → Sem Value} {g : Int → Int → Int}
    (rule : ∀ (i j : Int) (t u : Tok) (s : Shared) (Q : Value → Shared → Prop) (E : Value → Shared → Prop), Q (.int (g i j) s.toks) { s with toks := s.toks + 1 } → wpAny (model X.prog X.w) X.A (f (.int i t) (.int j u)) Q E s) :
    OpR X f (rI0 fun i j => .int (g i j)) := by
  intro pins s σ H x y v u Q I rx ry h
  obtain ⟨i, j, rfl, rfl, q⟩ := h
  obtain ⟨t, rfl⟩ := rx
  obtain ⟨t', rfl⟩ := ry
  exact rule i j t t' s _ _ ⟨.int (g i j), H, I.tok _, ⟨_, rfl⟩, q⟩
theorem opB0 {f : Value → Value → Sem Value} {g : Int → Int → Bool}
    (rule : ∀ (i j : Int) (t u : Tok) (s : Shared) (Q : Value → Shared → Prop) (E : Value → Shared → Prop), Q (.bool (g i j)) s → wpAny (model X.prog X.w) X.A (f (.int i t) (.int j u)) Q E s) :
    OpR X f (rI0 fun i j => .bl (g i j)) := by
  intro pins s σ H x y v u Q I rx ry h
  obtain ⟨i, j, rfl, rfl, q⟩ := h
  obtain ⟨t, rfl⟩ := rx
  obtain ⟨t', rfl⟩ := ry
  exact rule i j t t' s _ _ ⟨.bl (g i j), H, I, rfl, q⟩

def CMul (i j : Int) : Prop := (-(2 ^ 64) < i ∧ i < 2 ^ 64) ∨ (-(2 ^ 64) < j ∧ j < 2 ^ 64)
theorem CMul.ok {i j : Int} (h : CMul i j) : IntMulOk i j := by
  rcases h with ⟨h1, h2⟩ | ⟨h1, h2⟩
  · exact .of_left (intBits_le_64 h1 h2)
  · exact .of_right (intBits_le_64 h1 h2)
theorem op_add : OpR X (binaryOp .Add) (rI0 fun i j => .int (i + j)) := opI0 fun _ _ _ _ _ _ _ q => add_int q
theorem op_mod : OpR X (binaryOp .Mod) (rI (fun _ j => 0 < j) fun i j => .int (i % j)) := opI fun i j _ _ _ _ _ hc q => by
  have h1 : (0 : Int) < j := hc
  exact mod_int' (by omega) (by rw [Int.fmod_eq_emod_of_nonneg i (by omega)]; exact q)
theorem unI {f : Value → Sem Value} {g : Int → Int}
    (rule : ∀ (i : Int) (t : Tok) (s : Shared) (Q : Value → Shared → Prop) (E : Value → Shared → Prop), Q (.int (g i) s.toks) { s with toks := s.toks + 1 } → wpAny (model X.prog X.w) X.A (f (.int i t)) Q E s) :
    UnR X f (rU fun i => .int (g i)) := by
  intro pins s σ H x v Q I rx h
  obtain ⟨i, rfl, q⟩ := h
  obtain ⟨t, rfl⟩ := rx
  exact rule i t s _ _ ⟨.int (g i), H, I.tok _, ⟨_, rfl⟩, q⟩
theorem un_neg : UnR X (unaryOp .USub) (rU fun i => .int (-i)) := unI fun _ _ _ _ _ q => neg_int q
end

def scal : V → V → Bool
  | .non, .non => true | .non, .int _ => true | .int _, .non => true | .non, .bl _ => true | .bl _, .non => true | .non, .str _ => true | .str _, .non => true
  | .int _, .int _ => true | .bl _, .bl _ => true | .str _, .str _ => true | .byt _, .byt _ => true
  | .int _, .str _ => true | .str _, .int _ => true | .bl _, .str _ => true | .str _, .bl _ => true
  | _, _ => false
def rEq : R2 := fun x y H Q => scal x y = true ∧ Q (.bl (decide (x = y))) H
def rNe : R2 := fun x y H Q => scal x y = true ∧ Q (.bl (!decide (x = y))) H

theorem dec_int {i j : Int} : decide (V.int i = V.int j) = (i == j) := by
  rw [Bool.eq_iff_iff]
  simp
theorem dec_bl {i j : Bool} : decide (V.bl i = V.bl j) = (i == j) := by
  rw [Bool.eq_iff_iff]
  simp
theorem dec_str {i j : Str} : decide (V.str i = V.str j) = (i == j) := by
  rw [Bool.eq_iff_iff]
  simp
theorem dec_byt {i j : Array UInt8} : decide (V.byt i = V.byt j) = (i.toList == j.toList) := by
  rw [Bool.eq_iff_iff]
  cases i
  cases j
  simp

section
variable {X : Cx} {a b c : Expr} {ta tb tc : TE} {pos : Pos}
theorem fin_bl {pins : List (Addr × Obj)} {σ : St} {H : Hp} {s : Shared} {Q : VK} {k k' : Bool} (I : Inv X pins σ H s) (q : Q (.bl k) H) (e : k = k') : EP X pins σ Q (.bool k') s := by
  subst e
  exact ⟨.bl k, H, I, rfl, q⟩
theorem op_eq : OpR X (compareOp .Eq) rEq := by
  intro pins s σ H x y v u Q I rx ry h
  obtain ⟨hs, q⟩ := h
  cases x with
  | non =>
    cases rx
    cases y with
    | non => cases ry; exact PySem.EqNone.eq_none_none (fin_bl I q (by simp))
    | bl j => cases ry; exact PySem.EqNone.eq_none_bool (fin_bl I q (by simp))
    | int j => obtain ⟨t', rfl⟩ := ry; exact PySem.EqNone.eq_none_int (fin_bl I q (by simp))
    | str j => obtain ⟨t', rfl⟩ := ry; exact PySem.EqNone.eq_none_str (fin_bl I q (by simp))
    | _ => exact absurd (show false = true from hs) Bool.false_ne_true
  | bl i =>
    cases rx
    cases y with
    | non => cases ry; exact PySem.EqNone.eq_bool_none (fin_bl I q (by simp))
    | bl j => cases ry; exact eq_bool (fin_bl I q dec_bl)
    | str j => obtain ⟨t', rfl⟩ := ry; exact PySem.EqMixed.eq_bool_str (fin_bl I q (by simp))
    | _ => exact absurd (show false = true from hs) Bool.false_ne_true
  | int i =>
    obtain ⟨t, rfl⟩ := rx
    cases y with
    | non => cases ry; exact PySem.EqNone.eq_int_none (fin_bl I q (by simp))
    | int j => obtain ⟨t', rfl⟩ := ry; exact eq_int (fin_bl I q dec_int)
    | str j => obtain ⟨t', rfl⟩ := ry; exact PySem.EqMixed.eq_int_str (fin_bl I q (by simp))
    | _ => exact absurd (show false = true from hs) Bool.false_ne_true
  | str i =>
    obtain ⟨t, rfl⟩ := rx
    cases y with
    | non => cases ry; exact PySem.EqNone.eq_str_none (fin_bl I q (by simp))
    | bl j => cases ry; exact PySem.EqMixed.eq_str_bool (fin_bl I q (by simp))
    | int j => obtain ⟨t', rfl⟩ := ry; exact PySem.EqMixed.eq_str_int (fin_bl I q (by simp))
    | str j => obtain ⟨t', rfl⟩ := ry; exact eq_str (fin_bl I q dec_str)
    | _ => exact absurd (show false = true from hs) Bool.false_ne_true
  | byt i =>
    obtain ⟨t, rfl⟩ := rx
    cases y with
    | byt j => obtain ⟨t', rfl⟩ := ry; exact PySem.W.eq_bytes (fin_bl I q dec_byt)
    | _ => exact absurd (show false = true from hs) Bool.false_ne_true
  | _ => cases y <;> exact absurd (show false = true from hs) Bool.false_ne_true
theorem op_ne : OpR X (compareOp .NotEq) rNe := by
  intro pins s σ H x y v u Q I rx ry h
  obtain ⟨hs, q⟩ := h
  cases x with
  | non =>
    cases rx
    cases y with
    | non => cases ry; exact PySem.EqNone.ne_none_none (fin_bl I q (by simp))
    | bl j => cases ry; exact PySem.EqNone.ne_none_bool (fin_bl I q (by simp))
    | int j => obtain ⟨t', rfl⟩ := ry; exact PySem.EqNone.ne_none_int (fin_bl I q (by simp))
    | str j => obtain ⟨t', rfl⟩ := ry; exact PySem.EqNone.ne_none_str (fin_bl I q (by simp))
    | _ => exact absurd (show false = true from hs) Bool.false_ne_true
  | bl i =>
    cases rx
    cases y with
    | non => cases ry; exact PySem.EqNone.ne_bool_none (fin_bl I q (by simp))
    | bl j => cases ry; exact ne_bool (fin_bl I q (congrArg not dec_bl))
    | str j => obtain ⟨t', rfl⟩ := ry; exact PySem.EqMixed.ne_bool_str (fin_bl I q (by simp))
    | _ => exact absurd (show false = true from hs) Bool.false_ne_true
  | int i =>
    obtain ⟨t, rfl⟩ := rx
    cases y with
    | non => cases ry; exact PySem.EqNone.ne_int_none (fin_bl I q (by simp))
    | int j => obtain ⟨t', rfl⟩ := ry; exact ne_int (fin_bl I q (congrArg not dec_int))
    | str j => obtain ⟨t', rfl⟩ := ry; exact PySem.EqMixed.ne_int_str (fin_bl I q (by simp))
    | _ => exact absurd (show false = true from hs) Bool.false_ne_true
  | str i =>
    obtain ⟨t, rfl⟩ := rx
    cases y with
    | non => cases ry; exact PySem.EqNone.ne_str_none (fin_bl I q (by simp))
    | bl j => cases ry; exact PySem.EqMixed.ne_str_bool (fin_bl I q (by simp))
    | int j => obtain ⟨t', rfl⟩ := ry; exact PySem.EqMixed.ne_str_int (fin_bl I q (by simp))
    | str j => obtain ⟨t', rfl⟩ := ry; exact ne_str (fin_bl I q (congrArg not dec_str))
    | _ => exact absurd (show false = true from hs) Bool.false_ne_true
  | byt i =>
    obtain ⟨t, rfl⟩ := rx
    cases y with
    | byt j => obtain ⟨t', rfl⟩ := ry; exact PySem.W.ne_bytes (fin_bl I q (congrArg not dec_byt))
    | _ => exact absurd (show false = true from hs) Bool.false_ne_true
  | _ => cases y <;> exact absurd (show false = true from hs) Bool.false_ne_true

theorem op_lt : OpR X (compareOp .Lt) (rI0 fun i j => .bl (decide (i < j))) := opB0 fun _ _ _ _ _ _ _ q => lt_int q
theorem op_le : OpR X (compareOp .LtE) (rI0 fun i j => .bl (decide (i ≤ j))) := opB0 fun _ _ _ _ _ _ _ q => le_int q
theorem op_gt : OpR X (compareOp .Gt) (rI0 fun i j => .bl (decide (j < i))) := opB0 fun _ _ _ _ _ _ _ q => gt_int q
theorem op_ge : OpR X (compareOp .GtE) (rI0 fun i j => .bl (decide (j ≤ i))) := opB0 fun _ _ _ _ _ _ _ q => ge_int q
theorem nomark (b : Expr) {op : CmpOp} (h : op ≠ .In := by decide) (h2 : op ≠ .NotIn := by decide) : behindInMarks op b = false := by
  have e1 : (op == CmpOp.In) = false := by cases op <;> first | rfl | exact absurd rfl h
  have e2 : (op == CmpOp.NotIn) = false := by cases op <;> first | rfl | exact absurd rfl h2
  cases b <;> simp [behindInMarks, e1, e2]
theorem pe_cmpR {op : CmpOp} {r : R2} (ho : OpR X (compareOp op) r) (ha : PE X a ta) (hb : PE X b tb) (hm : behindInMarks op b = false) : PE X (.Compare a [op] [b] pos) (tOp r ta tb) := by
  intro pins s σ H Q I h
  exact wpAny_Compare1 (binT ha hb I h fun v u s2 x y H2 I2 rx ry q => ho pins s2 σ H2 x y v u Q I2 rx ry q) hm
def tTest (t : TE) : TT := fun σ H Q => t σ H fun x H' => ∃ k, x = .bl k ∧ Q k H'
theorem pt_cmpR {op : CmpOp} {r : R2} (ho : OpR X (compareOp op) r) (ha : PE X a ta) (hb : PE X b tb) (hm : behindInMarks op b = false) : PT X (.Compare a [op] [b] pos) (tTest (tOp r ta tb)) := by
  intro pins s σ H Q I h
  refine wpAny_isTrue_Compare1 (thn (ha pins s σ H _ I h) fun v s1 ⟨x, H1, I1, r1, q1⟩ => thn (hb pins s1 σ H1 _ I1 q1) fun u s2 ⟨y, H2, I2, r2, q2⟩ =>
    thn (ho pins s2 σ H2 x y v u _ I2 r1 r2 q2) fun c s3 ⟨z, H3, I3, r3, k, e, q3⟩ => ?_) hm
  subst e
  cases r3
  exact wpAny_truthy_bool ⟨H3, I3, q3⟩
def tChain (r r' : R2) (ta tb tc : TE) : TE := fun σ H Q => ta σ H fun x H1 => tb σ H1 fun y H2 => r x y H2 fun z H3 => ∃ k, z = .bl k ∧
  (if k = true then tc σ H3 fun w' H4 => r' y w' H4 Q else Q (.bl false) H3)
theorem pe_chain {op op' : CmpOp} {r r' : R2} (ho : OpR X (compareOp op) r) (ho' : OpR X (compareOp op') r') (ha : PE X a ta) (hb : PE X b tb) (hc : PE X c tc)
    (hm : lastMarks [op, op'] [b, c] = false := by with_unfolding_all rfl) : PE X (.Compare a [op, op'] [b, c] pos) (tChain r r' ta tb tc) := by
  intro pins s σ H Q I h
  refine Compare_chain (thn (ha pins s σ H _ I h) fun v s1 ⟨x, H1, I1, r1, q1⟩ => chain_link (thn (hb pins s1 σ H1 _ I1 q1) fun u s2 ⟨y, H2, I2, r2, q2⟩ =>
    thn (ho pins s2 σ H2 x y v u _ I2 r1 r2 q2) fun d s3 ⟨z, H3, I3, r3, k, e, q3⟩ => ?_)) hm
  subst e
  cases r3
  refine wpAny_truthy_bool ?_
  cases k with
  | false => exact ite_ff ⟨.bl false, H3, I3, rfl, q3⟩
  | true => exact ite_tt (chain_last (thn (hc pins s3 σ H3 _ I3 q3) fun w' s4 ⟨z', H4, I4, r4, q4⟩ => ho' pins s4 σ H4 y z' u w' Q I4 r2 r4 q4))
theorem pt_chain {op op' : CmpOp} {r r' : R2} (ho : OpR X (compareOp op) r) (ho' : OpR X (compareOp op') r') (ha : PE X a ta) (hb : PE X b tb) (hc : PE X c tc)
    (hm : lastMarks [op, op'] [b, c] = false := by with_unfolding_all rfl) : PT X (.Compare a [op, op'] [b, c] pos) (tTest (tChain r r' ta tb tc)) := by
  intro pins s σ H Q I h
  refine isTrue_chain (thn (ha pins s σ H _ I h) fun v s1 ⟨x, H1, I1, r1, q1⟩ => test_link (thn (hb pins s1 σ H1 _ I1 q1) fun u s2 ⟨y, H2, I2, r2, q2⟩ =>
    thn (ho pins s2 σ H2 x y v u _ I2 r1 r2 q2) fun d s3 ⟨z, H3, I3, r3, k, e, q3⟩ => ?_)) hm
  subst e
  cases r3
  refine wpAny_truthy_bool ?_
  cases k with
  | false =>
    obtain ⟨k', e', q'⟩ := q3
    cases e'
    exact ite_ff ⟨H3, I3, q'⟩
  | true =>
    refine ite_tt (test_last (thn (hc pins s3 σ H3 _ I3 q3) fun w' s4 ⟨z', H4, I4, r4, q4⟩ => thn (ho' pins s4 σ H4 y z' u w' _ I4 r2 r4 q4) fun d' s5 ⟨z2, H5, I5, r5, k2, e2, q5⟩ => ?_))
    subst e2
    cases r5
    exact wpAny_truthy_bool ⟨H5, I5, q5⟩

theorem line63 : (sizeLine : Nat) < 2 ^ 63 := by rw [sizeLine_eq]; decide
theorem vals1 {x : V} {us : List Value} (r : Vals [x] us) : ∃ u, us = [u] ∧ RelV x u := by
  cases r with
  | cons r1 r2 => cases r2; exact ⟨_, rfl, r1⟩
theorem vals2 {x y : V} {us : List Value} (r : Vals [x, y] us) : ∃ u w', us = [u, w'] ∧ RelV x u ∧ RelV y w' := by
  cases r with
  | cons r1 r2 =>
    cases r2 with
    | cons r3 r4 => cases r4; exact ⟨_, _, rfl, r1, r3⟩
theorem call_ord : CallR X (.builtin "ord") (fun xs H Q => ∃ x, xs = [.str x] ∧ x.length = 1 ∧ Q (.int (x.cps.getD 0 0 : Nat)) H) := by
  intro pins s σ H xs us Q I r h
  obtain ⟨x, rfl, hz, q⟩ := h
  obtain ⟨u, rfl, t, rfl⟩ := vals1 r
  exact ord_of_one hz ⟨.int _, H, I.tok _, ⟨_, rfl⟩, q⟩
end
end L2

namespace L2
open PySem PySem.Spec PyProof.Rows

structure ObjM (h : Heap) (x dx C : Addr) (mA : Str → Option Value) : Prop where
  obj : h.get? x = some (PySem.W.instObj C dx)
  ns : h.Ns1 dx mA
  ne : dx ≠ x

theorem lookIn_ns {h : Heap} {dx : Addr} {mA : Str → Option Value} (n : h.Ns1 dx mA) : ∃ od, h.get? dx = some od ∧ ∀ name, PySem.W.lookIn name od = some (mA name) := by
  obtain ⟨o, es, ep, ho, hd, hk, _, hm⟩ := n
  refine ⟨o, ho, fun name => ?_⟩
  have e := hm name
  unfold nsFind findBy at e
  rw [← Array.find?_toList] at e
  unfold PySem.W.lookIn
  rw [hd]
  dsimp only
  split
  · rename_i y q
    rw [q] at e
    exact congrArg some e
  · rename_i q
    rw [q] at e
    have a : es.toList.any (·.refKey) = false := by
      rw [List.any_eq_false]
      intro y hy
      obtain ⟨z, t, hkey⟩ := hk y (Array.mem_toList_iff.mp hy)
      simp [DictEntry.refKey, hkey]
    have a' : ¬ es.toList.any (·.refKey) = true := by rw [a]; exact Bool.false_ne_true
    rw [if_neg a']
    exact congrArg some e

theorem ObjM.look {h : Heap} {x dx C : Addr} {mA : Str → Option Value} (I : ObjM h x dx C mA) : ∃ od, PySem.W.InstAt h x (PySem.W.instObj C dx) C (some od) ∧ ∀ name, PySem.W.lookIn name od = some (mA name) :=
  let ⟨od, ho, hl⟩ := lookIn_ns I.ns
  ⟨od, ⟨I.obj, rfl, rfl, ho⟩, hl⟩

section
variable {prog : Program} {w : World} {A : Around} {E : Value → Shared → Prop} {s : Shared} {K : PySem.W.Frag} {x dx C f : Addr} {mA : Str → Option Value} {name : Str} {v : Value}

theorem get_map {expr : Bool} {Q : Value → Shared → Prop} (X : K.In s.heap) (I : ObjM s.heap x dx C mA) (hg : PySem.W.plainGet K C name = true) (hh : PySem.W.hasDictIn K C = true)
    (ha : PySem.W.findIn K (.ref C) name = some none) (hv : mA name = some v) (hv' : PySem.W.handedIn v = true) (h : Q v { s with toks := s.toks + 1 }) :
    wpAny (model prog w) A (getAttr (.ref x) name expr) Q E s := by
  obtain ⟨od, J, hl⟩ := I.look
  exact PySem.W.get_value X J (PySem.W.plainGet_of hg).1 (PySem.W.findObj_own hh ha rfl (by rw [hl, hv])) hv' h

theorem get_meth {pl : Sem Bool} {Q : Value × List Value → Shared → Prop} (X : K.In s.heap) (I : ObjM s.heap x dx C mA) (hg : PySem.W.plainGet K C name = true)
    (hf : PySem.W.findIn K (.ref C) name = some (some (.ref f))) (ht : PySem.W.isFn K (.ref f) = true) (hv : mA name = none) (h : Q (.ref f, [.ref x]) s) :
    wpAny (model prog w) A (getMethod (.ref x) name pl) Q E s := by
  obtain ⟨od, J, hl⟩ := I.look
  exact PySem.W.method_fn X J (PySem.W.plainGet_of hg).1 (PySem.W.plainGet_of hg).2 hf (beq_iff_eq.mp ht) (by show (PySem.W.lookIn name od).map (·.isSome) = some false; rw [hl, hv]; rfl) h

theorem set_map {ns : List Str} {Q : Unit → Shared → Prop} (X : K.In s.heap) (I : ObjM s.heap x dx C mA)
    (hs : PySem.W.findIn K (.ref C) "__setattr__" = some (some (.builtin "object.__setattr__"))) (hp : PySem.W.plainOver K C = true) (ht : PySem.W.takerIn K C name = some none) (hh : PySem.W.hasDictIn K C = true)
    (hw : PySem.Within mA ns) (hsz : ns.length ≤ sizeLine)
    (h : ∀ h', ObjM h' x dx C (fun y => if y = name then some v else mA y) → Heap.SameBut dx s.heap h' → Q () { s with heap := h', toks := s.toks + 2 }) :
    wpAny (model prog w) A (setAttr (.ref x) name v) Q E s := by
  obtain ⟨od, J, hl⟩ := I.look
  refine PySem.W.set_plain X J hs (PySem.W.osa_open (s := { s with toks := s.toks + 1 }) (r := none) X J hp ht fun b => ?_)
  obtain ⟨cd, hc, hd'⟩ := PySem.W.any_some hh
  have hx : s.heap.get? x = some ⟨.ref C, some dx, .plain, #[]⟩ := I.obj
  refine wpAny_bind (wpAny_pure (wpAny_bind (wpAny_bind (wpAny_loadPart hx (wpAny_bind (PySem.W.Looks.here (s := { s with toks := s.toks + 1 }) (PySem.W.looks_clsIn X hc) ?_))))))
  rw [hd']
  refine wpAny_pure (a := some dx) (wpAny_bind (wpAny_pure (wpAny_bind ?_)))
  refine wpAny_nsSet1 (s := { s with toks := s.toks + 1 }) I.ns fun h' hn2 hs2 => ?_
  obtain ⟨oD, esD, epD, hoD, hdD, hcD⟩ := hn2.count (PySem.Within.cons name v hw)
  refine wpAny_bind (wpAny_lookBehind hoD (by rw [hdD]; exact pastItsLine_dict (Nat.le_trans hcD (by rw [List.length_cons]; omega))) ?_)
  exact wpAny_pure (h _ ⟨(hs2.2 _ (Ne.symm I.ne)).trans I.obj, hn2, I.ne⟩ hs2)

theorem make_map {R : Result → Shared → Prop} {vs : List Value} {kw : List (Str × Value)} (X : K.In s.heap) (hm : PySem.W.makesIn K C = true)
    (hi : PySem.W.findIn K (.ref C) "__init__" = some (some (.ref f))) (hf : PySem.W.typeIn K (.ref f) = some (.type "function"))
    (h : codeAny (model prog w) (A.under (.builtin "type.__call__" ⟨.ref C :: vs, kw⟩)) (.call (.ref f) ⟨.ref (s.heap.objs.size + 1) :: vs, kw⟩) (PySem.W.InitBack (s.heap.objs.size + 1) R)
      { s with heap := (s.heap.push PySem.W.emptyDict).push (PySem.W.instObj C s.heap.objs.size) }) :
    codeAny (model prog w) A (.call (.ref C) ⟨vs, kw⟩) R s := by
  obtain ⟨hh, g, d, t, os⟩ := s
  exact PySem.W.make_core (PySem.W.makes_of X hm) (PySem.W.looks_findIn X hi) (fun self => PySem.W.bind_fn X self hf) (.inl rfl) h
end

def putF (f : Str) (v : V) : List (Str × V) → List (Str × V)
  | [] => [(f, v)]
  | (g, x) :: r => if g = f then (g, v) :: r else (g, x) :: putF f v r
theorem lookup_putF (f g : Str) (v : V) : ∀ fs : List (Str × V), (putF f v fs).lookup g = if g = f then some v else fs.lookup g
  | [] => by
    show List.lookup g [(f, v)] = _
    by_cases h : g = f
    · have hb : (g == f) = true := beq_iff_eq.mpr h
      simp only [List.lookup, hb, if_pos h]
    · have hb : (g == f) = false := beq_eq_false_iff_ne.mpr h
      simp only [List.lookup, hb, if_neg h]
  | (k, x) :: r => by
    have ih := lookup_putF f g v r
    rw [show putF f v ((k, x) :: r) = (if k = f then (k, v) :: r else (k, x) :: putF f v r) from rfl]
    by_cases hk : k = f
    · rw [if_pos hk]
      by_cases h : g = k
      · have hb : (g == k) = true := beq_iff_eq.mpr h
        simp only [List.lookup, hb, if_pos (h.trans hk)]
      · have hb : (g == k) = false := beq_eq_false_iff_ne.mpr h
        simp only [List.lookup, hb, if_neg (fun e : g = f => h (e.trans hk.symm))]
    · rw [if_neg hk]
      by_cases h : g = k
      · have hb : (g == k) = true := beq_iff_eq.mpr h
        simp only [List.lookup, hb, if_neg (fun e : g = f => hk (h.symm.trans e))]
      · have hb : (g == k) = false := beq_eq_false_iff_ne.mpr h
        simp only [List.lookup, hb]
        exact ih
theorem keys_putF (f : Str) (v : V) : ∀ fs : List (Str × V), f ∈ (putF f v fs).map (·.1) ∧ ∀ g, g ∈ fs.map (·.1) → g ∈ (putF f v fs).map (·.1)
  | [] => ⟨by simp [putF], fun g h => by simp at h⟩
  | (k, x) :: r => by
    obtain ⟨i1, i2⟩ := keys_putF f v r
    rw [show putF f v ((k, x) :: r) = (if k = f then (k, v) :: r else (k, x) :: putF f v r) from rfl]
    by_cases hk : k = f
    · rw [if_pos hk]
      subst hk
      exact ⟨by simp, fun g h => by simpa using h⟩
    · rw [if_neg hk]
      refine ⟨?_, fun g h => ?_⟩
      · rw [List.map_cons]
        exact List.mem_cons_of_mem _ i1
      · rw [List.map_cons] at h ⊢
        rcases List.mem_cons.mp h with e | e
        · exact List.mem_cons.mpr (.inl e)
        · exact List.mem_cons_of_mem _ (i2 g e)
theorem length_putF (f : Str) (v : V) : ∀ fs : List (Str × V), (putF f v fs).length ≤ fs.length + 1
  | [] => by simp [putF]
  | (k, x) :: r => by
    have ih := length_putF f v r
    rw [show putF f v ((k, x) :: r) = (if k = f then (k, v) :: r else (k, x) :: putF f v r) from rfl]
    by_cases hk : k = f
    · rw [if_pos hk, List.length_cons, List.length_cons]; omega
    · rw [if_neg hk, List.length_cons, List.length_cons]; omega

theorem RelO.some_of {v : V} {o : Option Value} (r : RelO (some v) o) : ∃ u, o = some u ∧ RelV v u := by
  cases o with
  | none => exact (show False from r).elim
  | some u => exact ⟨u, rfl, r⟩
theorem RelO.none_of {o : Option Value} (r : RelO none o) : o = none := by
  cases o with
  | none => rfl
  | some u => exact (show False from r).elim
theorem handed_of {v : V} {u : Value} (r : RelV v u) : PySem.W.handedIn u = true := by
  cases v with
  | non => cases (show u = Value.none from r); rfl
  | bl b => cases (show u = Value.bool b from r); rfl
  | int i => obtain ⟨t, e⟩ := (show ∃ t, u = Value.int i t from r); cases e; rfl
  | str x => obtain ⟨t, e⟩ := (show ∃ t, u = Value.str x t from r); cases e; rfl
  | byt b => obtain ⟨t, e⟩ := (show ∃ t, u = Value.bytes b t from r); cases e; rfl
  | flt b => obtain ⟨t, e⟩ := (show ∃ t, u = Value.float b t from r); cases e; rfl
  | ref a => cases (show u = Value.ref a from r); rfl
  | ty n => cases (show u = Value.type n from r); rfl

section
variable {P : Program} {w : World} {H H' : Hp} {h h' : Heap} {a C dx : Addr} {fs fs' : List (Str × V)}
theorem ins_get (hok : HOk P w H h) (e : H a = some (.ins C dx fs)) : ∃ mA, ObjM h a dx C mA ∧ (∀ f, RelO (fs.lookup f) (mA f)) ∧ PySem.Within mA (fs.map (·.1)) ∧ fs.length ≤ 1000 ∧ H dx = some (.own a) := by
  obtain ⟨d, z, ne, ob, mA, n, r, q⟩ := (show ObjOk P w H h a (.ins C dx fs) from hok a _ e)
  exact ⟨mA, ⟨ob, n, ne⟩, r, q, z, d⟩
end

structure Cls (K : PySem.W.Frag) (C : Addr) : Prop where
  pg : PySem.W.plainGet K C Str.empty = true
  hd : PySem.W.hasDictIn K C = true
  po : PySem.W.plainOver K C = true
  sa : PySem.W.findIn K (.ref C) "__setattr__" = some (some (.builtin "object.__setattr__"))
theorem Cls.get {K : PySem.W.Frag} {C : Addr} (c : Cls K C) (f : Str) : PySem.W.plainGet K C f = true := c.pg
def NoAttr (K : PySem.W.Frag) (C : Addr) (f : Str) : Prop := PySem.W.findIn K (.ref C) f = some none
theorem NoAttr.taker {K : PySem.W.Frag} {C : Addr} {f : Str} (n : NoAttr K C f) : PySem.W.takerIn K C f = some none := by
  unfold PySem.W.takerIn
  rw [show PySem.W.findIn K (.ref C) f = some none from n]
  rfl
structure Meth (K : PySem.W.Frag) (C : Addr) (m : Str) (f : Addr) : Prop where
  at_ : PySem.W.findIn K (.ref C) m = some (some (.ref f))
  fn : PySem.W.isFn K (.ref f) = true
  kp : PySem.W.keepIn K (.ref f) = true

section
variable {X : Cx} {pins : List (Addr × Obj)} {σ : St} {H : Hp} {s : Shared} {a C dx : Addr} {fs : List (Str × V)} {f : Str} {v : V} {A : Around} {E : Value → Shared → Prop}

theorem getattr_ok {b : Bool} {Q : Value → Shared → Prop} (I : Inv X pins σ H s) (e : H a = some (.ins C dx fs)) (c : Cls X.K C) (n : NoAttr X.K C f) (l : fs.lookup f = some v)
    (h : ∀ u s', Inv X pins σ H s' → RelV v u → Q u s') : wpAny (model X.prog X.w) A (getAttr (.ref a) f b) Q E s := by
  obtain ⟨mA, O, r, _, _, _⟩ := ins_get I.hok e
  obtain ⟨u, hu, ru⟩ := RelO.some_of (v := v) (o := mA f) (by rw [← l]; exact r f)
  exact get_map I.kIn O (c.get f) c.hd n hu (handed_of ru) (h u _ (I.tok _) ru)

theorem getmeth_ok {m : Str} {g : Addr} {pl : Sem Bool} {Q : Value × List Value → Shared → Prop} (I : Inv X pins σ H s) (e : H a = some (.ins C dx fs)) (c : Cls X.K C) (k : Meth X.K C m g) (l : fs.lookup m = none)
    (h : Q (.ref g, [.ref a]) s) : wpAny (model X.prog X.w) A (getMethod (.ref a) m pl) Q E s := by
  obtain ⟨mA, O, r, _, _, _⟩ := ins_get I.hok e
  have hn : mA m = none := RelO.none_of (by rw [← l]; exact r m)
  exact get_meth I.kIn O (c.get m) k.at_ k.fn hn h

theorem setattr_ok {y : V} {u : Value} {Q : Unit → Shared → Prop} (I : Inv X pins σ H s) (e : H a = some (.ins C dx fs)) (c : Cls X.K C) (n : NoAttr X.K C f) (hl : fs.length < 1000) (ry : RelV y u)
    (h : ∀ s', Inv X pins σ (upd H a (.ins C dx (putF f y fs))) s' → Q () s') : wpAny (model X.prog X.w) A (setAttr (.ref a) f u) Q E s := by
  obtain ⟨mA, O, r, wi, _, ho⟩ := ins_get I.hok e
  have hz : (fs.map (·.1)).length ≤ sizeLine := by rw [List.length_map, sizeLine_eq]; omega
  refine set_map I.kIn O c.sa c.po n.taker c.hd wi hz fun h' O' sb => h _ ?_
  have hd : ∃ o, h'.get? dx = some o := let ⟨o, _, _, e', _⟩ := O'.ns; ⟨o, e'⟩
  refine I.write (x := a) (e := dx) (by rw [e]; exact True.intro) (.inr ho) (fun b q hb z => (sb.2 b hb).trans z) hd ?_
  refine ⟨by rw [upd_ne O.ne]; exact ho, ?_, O.ne, O'.obj, _, O'.ns, fun g => ?_, fun g hg => ?_⟩
  · have := length_putF f y fs; omega
  · show RelO ((putF f y fs).lookup g) (if g = f then some u else mA g)
    rw [lookup_putF]
    by_cases q : g = f
    · rw [if_pos q, if_pos q]; exact ry
    · rw [if_neg q, if_neg q]; exact r g
  · by_cases q : g = f
    · rw [q]; exact (keys_putF f y fs).1
    · refine (keys_putF f y fs).2 g (wi g fun z => hg ?_)
      show (if g = f then some u else mA g) = none
      rw [if_neg q]; exact z

theorem Inv.made (I : Inv X pins σ H s) : Inv X pins σ (upd (upd H s.heap.objs.size (.own (s.heap.objs.size + 1))) (s.heap.objs.size + 1) (.ins C s.heap.objs.size []))
    { s with heap := (s.heap.push PySem.W.emptyDict).push (PySem.W.instObj C s.heap.objs.size) } := by
  have e1 : (s.heap.push PySem.W.emptyDict).get? s.heap.objs.size = some PySem.W.emptyDict := Heap.get?_push_size s.heap rfl
  have e2 : ((s.heap.push PySem.W.emptyDict).push (PySem.W.instObj C s.heap.objs.size)).get? (s.heap.objs.size + 1) = some (PySem.W.instObj C s.heap.objs.size) := by
    have := Heap.get?_push_size (s.heap.push PySem.W.emptyDict) (o := PySem.W.instObj C s.heap.objs.size) rfl
    rwa [Heap.size_push] at this
  have e3 : (s.heap.push PySem.W.emptyDict).Ns s.heap.objs.size (fun _ => none) := ⟨PySem.W.emptyDict, #[], _, e1, rfl, (fun e he => absurd he (by simp)), fun _ => rfl⟩
  have I1 := I.laid (a := s.heap.objs.size) (o := .own (s.heap.objs.size + 1)) (h' := s.heap.push PySem.W.emptyDict) (t' := s.toks) (fun b u q => Heap.get?_push_of_some _ q) (Nat.le_refl _) ⟨_, e1⟩
  refine I1.laid (a := s.heap.objs.size + 1) (o := .ins C s.heap.objs.size []) (t' := s.toks) (fun b u q => Heap.get?_push_of_some _ q) (Nat.le_of_eq (Heap.size_push _ _)) ?_
  have ne : s.heap.objs.size ≠ s.heap.objs.size + 1 := Nat.ne_of_lt (Nat.lt_succ_self _)
  refine ⟨by rw [upd_ne ne, upd_same], Nat.zero_le _, ne, e2, fun _ => none, (Heap.Ns1.of_empty e3).at fun o q => Heap.get?_push_of_some _ q, fun _ => True.intro, fun y hy => absurd rfl hy⟩

theorem attr_of {prog : Program} {w : World} {env : Env} {e : Expr} {f : Str} {pos : Pos} {s : Shared} {Q : Value → Shared → Prop} (hb : attributeBase e f env (eval e env) = eval e env)
    (h : wpAny (model prog w) A (eval e env) (fun o s₁ => wpAny (model prog w) A (getAttr o f true) Q E s₁) E s) : wpAny (model prog w) A (eval (.Attribute e f pos) env) Q E s :=
  Attribute_any_ h (by rw [arm_eval_Attribute, hb])
end

def tFld (K : PySem.W.Frag) (ta : TE) (f : Str) : TE := fun σ H Q => ta σ H fun x H1 => ∃ a C dx fs v, x = .ref a ∧ H1 a = some (.ins C dx fs) ∧ Cls K C ∧ NoAttr K C f ∧ fs.lookup f = some v ∧ Q v H1
def sFld (K : PySem.W.Frag) (ta tv : TE) (f : Str) : TS := fun D σ H => tv σ H fun y H1 => ta σ H1 fun x H2 => ∃ a C dx fs, x = .ref a ∧ H2 a = some (.ins C dx fs) ∧ Cls K C ∧ NoAttr K C f ∧ fs.length < 1000 ∧
  D.nx σ (upd H2 a (.ins C dx (putF f y fs)))
def InOp (X : Cx) (op : Operator) (rd : V → V → Hp → VK → Prop) : Prop :=
  ∀ (pins : List (Addr × Obj)) (s : Shared) (σ : St) (H : Hp) (x y : V) (u v : Value) (Q : VK), Inv X pins σ H s → RelV x u → RelV y v → rd x y H Q → wpAny (model X.prog X.w) X.A (inplaceOp op u v) (EP X pins σ Q) X.xe s
def sFldAug (K : PySem.W.Frag) (ta tv : TE) (rd : V → V → Hp → VK → Prop) (f : Str) : TS := fun D σ H => ta σ H fun x H1 => ∃ a C dx fs v, x = .ref a ∧ H1 a = some (.ins C dx fs) ∧ Cls K C ∧ NoAttr K C f ∧ fs.lookup f = some v ∧
  tv σ H1 fun y H2 => rd v y H2 fun z H3 => ∃ dx' fs', H3 a = some (.ins C dx' fs') ∧ fs'.length < 1000 ∧ D.nx σ (upd H3 a (.ins C dx' (putF f z fs')))

section
variable {X : Cx} {o e value : Expr} {f : Str} {pos pos' tpos : Pos} {ta tv : TE}
theorem pe_fld (he : PE X e ta) (hb : attributeBase e f X.env (eval e X.env) = eval e X.env) : PE X (.Attribute e f pos) (tFld X.K ta f) := by
  intro pins s σ H Q I h
  refine attr_of hb (thn (he pins s σ H _ I h) fun u s1 ⟨x, H1, I1, rx, a, C, dx, fs, v, ex, ea, c, n, l, q⟩ => ?_)
  subst ex
  obtain rfl : u = Value.ref a := rx
  exact getattr_ok I1 ea c n l fun u' s2 I2 ru => ⟨v, H1, I2, ru, q⟩
theorem ps_fld (ha : PE X o ta) (hv : PE X value tv) (hs : swapsWith value (some (.Attribute o f pos')) pos.line X.env = pure false) : PS X (.Assign [.Attribute o f pos'] value pos) (sFld X.K ta tv f) := by
  intro pins s σ H D I h
  refine plainObj_wpAny_Assign_Attribute (thn (hv pins s σ H _ I h) fun u s1 ⟨y, H1, I1, ry, q⟩ => thn (ha pins s1 σ H1 _ I1 q) fun ov s2 ⟨x, H2, I2, rx, a, C, dx, fs, ex, ea, c, n, l, q2⟩ => ?_) hs
  subst ex
  obtain rfl : ov = Value.ref a := rx
  exact setattr_ok I2 ea c n l ry fun s3 I3 => ⟨σ, _, I3, q2⟩
theorem ps_fldaug {op : Operator} {rd : V → V → Hp → VK → Prop} (ha : PE X o ta) (hv : PE X value tv) (hop : InOp X op rd) : PS X (.AugAssign (.Attribute o f tpos) op value pos) (sFldAug X.K ta tv rd f) := by
  intro pins s σ H D I h
  refine wpAny_AugAssign_AttributeAny (thn (ha pins s σ H _ I h) fun ov s1 ⟨x, H1, I1, rx, a, C, dx, fs, v, ex, ea, c, n, l, q⟩ => ?_)
  subst ex
  obtain rfl : ov = Value.ref a := rx
  refine getattr_ok I1 ea c n l fun u s2 I2 ru => thn (hv pins s2 σ H1 _ I2 q) fun w3 s3 ⟨y, H2, I3, ry, q3⟩ => thn (hop pins s3 σ H2 v y u w3 _ I3 ru ry q3) fun w4 s4 ⟨z, H3, I4, rz, dx', fs', ea', l', q4⟩ => ?_
  exact setattr_ok I4 ea' c n l' rz fun s5 I5 => ⟨σ, _, I5, q4⟩
def rSub : V → V → Hp → VK → Prop := fun x y H Q => ∃ i j, x = .int i ∧ y = .int j ∧ Q (.int (i - j)) H
theorem in_sub : InOp X .Sub rSub := by
  rintro pins s σ H x y u v Q I rx ry ⟨i, j, rfl, rfl, q⟩
  obtain ⟨t, rfl⟩ := (show ∃ t, u = Value.int i t from rx)
  obtain ⟨t', rfl⟩ := (show ∃ t', v = Value.int j t' from ry)
  exact PyProof.Rows.isub_int ⟨.int (i - j), H, I.tok _, ⟨_, rfl⟩, q⟩

end

section
variable {X : Cx} {pins : List (Addr × Obj)} {σ : St} {H : Hp} {s : Shared} {A : Around} {E : Value → Shared → Prop} {Q : Value → Shared → Prop} {c : Value} {b : Bool}
end
end L2

namespace L2
open PySem PySem.Spec PyProof.Rows

structure Room (k : Nat) (A : Around) : Prop where
  hd : A.handled = none
  dp : A.depth + 3 * k + 5 < recursionLimit
  un : A.units + 16 * k + 200 < cLine
theorem Room.mono {j k : Nat} {A : Around} (r : Room k A) (h : j ≤ k) : Room j A := ⟨r.hd, by have := r.dp; omega, by have := r.un; omega⟩
theorem Room.deeper {k : Nat} {A : Around} (r : Room (k + 1) A) (env : Env) : Room k (A.deeper env) :=
  ⟨r.hd, by have := r.dp; show A.depth + 1 + 3 * k + 5 < _; omega, by have := r.un; show A.units + 3 + 16 * k + 200 < _; omega⟩
theorem make_depth {A : Around} {C : Addr} {us : List Value} {kw : List (Str × Value)} : (A.under (.builtin "type.__call__" ⟨.ref C :: us, kw⟩)).depth = A.depth + 1 := by
  first | rfl | simp [Around.under, Code.weight, Code.isCreation, Code.isGuard, Code.isCaller, Code.frames, Code.isFrame, guardIds]
theorem make_units {A : Around} {C : Addr} {us : List Value} {kw : List (Str × Value)} : (A.under (.builtin "type.__call__" ⟨.ref C :: us, kw⟩)).units = A.units + 1 := by
  first | rfl | simp [Around.under, Code.cUnits, Code.frames, Code.isFrame]
theorem Room.make {k : Nat} {A : Around} (r : Room (k + 1) A) (C : Addr) (us : List Value) (kw : List (Str × Value)) : Room k (A.under (.builtin "type.__call__" ⟨.ref C :: us, kw⟩)) :=
  ⟨r.hd, by have := r.dp; rw [make_depth]; omega, by have := r.un; rw [make_units]; omega⟩
theorem Room.depth {k : Nat} {A : Around} (r : Room k A) : A.depth < recursionLimit := by have := r.dp; omega
theorem Room.units {k : Nat} {A : Around} (r : Room k A) : A.units + 64 < cLine := by have := r.un; omega
def tNil : TA := fun _ H Q => Q [] H
def tCons (ta : TE) (tr : TA) : TA := fun σ H Q => ta σ H fun x H1 => tr σ H1 fun xs H2 => Q (x :: xs) H2
section
variable {X : Cx} {e : Expr} {es : List Expr} {te : TE} {t : TA} {pos : Pos}
theorem pa_nil : PA X [] tNil := fun _ _ _ _ H Q I h => Calls.spliced_nil ⟨[], H, I, .nil, h⟩
theorem pa_cons (ha : PE X e te) (hr : PA X es t) (hs : starEach (e :: es) X.env = (false, eval e X.env) :: starEach es X.env := by rfl) : PA X (e :: es) (tCons te t) := by
  intro pos pins s σ H Q I h
  rw [hs]
  show wpAny _ _ (spliced ((false, eval e X.env) :: backTo pos (starEach es X.env))) _ _ s
  refine Calls.spliced_cons (thn (ha pins s σ H _ I h) fun u s1 ⟨x, H1, I1, r1, q1⟩ => ?_)
  exact thn (hr pos pins s1 σ H1 _ I1 q1) fun us s2 ⟨xs, H2, I2, r2, q2⟩ => ⟨x :: xs, H2, I2, .cons r1 r2, q2⟩

def tTup (t : TA) : TE := fun σ H Q => t σ H fun xs H1 => xs.length ≤ sizeLine ∧ ∀ p, H1 p = none → Q (.ref p) (upd H1 p (.tup xs))
def tLst (t : TA) : TE := fun σ H Q => t σ H fun xs H1 => xs.length ≤ sizeLine ∧ ∀ p, H1 p = none → Q (.ref p) (upd H1 p (.lst xs))
theorem pe_tup {x1} (h : PA X es t) : PE X (.Tuple es x1 pos) (tTup t) := by
  intro pins s σ H Q I hq
  refine wpAny_Tuple_spliced (thn (h pos pins s σ H _ I hq) fun us s1 ⟨xs, H1, I1, r, z, q⟩ => ⟨by rw [← r.length]; exact z, ?_⟩)
  have hf : H1 s1.heap.objs.size = none := I1.hok.fresh (Nat.le_refl _)
  refine ⟨.ref s1.heap.objs.size, upd H1 s1.heap.objs.size (.tup xs), I1.laid (t' := s1.toks) (fun b u e => Heap.get?_push_of_some _ e) (Nat.le_refl _) ?_, rfl, q _ hf⟩
  exact ⟨z, us, r, ⟨_, Heap.get?_push_size _ rfl, rfl, _, rfl⟩⟩
theorem pe_lst (h : PA X es t) : PE X (.List es pos) (tLst t) := by
  intro pins s σ H Q I hq
  refine wpAny_List_spliced (thn (h pos pins s σ H _ I hq) fun us s1 ⟨xs, H1, I1, r, z, q⟩ => ⟨by rw [← r.length]; exact z, ?_⟩)
  have hf : H1 s1.heap.objs.size = none := I1.hok.fresh (Nat.le_refl _)
  refine ⟨.ref s1.heap.objs.size, upd H1 s1.heap.objs.size (.lst xs), I1.laid (t' := s1.toks) (fun b u e => Heap.get?_push_of_some _ e) (Nat.le_refl _) ?_, rfl, q _ hf⟩
  exact ⟨z, us, 0, r, Heap.get?_push_size _ rfl⟩
end

abbrev Sp := List V → Hp → VK → XK → Prop
abbrev CXT := List Env → Hp → Shared → XK → Value → Shared → Prop

structure Env0 (P : Program) (w : World) (K : PySem.W.Frag) (mg : Str → Option Value) (base : Heap) (A : Around) (outer : List Env) (s : Shared) (H : Hp) : Prop where
  frames : A.frames = some outer
  mod : Mod K mg base
  bs : ∀ b o, base.get? b = some o → s.heap.get? b = some o ∧ H b = none
  bsz : base.objs.size ≤ s.heap.objs.size
  funs : s.heap.FunFrames base outer
  frf : ∀ b ∈ frs outer, H b = none
  hok : HOk P w H s.heap
  bare : AllBare s.gens
def CE (outer : List Env) (P : Program) (w : World) (H : Hp) (s : Shared) (Q : VK) (u : Value) (s' : Shared) : Prop :=
  ∃ v H', s'.os = s.os ∧ AllBare s'.gens ∧ Un (frs outer) [] H H' s.heap s'.heap ∧ HOk P w H' s'.heap ∧ RelV v u ∧ Q v H'
def CR (CX : CXT) (outer : List Env) (P : Program) (w : World) (H : Hp) (s : Shared) (Q : VK) (E : XK) (r : Result) (s' : Shared) : Prop :=
  match r with
  | .ok (.ret u) => CE outer P w H s Q u s'
  | .ok _ => False
  | .error e => CX outer H s E e s'
structure FnOk (P : Program) (w : World) (K : PySem.W.Frag) (mg : Str → Option Value) (base : Heap) (CX : CXT) (k : Nat) (f : Addr) (fd : FuncData) (ps : List Str) (sp : Sp) : Prop where
  len : ∀ vs H Q E, sp vs H Q E → vs.length = ps.length
  run : ∀ (A : Around) (outer : List Env) (s : Shared) (H : Hp) (args : Args) (us : List Value) (vs : List V) (Q : VK) (E : XK), Room k A → Env0 P w K mg base A outer s H → BindsTo s fd args (ps.zip us) → Vals vs us → sp vs H Q E →
    codeAny (model P w) A (.call (.ref f) args) (CR CX outer P w H s Q E) s
theorem FnOk.mono {P : Program} {w : World} {K : PySem.W.Frag} {mg : Str → Option Value} {base : Heap} {CX : CXT} {j k : Nat} {f : Addr} {fd : FuncData} {ps : List Str} {sp : Sp} (F : FnOk P w K mg base CX j f fd ps sp) (h : j ≤ k) :
    FnOk P w K mg base CX k f fd ps sp := ⟨F.len, fun A outer s H args us vs Q E hr => F.run A outer s H args us vs Q E (hr.mono h)⟩
theorem Env0.make {P : Program} {w : World} {K : PySem.W.Frag} {mg : Str → Option Value} {base : Heap} {A : Around} {outer : List Env} {s : Shared} {H : Hp} (e : Env0 P w K mg base A outer s H) (C : Addr) (us : List Value) (kw : List (Str × Value)) :
    Env0 P w K mg base (A.under (.builtin "type.__call__" ⟨.ref C :: us, kw⟩)) outer s H := ⟨by first | exact e.frames | (simpa [Around.under, Code.envs, Code.isFrame, pushEnvs] using e.frames), e.mod, e.bs, e.bsz, e.funs, e.frf, e.hok, e.bare⟩
section
variable {X : Cx} {pins : List (Addr × Obj)} {σ : St} {H : Hp} {s s' : Shared}
theorem Inv.env0 (I : Inv X pins σ H s) : Env0 X.prog X.w X.K X.mg X.base X.A X.stack s H :=
  ⟨I.ok.frames, I.ok.mod, I.bs, Nat.le_trans I.ok.bsz I.sz, I.stack, I.stkFree, I.hok, I.bare⟩
theorem Inv.after {Q : VK} {u : Value} (I : Inv X pins σ H s) (h : CE X.stack X.prog X.w H s Q u s') : EP X pins σ Q u s' := by
  obtain ⟨v, H', os, bare, un, hok, r, q⟩ := h
  obtain ⟨hh, g, d, t, os'⟩ := s'
  obtain rfl : os' = s.os := os
  exact ⟨v, H', I.call (h' := hh) (g' := g) (d' := d) (t' := t) (ch := []) un hok bare (fun b z => absurd z (by simp)), r, q⟩
end

def tCall (sp : Sp) (dvs : List V) (E : XK) (t : TA) : TE := fun σ H Q => t σ H fun vs H1 => sp (vs ++ dvs) H1 Q E
def tMeth (C : Addr) (m : Str) (sp : Sp) (dvs : List V) (E : XK) (ta : TE) (t : TA) : TE := fun σ H Q => ta σ H fun x H1 => ∃ a dx fs, x = .ref a ∧ H1 a = some (.ins C dx fs) ∧ fs.lookup m = none ∧
  t σ H1 fun vs H2 => sp (x :: (vs ++ dvs)) H2 Q E
def tMake (C : Addr) (sp : Sp) (dvs : List V) (E : XK) (t : TA) : TE := fun σ H Q => t σ H fun vs H1 => ∀ x dx, H1 x = none → H1 dx = none → dx ≠ x →
  sp (.ref x :: (vs ++ dvs)) (upd (upd H1 dx (.own x)) x (.ins C dx [])) (fun v H2 => v = .non ∧ Q (.ref x) H2) E

def Binds (K : PySem.W.Frag) (fd : FuncData) (ps : List Str) (ds : List Value) : Prop :=
  ∀ (s : Shared) (us : List Value), K.In s.heap → (us ++ ds).length = ps.length → BindsTo s fd ⟨us, []⟩ (ps.zip (us ++ ds))
theorem Binds.all {K : PySem.W.Frag} {fd : FuncData} {ps : List Str} (h : ∀ us : List Value, us.length = ps.length → bindArgs fd ⟨us, []⟩ = pure (ps.zip us)) : Binds K fd ps [] := fun s us _ hl => by
  rw [List.append_nil] at hl ⊢
  exact .of_eq (h us hl)

def Passes (CX : CXT) (X : Cx) (E : XK) : Prop := ∀ (pins : List (Addr × Obj)) (σ : St) (H : Hp) (s : Shared) (e : Value) (s' : Shared), Inv X pins σ H s → CX X.stack H s E e s' → X.xe e s'

section
variable {X : Cx} {CX : CXT} {k : Nat} {f C : Addr} {fd : FuncData} {ps : List Str} {sp : Sp} {dvs : List V} {ds : List Value} {E : XK} {x m : Str} {p pos apos : Pos} {e o : Expr} {es : List Expr} {ta : TE} {t : TA}

theorem run_fn {pins : List (Addr × Obj)} {σ : St} {H : Hp} {s : Shared} {Q : VK} {us : List Value} {vs : List V} (F : FnOk X.prog X.w X.K X.mg X.base CX k f fd ps sp) (hr : Room k X.A) (hb : Binds X.K fd ps ds) (hd : Vals dvs ds) (hx : Passes CX X E)
    (I : Inv X pins σ H s) (r : Vals vs us) (h : sp (vs ++ dvs) H Q E) : wpAny (model X.prog X.w) X.A (call (.ref f) us) (EP X pins σ Q) X.xe s := by
  have r2 : Vals (vs ++ dvs) (us ++ ds) := r.append hd
  have hl : (us ++ ds).length = ps.length := by rw [← r2.length]; exact F.len _ _ _ _ h
  refine wpAny_call (codeAny_mono (F.run X.A X.stack s H ⟨us, []⟩ (us ++ ds) (vs ++ dvs) Q E hr I.env0 (hb s us I.kIn hl) r2 h) fun r s' hq => ?_)
  cases r with
  | error e => exact hx pins σ H s e s' I hq
  | ok fl =>
    cases fl with
    | ret u => exact I.after hq
    | next => exact False.elim hq
    | brk => exact False.elim hq
    | cont => exact False.elim hq

theorem pe_call (F : FnOk X.prog X.w X.K X.mg X.base CX k f fd ps sp) (hr : Room k X.A) (hg : Gl X x) (hm : X.mg x = some (.ref f)) (hk : PySem.W.keepIn X.K (.ref f) = true) (hb : Binds X.K fd ps ds) (hd : Vals dvs ds) (hx : Passes CX X E)
    (ha : PA X (e :: es) t) (hdb : (x == ("__debug__" : Str)) = false := by decide) (he : starEach (e :: es) X.env = (false, eval e X.env) :: starEach es X.env := by rfl) (hpl : (backTo pos (starEach es X.env)).any (·.1) = false := by rfl) :
    PE X (.Call (.Name x p) (e :: es) [] pos) (tCall sp dvs E t) := by
  intro pins s σ H Q I h
  refine wpAny_Call_Name_kw (ld_glob I hg hm ?_ hdb)
  refine PySem.W.callWith_K (h₀ := X.base) I.ok.mod.kin hk (thn (ha pos pins s σ H _ I h) fun us s1 ⟨vs, H1, I1, r, q⟩ => ⟨I1.kIn, ?_⟩) he hpl
  exact run_fn F hr hb hd hx I1 r q
theorem pe_call0 (F : FnOk X.prog X.w X.K X.mg X.base CX k f fd ps sp) (hr : Room k X.A) (hg : Gl X x) (hm : X.mg x = some (.ref f)) (hk : PySem.W.keepIn X.K (.ref f) = true) (hb : Binds X.K fd ps ds) (hd : Vals dvs ds) (hx : Passes CX X E)
    (hdb : (x == ("__debug__" : Str)) = false := by decide) : PE X (.Call (.Name x p) [] [] pos) (tCall sp dvs E tNil) := by
  intro pins s σ H Q I h
  refine wpAny_Call_Name_kw (ld_glob I hg hm ?_ hdb)
  exact PySem.W.callWith_K0 I.kIn hk (run_fn (us := []) F hr hb hd hx I .nil h)

theorem pe_meth0 {pl : Sem Bool} (he : PE X o ta) (c : Cls X.K C) (hm : Meth X.K C m f) (F : FnOk X.prog X.w X.K X.mg X.base CX k f fd ps sp) (hr : Room k X.A) (hb : Binds X.K fd ps ds) (hd : Vals dvs ds) (hx : Passes CX X E)
    (ht : eval (.Call (.Attribute o m apos) [] [] pos) X.env = (do
      let ov ← eval o X.env
      standAt apos.atName
      let (f, first) ← holding [ov] (getMethod ov m pl)
      callWith pos f first (backTo pos (starEach [] X.env)) (backToKw pos (keywordEach [] X.env))) := by rfl) :
    PE X (.Call (.Attribute o m apos) [] [] pos) (tMeth C m sp dvs E ta tNil) := by
  intro pins s σ H Q I h
  refine PySem.W.methodCall_KW (pl := pl) (thn (he pins s σ H _ I h) fun u s1 ⟨x, H1, I1, rx, a, dx, fs, ex, ea, l, q⟩ => ?_) ht
  subst ex
  obtain rfl : u = Value.ref a := rx
  refine getmeth_ok I1 ea c hm l ?_
  exact PySem.W.callWith_K0 (first := [.ref a]) I1.kIn hm.kp (run_fn (us := [.ref a]) (vs := [.ref a]) F hr hb hd hx I1 (.cons rfl .nil) q)

structure Mk (K : PySem.W.Frag) (C f : Addr) : Prop where
  makes : PySem.W.makesIn K C = true
  init : PySem.W.findIn K (.ref C) "__init__" = some (some (.ref f))
  fn : PySem.W.isFn K (.ref f) = true
  kp : PySem.W.keepIn K (.ref C) = true

theorem run_make {pins : List (Addr × Obj)} {σ : St} {H : Hp} {s : Shared} {Q : VK} {us : List Value} {vs : List V} (M : Mk X.K C f) (F : FnOk X.prog X.w X.K X.mg X.base CX k f fd ps sp) (hr : Room (k + 1) X.A) (hb : Binds X.K fd ps ds) (hd : Vals dvs ds)
    (hx : Passes CX X E) (I : Inv X pins σ H s) (r : Vals vs us)
    (h : ∀ x dx, H x = none → H dx = none → dx ≠ x → sp (.ref x :: (vs ++ dvs)) (upd (upd H dx (.own x)) x (.ins C dx [])) (fun v H2 => v = .non ∧ Q (.ref x) H2) E) :
    wpAny (model X.prog X.w) X.A (call (.ref C) us) (EP X pins σ Q) X.xe s := by
  have hq := h (s.heap.objs.size + 1) s.heap.objs.size (I.hok.fresh (Nat.le_succ _)) (I.hok.fresh (Nat.le_refl _)) (Nat.ne_of_lt (Nat.lt_succ_self _))
  have I2 := Inv.made (C := C) I
  have r2 : Vals (V.ref (s.heap.objs.size + 1) :: (vs ++ dvs)) (Value.ref (s.heap.objs.size + 1) :: (us ++ ds)) := .cons rfl (r.append hd)
  have hl : (Value.ref (s.heap.objs.size + 1) :: us ++ ds).length = ps.length := by
    have e := r2.length
    rw [F.len _ _ _ _ hq] at e
    exact e.symm
  refine wpAny_call (make_map (f := f) I.kIn M.makes M.init (beq_iff_eq.mp M.fn) (codeAny_mono (F.run _ X.stack _ _ ⟨Value.ref (s.heap.objs.size + 1) :: us, []⟩ (Value.ref (s.heap.objs.size + 1) :: (us ++ ds)) _ _ E (hr.make C us [])
    (I2.env0.make C us []) (hb _ (Value.ref (s.heap.objs.size + 1) :: us) I2.kIn hl) r2 hq) fun r s' hq' => ?_))
  cases r with
  | error e => exact hx pins σ _ _ e s' I2 hq'
  | ok fl =>
    cases fl with
    | ret u =>
      obtain ⟨v, H', I3, rv, ev, q3⟩ := I2.after hq'
      subst ev
      exact ⟨rv, ⟨V.ref (s.heap.objs.size + 1), H', I3, rfl, q3⟩⟩
    | next => exact False.elim hq'
    | brk => exact False.elim hq'
    | cont => exact False.elim hq'
theorem pe_make0 (M : Mk X.K C f) (F : FnOk X.prog X.w X.K X.mg X.base CX k f fd ps sp) (hr : Room (k + 1) X.A) (hg : Gl X x) (hm : X.mg x = some (.ref C)) (hb : Binds X.K fd ps ds) (hd : Vals dvs ds) (hx : Passes CX X E)
    (hdb : (x == ("__debug__" : Str)) = false := by decide) : PE X (.Call (.Name x p) [] [] pos) (tMake C sp dvs E tNil) := by
  intro pins s σ H Q I h
  refine wpAny_Call_Name_kw (ld_glob I hg hm ?_ hdb)
  exact PySem.W.callWith_K0 I.kIn M.kp (run_make (us := []) M F hr hb hd hx I .nil h)
end

section
variable {X : Cx} {CX : CXT} {k : Nat} {f C : Addr} {fd : FuncData} {ps ks : List Str} {sp : Sp} {E : XK} {x m : Str} {p pos apos kpos : Pos} {e o : Expr} {es : List Expr} {kws : List Keyword} {te ta : TE} {t tk : TA} {nm : Option Str}
variable {g : List Value → List Value → List Value} {gV : List V → List V → List V}
end

structure FnScope (N P : List Str) (sc : Scope) : Prop where
  kind : sc.kind = .function
  co : sc.isCoroutine = false
  gen : sc.isGenerator = false
  nd : N.Nodup
  pre : N.take P.length = P
  par : ∀ x ∈ P, sc.names.lookup x = some .local ∨ sc.names.lookup x = some .cell
  nofree : ∀ y ∈ sc.names, y.2 ≠ .free

theorem bindL_out {kindOf : Str → Option NameKind} {x : Str} : ∀ {binds : List (Str × Value)} {m : Str → Option Value}, (∀ v, (x, v) ∉ binds) → bindL kindOf binds m x = m x
  | [], _, _ => rfl
  | (n, v) :: r, m, h => by
    unfold bindL
    rw [bindL_out fun w hw => h w (List.mem_cons_of_mem _ hw)]
    split
    · have : x ≠ n := by rintro rfl; exact h v List.mem_cons_self
      simp [this]
    · rfl
theorem bindC_out {kindOf : Str → Option NameKind} {x : Str} : ∀ {binds : List (Str × Value)} {m : Str → Option Value}, (∀ v, (x, v) ∉ binds) → bindC kindOf binds m x = m x
  | [], _, _ => rfl
  | (n, v) :: r, m, h => by
    unfold bindC
    rw [bindC_out fun w hw => h w (List.mem_cons_of_mem _ hw)]
    split
    · rfl
    · have : x ≠ n := by rintro rfl; exact h v List.mem_cons_self
      simp [this]
theorem bindL_get {kindOf : Str → Option NameKind} {x : Str} {v : Value} : ∀ {P : List Str} {vs : List Value} {i : Nat} {m : Str → Option Value}, P.Nodup → P[i]? = some x → vs[i]? = some v → kindOf x = some .local →
    bindL kindOf (P.zip vs) m x = some v
  | [], _, _, _, _, h, _, _ => by simp at h
  | _ :: _, [], _, _, _, _, h, _ => by simp at h
  | p :: P, w :: vs, 0, m, nd, h1, h2, hk => by
    simp at h1 h2; subst h1; subst h2
    show bindL kindOf ((p, w) :: P.zip vs) m p = _
    unfold bindL
    rw [bindL_out fun v hv => (List.nodup_cons.mp nd).1 (List.of_mem_zip hv).1, if_pos hk]
    simp
  | p :: P, w :: vs, i + 1, m, nd, h1, h2, hk => by
    show bindL kindOf ((p, w) :: P.zip vs) m x = _
    unfold bindL
    exact bindL_get (i := i) (List.nodup_cons.mp nd).2 (by simpa using h1) (by simpa using h2) hk
theorem bindC_get {kindOf : Str → Option NameKind} {x : Str} {v : Value} : ∀ {P : List Str} {vs : List Value} {i : Nat} {m : Str → Option Value}, P.Nodup → P[i]? = some x → vs[i]? = some v → kindOf x ≠ some .local →
    bindC kindOf (P.zip vs) m x = some v
  | [], _, _, _, _, h, _, _ => by simp at h
  | _ :: _, [], _, _, _, _, h, _ => by simp at h
  | p :: P, w :: vs, 0, m, nd, h1, h2, hk => by
    simp at h1 h2; subst h1; subst h2
    show bindC kindOf ((p, w) :: P.zip vs) m p = _
    unfold bindC
    rw [bindC_out fun v hv => (List.nodup_cons.mp nd).1 (List.of_mem_zip hv).1, if_neg hk]
    simp
  | p :: P, w :: vs, i + 1, m, nd, h1, h2, hk => by
    show bindC kindOf ((p, w) :: P.zip vs) m x = _
    unfold bindC
    exact bindC_get (i := i) (List.nodup_cons.mp nd).2 (by simpa using h1) (by simpa using h2) hk

def start (N : List Str) (vs : List V) : St := vs.map some ++ List.replicate (N.length - vs.length) none

def cxOf (CX : CXT) (P : Program) (w : World) (K : PySem.W.Frag) (mg : Str → Option Value) (base : Heap) (N : List Str) (qual : Str) (scope : Scope) (f : Addr) (cd : Value) (A : Around) (outer : List Env) (s : Shared) (H : Hp) (E : XK) : Cx where
  prog := P
  w := w
  K := K
  mg := mg
  base := base
  A := A.deeper (envOfC qual scope s.heap.objs.size f cd)
  N := N
  s_0 := s
  H_0 := H
  env := envOfC qual scope s.heap.objs.size f cd
  outer := outer
  stack := envOfC qual scope s.heap.objs.size f cd :: outer
  ex := []
  calm := true
  fn := fun _ => true
  pn := []
  xe := fun e s' => wpAny (model P w) (A.deeper (envOfC qual scope s.heap.objs.size f cd)) (leaving (envOfC qual scope s.heap.objs.size f cd) e) (fun _ s'' => CX outer H s E e s'') (fun e' s'' => CX outer H s E e' s'') s'

theorem cell_has {sc : Scope} {n : Nat} {x : Str} (h : sc.names.lookup x = some .cell) : ∃ c, (cellsFrom n sc.names []).lookup x = some c := by
  have q := PySem.W.cellsFrom_some sc.names n [] (.inl h)
  exact Option.isSome_iff_exists.mp q

theorem inv_start {CX : CXT} {P : Program} {w : World} {K : PySem.W.Frag} {mg : Str → Option Value} {base : Heap} {N ps : List Str} {qual : Str} {scope : Scope} {f : Addr} {cd : Value} {A : Around} {outer : List Env} {s s1 : Shared} {H : Hp} {E : XK} {us : List Value} {vs : List V}
    (S : FnScope N ps scope) (hd : A.handled = none) (e0 : Env0 P w K mg base A outer s H) (hl : vs.length = ps.length) (r : Vals vs us)
    (x : InCallC s s.heap.objs.size (bindL (envOfC qual scope s.heap.objs.size f cd).kindOf (ps.zip us) fun _ => none) (cellsFrom (s.heap.objs.size + 1) scope.names []) (bindC (envOfC qual scope s.heap.objs.size f cd).kindOf (ps.zip us) fun _ => none) s1) :
    Inv (cxOf CX P w K mg base N qual scope f cd A outer s H E) [] (start N vs) H s1 := by
  have hpl : ps.length ≤ N.length := by have := congrArg List.length S.pre; rw [List.length_take] at this; omega
  obtain ⟨h1, tk, rfl, hk⟩ := x.done
  have noA : ∀ b : Addr, b ∉ (cxOf CX P w K mg base N qual scope f cd A outer s H E).ex := fun b z => absurd (show b ∈ ([] : List Addr) from z) (by simp)
  refine ⟨⟨e0.mod, S.kind, rfl, rfl, Nat.le_refl _, fun y z c h1 h2 => ?_, fun y hy => ?_, fun y c _ h => ?_, fun _ => hd, Around.frames_deeper e0.frames, .inr ⟨rfl, rfl⟩, fun b z => absurd z (noA b), e0.bs, e0.bsz, fun b _ _ => noA b, fun b z => absurd z (noA b), e0.funs, e0.frf⟩,
    rfl, e0.bare, Un.kept hk, ⟨_, x.toInCall.ns, fun i y v h1 h2 h3 => ?_⟩, fun y c h => ⟨_, x.cell y c h⟩, e0.hok.fresh (Nat.le_refl _), fun y c h => ?_, fun p hp => absurd (show p ∈ ([] : List (Addr × Obj)) from hp) (by simp), e0.hok.kept hk, ?_⟩
  · exact name_of_addr x.apart (PySem.mem_of_lookup h1) (PySem.mem_of_lookup h2)
  · have hy : scope.names.lookup y = some .cell ∨ scope.names.lookup y = some .free := hy
    rcases hy with hy | hy
    · exact cell_has hy
    · exact absurd rfl (S.nofree _ (PySem.mem_of_lookup hy))
  · exact Nat.le_of_lt (x.above y c (PySem.mem_of_lookup h))
  · have hi : i < vs.length := by
      unfold start at h2
      by_cases hi : i < vs.length
      · exact hi
      · rw [List.getElem?_append_right (by simpa using hi)] at h2
        rw [List.getElem?_replicate] at h2
        split at h2 <;> cases h2
    have ha : vs[i]? = some v := by
      unfold start at h2
      rw [List.getElem?_append_left (by simpa using hi), List.getElem?_map] at h2
      cases e : vs[i]? with
      | none => rw [e] at h2; cases h2
      | some a => rw [e] at h2; cases h2; rfl
    obtain ⟨u, hu, rv⟩ := r.get ha
    have hp : ps[i]? = some y := by
      rw [← S.pre, List.getElem?_take_of_lt (by omega)]; exact h1
    have ndP : ps.Nodup := by rw [← S.pre]; exact S.nd.sublist (List.take_sublist _ _)
    refine ⟨u, rv, ?_⟩
    rcases S.par y (List.mem_of_getElem? hp) with k | k
    · exact .inl ⟨k, bindL_get ndP hp hu k⟩
    · obtain ⟨c, e⟩ := cell_has (n := s.heap.objs.size + 1) k
      refine .inr ⟨.inl k, c, e, ?_⟩
      have q := x.cell y c e
      rw [bindC_get ndP hp hu (by show scope.names.lookup y ≠ _; rw [k]; decide)] at q
      exact q
  · exact e0.hok.fresh (Nat.le_of_lt (x.above y c (PySem.mem_of_lookup h)))
  · unfold start
    show _ = N.length
    rw [List.length_append, List.length_map, List.length_replicate]
    omega

theorem fn_of {CX : CXT} {P : Program} {w : World} {K : PySem.W.Frag} {mg : Str → Option Value} {base : Heap} {k : Nat} {f : Addr} {name qual : Str} {params : Arguments} {body : List Stmt} {scope : Scope} {dV kV doc pm cdv ct oc : Value} {an od : Option Addr}
    {osl : Array (Option Value)} {N ps : List Str} {sp : Sp} (lk : K.lookup f = some ⟨oc, od, .func (PySem.W.fnOf name qual params body scope dV kV doc pm an cdv ct), osl⟩) (hcd : PySem.W.codeIn K cdv qual = true) (S : FnScope N ps scope)
    (len : ∀ vs H Q E, sp vs H Q E → vs.length = ps.length)
    (hbody : ∀ (A : Around) (outer : List Env) (s : Shared) (H : Hp) (vs : List V) (Q : VK) (E : XK), Room k (A.deeper (envOfC qual scope s.heap.objs.size f cdv)) → sp vs H Q E →
      ∃ t, PSs (cxOf CX P w K mg base N qual scope f cdv A outer s H E) body t ∧ t { nx := fun _ H' => Q .non H', rt := Q } (start N vs) H) :
    FnOk P w K mg base CX (k + 1) f (PySem.W.fnOf name qual params body scope dV kV doc pm an cdv ct) ps sp := by
  refine ⟨len, fun A outer s H args us vs Q E hr e0 hb r hsp => ?_⟩
  have hl := len _ _ _ _ hsp
  have KX : K.In s.heap := e0.mod.kin.keeps fun b o e => (e0.bs b o e).1
  have lim : s.heap.NoLimit := e0.mod.nolimit.keeps fun b o e => (e0.bs b o e).1
  have hkind : ∀ y ∈ ps.zip us, scope.names.lookup y.1 = some .local ∨ (scope.names.lookup y.1 = some .cell ∧ ((cellsFrom (s.heap.objs.size + 1) scope.names []).lookup y.1).isSome = true) := fun ⟨n, v⟩ hy => by
    rcases S.par n (List.of_mem_zip hy).1 with q | q
    · exact .inl q
    · exact .inr ⟨q, PySem.W.cellsFrom_some _ _ _ (.inl q)⟩
  refine codeAny_call_function hr.depth (KX _ _ lk) rfl S.co S.gen rfl (PySem.W.codeRec_of KX hcd) (hb _ _ _ _ ?_)
  refine wpAny_newFunctionEnv_cells S.kind hkind fun env he s1 x => ?_
  subst he
  refine ⟨lim.keeps x.toInCall.keep, codeAny_func ?_⟩
  obtain ⟨t, ht, hq⟩ := hbody A outer s H vs Q E (hr.deeper _) hsp
  have I : Inv (cxOf CX P w K mg base N qual scope f cdv A outer s H E) [] (start N vs) H s1 := inv_start S hr.hd e0 hl r x
  refine wpAny_mono (ht [] s1 (start N vs) H _ I hq) (fun fl s' hs => ?_) fun e s' hs => hs
  have fin : ∀ {σ' : St} {H' : Hp} {v : V} {u : Value}, Inv (cxOf CX P w K mg base N qual scope f cdv A outer s H E) [] σ' H' s' → RelV v u → Q v H' → CE outer P w H s Q u s' :=
    fun {σ' H' v u} J rv q => ⟨v, H', J.os, J.bare, J.base, J.hok, rv, q⟩
  cases fl with
  | ret u =>
    obtain ⟨v, σ', H', J, rv, q⟩ := hs
    exact fin J rv q
  | next =>
    obtain ⟨σ', H', J, q⟩ := hs
    exact fin (v := V.non) (u := Value.none) J rfl q
  | brk =>
    obtain ⟨_, _, _, q⟩ := hs
    exact False.elim q
  | cont =>
    obtain ⟨_, _, _, q⟩ := hs
    exact False.elim q
end L2

namespace L2
open PySem PySem.Spec PyProof.Rows
section
variable {X : Cx} {x : Str} {p pos : Pos} {e : Expr} {es : List Expr} {t : TA} {id T : String} {r : List V → Hp → VK → Prop}

def tCB (r : List V → Hp → VK → Prop) (t : TA) : TE := fun σ H Q => t σ H fun vs H1 => r vs H1 Q
theorem pe_callB (hc : CallR X (.builtin id) r) (hg : Gl X x) (hm : X.mg x = none) (hv : bootBuiltins x = some (.builtin id)) (ha : PA X (e :: es) t) (hn : x ≠ "__name__" := by decide) (hdb : (x == ("__debug__" : Str)) = false := by decide)
    (he : starEach (e :: es) X.env = (false, eval e X.env) :: starEach es X.env := by rfl) (hpl : (backTo pos (starEach es X.env)).any (·.1) = false := by rfl) : PE X (.Call (.Name x p) (e :: es) [] pos) (tCB r t) := by
  intro pins s σ H Q I h
  refine wpAny_Call_Name_kw (ld_blt I hg hm hv ?_ hn hdb)
  exact PyProof.Rows.callWith_builtin1 (thn (ha pos pins s σ H _ I h) fun us s1 ⟨vs, H1, I1, r1, q1⟩ => hc pins s1 σ H1 vs us Q I1 r1 q1) he hpl
theorem pe_callTy (hc : CallR X (.type T) r) (hg : Gl X x) (hm : X.mg x = none) (hv : bootBuiltins x = some (.type T)) (ha : PA X (e :: es) t) (hn : x ≠ "__name__" := by decide) (hdb : (x == ("__debug__" : Str)) = false := by decide)
    (he : starEach (e :: es) X.env = (false, eval e X.env) :: starEach es X.env := by rfl) (hpl : (backTo pos (starEach es X.env)).any (·.1) = false := by rfl) : PE X (.Call (.Name x p) (e :: es) [] pos) (tCB r t) := by
  intro pins s σ H Q I h
  refine wpAny_Call_Name_kw (ld_blt I hg hm hv ?_ hn hdb)
  exact PyProof.Rows.callWith_type1 (thn (ha pos pins s σ H _ I h) fun us s1 ⟨vs, H1, I1, r1, q1⟩ => hc pins s1 σ H1 vs us Q I1 r1 q1) he hpl
end
end L2

namespace HT
open PySem PyProof.Rows

section
open PySem.SeqAt
open PySem.AutoSeq1 (wpAny_loadPart')
open PySem.MeetsSeq PySem.MeetsSeq2 PySem.MeetsSeq3

end

section
variable {prog : Program} {w : World} {A : Around} {E : Value → Shared → Prop} {s : Shared}

def sIx (n d : Nat) : Option Int → Nat
  | none => d
  | some v => if v < 0 then (v + (n : Int)).toNat else min v.toNat n
theorem sIx_none (n d : Nat) : sIx n d none = d := rfl
theorem sIx_nat (n d k : Nat) : sIx n d (some (k : Int)) = min k n := by
  show (if (k : Int) < 0 then ((k : Int) + (n : Int)).toNat else min (k : Int).toNat n) = min k n
  rw [if_neg (by omega), Int.toNat_natCast]
theorem sIx_le (n d : Nat) (hd : d ≤ n) (o : Option Int) : sIx n d o ≤ n := by
  cases o with
  | none => exact hd
  | some v =>
    show (if v < 0 then (v + (n : Int)).toNat else min v.toNat n) ≤ n
    by_cases hv : v < 0
    · rw [if_pos hv]; omega
    · rw [if_neg hv]; exact Nat.min_le_right _ _
end
end HT

namespace L2
open PySem PySem.Spec PyProof.Rows

abbrev TO := St → Hp → (Option Int → Hp → Prop) → Prop
def PO (X : Cx) (e : Option Expr) (t : TO) : Prop :=
  ∀ (pins : List (Addr × Obj)) (s : Shared) (σ : St) (H : Hp) (Q : Option Int → Hp → Prop), Inv X pins σ H s → t σ H Q →
    wpAny (model X.prog X.w) X.A (evalPart e X.env) (fun u s' => ∃ o H', Inv X pins σ H' s' ∧ IsPart u o ∧ Q o H') X.xe s
def tNoPart : TO := fun _ H Q => Q none H
def tPart (t : TE) : TO := fun σ H Q => t σ H fun x H1 => ∃ i, x = .int i ∧ Q (some i) H1

theorem intsAre_of {ns : List Int} : ∀ {us : List Value}, Vals (ns.map V.int) us → IntsAre us ns := by
  induction ns with
  | nil => intro us r; rw [List.map_nil] at r; cases r; exact .nil
  | cons n ns ih =>
    intro us r
    rw [List.map_cons] at r
    cases r with
    | cons r1 r2 =>
      obtain ⟨t, e⟩ := r1
      subst e
      exact .cons n t (ih r2)

section
variable {X : Cx} {e : Expr} {te : TE} {lo hi : Option Expr} {tl th : TO} {pos p2 : Pos}

theorem po_none : PO X none tNoPart := by
  intro pins s σ H Q I h
  rw [evalPart_none]
  exact wpAny_pure ⟨none, H, I, .none, h⟩
theorem po_some (h : PE X e te) : PO X (some e) (tPart te) := by
  intro pins s σ H Q I hw
  rw [evalPart_some]
  refine thn (h pins s σ H _ I hw) fun u s1 ⟨x, H1, I1, r1, q1⟩ => ?_
  obtain ⟨i, rfl, q⟩ := q1
  obtain ⟨t, rfl⟩ := r1
  exact ⟨some i, H1, I1, .int i t, q⟩

def SlR (X : Cx) (r : V → Option Int → Option Int → Hp → VK → Prop) : Prop :=
  ∀ (pins : List (Addr × Obj)) (s : Shared) (σ : St) (H : Hp) (x : V) (v vl vu : Value) (lo hi : Option Int) (sl : Addr) (Q : VK), Inv X pins σ H s → RelV x v → s.heap.IsSliceOf sl vl vu .none → IsPart vl lo → IsPart vu hi → r x lo hi H Q →
    ∃ T id, typeLookup (.type T) "__getitem__" = pure (some (.builtin id)) ∧ s.TypeIs v T ∧ wpAny (model X.prog X.w) X.A (getItem v (.ref sl)) (EP X pins σ Q) X.xe s
def tSl (r : V → Option Int → Option Int → Hp → VK → Prop) (te : TE) (tl th : TO) : TE := fun σ H Q => te σ H fun x H1 => tl σ H1 fun l H2 => th σ H2 fun u H3 => r x l u H3 Q
theorem pe_slice {r : V → Option Int → Option Int → Hp → VK → Prop} (hr : SlR X r) (he : PE X e te) (hl : PO X lo tl) (hu : PO X hi th) : PE X (.Subscript e (.Slice lo hi none p2) pos) (tSl r te tl th) := by
  intro pins s σ H Q I h
  refine Subscript_ (thn (he pins s σ H _ I h) fun v s1 ⟨x, H1, I1, r1, q1⟩ => ?_)
  refine wpAny_Slice (thn (hl pins s1 σ H1 _ I1 q1) fun vl s2 ⟨l, H2, I2, pl, q2⟩ => thn (hu pins s2 σ H2 _ I2 q2) fun vu s3 ⟨u, H3, I3, pu, q3⟩ => ?_)
  rw [evalPart_none]
  refine wpAny_pure ?_
  have I4 : Inv X pins σ H3 { s3 with heap := s3.heap.push { cls := .type "slice", data := .fields #[vl, vu, .none] } } := I3.kept (t' := s3.toks) fun b ob q => Heap.get?_push_of_some _ q
  obtain ⟨T, id, hT, ht, hg⟩ := hr pins { s3 with heap := s3.heap.push { cls := .type "slice", data := .fields #[vl, vu, .none] } } σ H3 x v vl vu l u s3.heap.objs.size Q I4 r1 (Heap.IsSliceOf.new ..) pl pu q3
  show wpAny (model X.prog X.w) X.A (subscriptTail e (.Slice lo hi none p2) v (.ref s3.heap.objs.size)) (EP X pins σ Q) X.xe { s3 with heap := s3.heap.push { cls := .type "slice", data := .fields #[vl, vu, .none] } }
  exact tail_any (ops := [.ref s3.heap.objs.size, v]) ht hT hg (by with_unfolding_all rfl)

def cutV (xs : List V) (lo hi : Option Int) : List V := (xs.drop (HT.sIx xs.length 0 lo)).take (HT.sIx xs.length xs.length hi - HT.sIx xs.length 0 lo)
theorem cutV_length (xs : List V) (lo hi : Option Int) : (cutV xs lo hi).length ≤ xs.length := by
  unfold cutV
  rw [List.length_take, List.length_drop]
  omega
end
end L2

namespace L2
open PySem PySem.Spec PyProof.Rows

def ixN (n : Nat) (i : Int) : Option Nat := if 0 ≤ i then (if i < n then some i.toNat else none) else if -(n : Int) ≤ i then some (i + n).toNat else none
def atI {α : Type} (xs : List α) (i : Int) : Option α := (ixN xs.length i).bind fun j => xs[j]?
theorem ixN_seq {n : Nat} {i : Int} {j : Nat} (h : ixN n i = some j) : seqIndex? i n = some j ∧ j < n ∧ -(n : Int) ≤ i ∧ i < n := by
  unfold ixN at h
  by_cases h0 : 0 ≤ i
  · rw [if_pos h0] at h
    by_cases h1 : i < n
    · rw [if_pos h1] at h
      have e : i.toNat = j := Option.some.inj h
      exact ⟨by rw [seqIndex_of h0 h1, e], by omega, by omega, h1⟩
    · rw [if_neg h1] at h; cases h
  · rw [if_neg h0] at h
    by_cases h1 : -(n : Int) ≤ i
    · rw [if_pos h1] at h
      have e : (i + n).toNat = j := Option.some.inj h
      exact ⟨by rw [seqIndex_neg (by omega) h1, e], by omega, h1, by omega⟩
    · rw [if_neg h1] at h; cases h
theorem atI_get {α : Type} {xs : List α} {i : Int} {v : α} (h : atI xs i = some v) : ∃ j, seqIndex? i xs.length = some j ∧ xs[j]? = some v ∧ j < xs.length ∧ -(xs.length : Int) ≤ i ∧ i < xs.length := by
  unfold atI at h
  cases e : ixN xs.length i with
  | none => rw [e] at h; cases h
  | some j =>
    rw [e] at h
    obtain ⟨h1, h2, h3, h4⟩ := ixN_seq e
    exact ⟨j, h1, h, h2, h3, h4⟩
theorem atI_nat {α : Type} {xs : List α} {j : Nat} {v : α} (h : xs[j]? = some v) : atI xs (j : Int) = some v := by
  have hj : j < xs.length := (List.getElem?_eq_some_iff.mp h).1
  have e : ixN xs.length (j : Int) = some j := by
    unfold ixN
    rw [if_pos (by omega), if_pos (by omega)]; simp
  unfold atI; rw [e]; exact h
theorem atI_last {α : Type} (xs : List α) (v : α) : atI (xs ++ [v]) (-1) = some v := by
  have hl : (xs ++ [v]).length = xs.length + 1 := by simp
  have e : ixN (xs ++ [v]).length (-1) = some xs.length := by
    unfold ixN
    rw [hl, if_neg (by decide), if_pos (by omega)]
    congr 1
    omega
  unfold atI
  rw [e]
  show (xs ++ [v])[xs.length]? = some v
  simp

def PlainIx (b : Expr) : Prop := ∀ o i, subscripted b false o i = operate [o, i] (getItem o i)
def IxR (X : Cx) (r : R2) : Prop :=
  ∀ (value slice : Expr) (pins : List (Addr × Obj)) (s : Shared) (σ : St) (H : Hp) (x y : V) (v u : Value) (Q : VK), Inv X pins σ H s → RelV x v → RelV y u → r x y H Q →
    subscripted slice false v u = operate [v, u] (getItem v u) → wpAny (model X.prog X.w) X.A (subscriptTail value slice v u) (EP X pins σ Q) X.xe s
def MtR (X : Cx) (id : String) (r : V → List V → Hp → VK → Prop) : Prop :=
  ∀ (pins : List (Addr × Obj)) (s : Shared) (σ : St) (H : Hp) (x : V) (xs : List V) (v : Value) (us : List Value) (Q : VK), Inv X pins σ H s → RelV x v → Vals xs us → r x xs H Q →
    wpAny (model X.prog X.w) X.A (call (.builtin id) (v :: us)) (EP X pins σ Q) X.xe s
section
variable {X : Cx} {a b : Expr} {ta tb : TE} {pos : Pos}
theorem pe_ix {r : R2} (hr : IxR X r) (ha : PE X a ta) (hb : PE X b tb) (hs : PlainIx b) : PE X (.Subscript a b pos) (tOp r ta tb) := by
  intro pins s σ H Q I h
  exact Subscript_ (binT ha hb I h fun v u s2 x y H2 I2 rx ry q => hr a b pins s2 σ H2 x y v u Q I2 rx ry q (hs _ _))

def rIxL (K : PySem.W.Frag) : R2 := fun x y H Q => ∃ p xs i v, x = .ref p ∧ y = .int i ∧ SqL K H p xs ∧ atI xs i = some v ∧ Q v H
def rIxT (K : PySem.W.Frag) : R2 := fun x y H Q => ∃ p xs i v, x = .ref p ∧ y = .int i ∧ SqT K H p xs ∧ atI xs i = some v ∧ Q v H
def rIxS : R2 := fun x y H Q => ∃ z i c, x = .str z ∧ y = .int i ∧ z.length ≤ sizeLine ∧ atI z.cps.toList i = some c ∧ Q (.str ⟨#[c]⟩) H
theorem ix_list : IxR X (rIxL X.K) := by
  intro value slice pins s σ H x y v u Q I rx ry h hs
  obtain ⟨p, xs, i, z, rfl, rfl, hq, he, q⟩ := h
  cases rx
  obtain ⟨t, rfl⟩ := ry
  obtain ⟨its, r, pl, hz⟩ := I.list hq
  obtain ⟨j, h1, h2, h3, h4, h5⟩ := atI_get he
  obtain ⟨w, ew, rw'⟩ := r.get h2
  have hl := r.length
  have hn := line63
  have fin : EP X pins σ Q w s := ⟨z, H, I, rw', q⟩
  by_cases h0 : 0 ≤ i
  · have hj : i.toNat = j := by
      rw [seqIndex_of h0 h5] at h1
      exact Option.some.inj h1
    exact item_listR pl.isList h0 (by omega) (by rw [hj]; simpa using ew) fin hs
  · have hj : (i + (its.toArray.size : Int)).toNat = j := by
      rw [seqIndex_neg (by omega) h4] at h1
      rw [List.size_toArray, ← hl]
      exact Option.some.inj h1
    exact subscriptTail_builtinR (x := w) pl.isList.typeIs slot_list_getitem.lookup
      (wpAny_getItem_list_neg (Q := fun r s' => r = w ∧ EP X pins σ Q r s') pl.isList (by omega) (by rw [List.size_toArray] <;> omega) (by omega) (by rw [hj]; simpa using ew) ⟨rfl, fin⟩) hs
theorem ix_tup : IxR X (rIxT X.K) := by
  intro value slice pins s σ H x y v u Q I rx ry h hs
  obtain ⟨p, xs, i, z, rfl, rfl, hq, he, q⟩ := h
  cases rx
  obtain ⟨t, rfl⟩ := ry
  obtain ⟨its, r, pl, hz⟩ := I.tuple hq
  obtain ⟨j, h1, h2, h3, h4, h5⟩ := atI_get he
  obtain ⟨w, ew, rw'⟩ := r.get h2
  have hl := r.length
  have hn := line63
  have fin : EP X pins σ Q w s := ⟨z, H, I, rw', q⟩
  exact subscriptTail_builtinR (x := w) pl.typeIs slot_tuple_getitem.lookup
    (getItem_tuple (j := j) (Q := fun r s' => r = w ∧ EP X pins σ Q r s') pl (by omega) (by omega) (by rw [List.size_toArray, ← hl]; exact h1) (by simpa using ew) ⟨rfl, fin⟩) hs
theorem ix_str : IxR X rIxS := by
  intro value slice pins s σ H x y v u Q I rx ry h hs
  obtain ⟨z, i, c, rfl, rfl, hz, he, q⟩ := h
  obtain ⟨t, rfl⟩ := rx
  obtain ⟨t', rfl⟩ := ry
  obtain ⟨j, h1, h2, h3, h4, h5⟩ := atI_get he
  have hl : z.cps.toList.length = z.length := by simp [Str.length]
  rw [hl] at h1 h4 h5
  have hn := line63
  exact tail_any (typeIs_str s z t) slot_str_getitem.lookup (getItem_str (c := c) (by
    have e1 : decide (i < -(2 ^ 63 : Int)) = false := decide_eq_false (by omega)
    have e2 : decide (i ≥ 2 ^ 63) = false := decide_eq_false (by omega)
    rw [e1, e2, Bool.or_false]) (by rw [h1]; simpa using h2) ⟨.str ⟨#[c]⟩, H, I.tok _, ⟨_, rfl⟩, q⟩) hs
theorem mapSeq_set (its : List Value) (n j : Nat) (u : Value) : Obj.mapSeq (·.setIfInBounds j u) { cls := .type "list", data := .seq its.toArray n } = { cls := .type "list", data := .seq (its.set j u).toArray n } := by
  simp [Obj.mapSeq]
theorem Inv.lst {pins : List (Addr × Obj)} {σ : St} {H : Hp} {s : Shared} {p : Addr} {xs : List V} (I : Inv X pins σ H s) (h : H p = some (.lst xs)) :
    ∃ (its : List Value) (n : Nat), Vals xs its ∧ s.heap.get? p = some { cls := .type "list", data := .seq its.toArray n } ∧ xs.length ≤ sizeLine := by
  obtain ⟨z, its, n, r, e⟩ := I.hok p _ h
  exact ⟨its, n, r, e, z⟩
theorem Inv.lstUpd {pins : List (Addr × Obj)} {σ : St} {H : Hp} {s : Shared} {p : Addr} {xs ys : List V} {its its' : List Value} {n n' : Nat} {f : Obj → Obj} (I : Inv X pins σ H s) (h : H p = some (.lst xs))
    (ho : s.heap.get? p = some { cls := .type "list", data := .seq its.toArray n }) (hf : f { cls := .type "list", data := .seq its.toArray n } = { cls := .type "list", data := .seq its'.toArray n' }) (r : Vals ys its') (hz : ys.length ≤ sizeLine) (t : Nat) :
    Inv X pins σ (upd H p (.lst ys)) { s with heap := s.heap.update p f, toks := t } := by
  have e : (s.heap.update p f).get? p = some { cls := .type "list", data := .seq its'.toArray n' } := by
    rw [Heap.get?_update_self f ho (by rw [hf] <;> rfl), hf]
  refine I.write (x := p) (e := p) (by rw [h]; trivial) (.inl rfl) (fun b u hb q => (Heap.get?_update_other _ _ (Ne.symm hb)).trans q) ⟨_, e⟩ ?_
  exact ⟨hz, its', n', r, e⟩
def rSetL : V → V → V → Hp → (Hp → Prop) → Prop := fun o i v H Q => ∃ p xs k j, o = .ref p ∧ i = .int k ∧ H p = some (.lst xs) ∧ ixN xs.length k = some j ∧ Q (upd H p (.lst (xs.set j v)))
theorem set_list : PSet X rSetL := by
  intro pins s σ H o i v ov iv u Q I ro ri rv h
  obtain ⟨p, xs, k, j, rfl, rfl, hp, hj, q⟩ := h
  cases ro
  obtain ⟨t, rfl⟩ := ri
  obtain ⟨its, n, r, ho, hz⟩ := I.lst hp
  obtain ⟨h1, h2, h3, h4⟩ := ixN_seq hj
  have hl := r.length
  have hn := line63
  have I' : Inv X pins σ (upd H p (.lst (xs.set j v))) { s with heap := s.heap.update p (Obj.mapSeq (·.setIfInBounds j u)) } :=
    I.lstUpd hp ho (mapSeq_set its n j u) (r.set rv j) (by rw [List.length_set]; exact hz) s.toks
  by_cases h0 : 0 ≤ k
  · have hk : k.toNat = j := by
      rw [seqIndex_of h0 h4] at h1
      exact Option.some.inj h1
    exact PySem.W.ki_setAt ho h0 (by omega) (by rw [List.size_toArray, ← hl]; exact h4) (by rw [hk]; exact ⟨_, I', q⟩)
  · have hk : (k + (its.toArray.size : Int)).toNat = j := by
      rw [seqIndex_neg (by omega) h3] at h1
      rw [List.size_toArray, ← hl]
      exact Option.some.inj h1
    exact PySem.W.ki_setBack ho (by omega) (by rw [List.size_toArray, ← hl]; exact h3) (by omega) (by rw [hk]; exact ⟨_, I', q⟩)

theorem slice_bounds (lo hi : Option Int) (n : Nat) : (sliceBounds lo hi none n).1 = ((HT.sIx n 0 lo : Nat) : Int) ∧ (sliceBounds lo hi none n).2.1 = ((HT.sIx n n hi : Nat) : Int) ∧ (sliceBounds lo hi none n).2.2 = 1 := by
  refine ⟨?_, ?_, rfl⟩
  · cases lo with
    | none => simp [sliceBounds, HT.sIx]
    | some i =>
      simp only [sliceBounds, HT.sIx, Option.getD_none, show (1 : Int) > 0 by decide, if_true]
      by_cases h : i < 0
      · simp only [h, if_true] <;> omega
      · simp only [h, if_false] <;> omega
  · cases hi with
    | none => simp [sliceBounds, HT.sIx]
    | some i =>
      simp only [sliceBounds, HT.sIx, Option.getD_none, show (1 : Int) > 0 by decide, if_true]
      by_cases h : i < 0
      · simp only [h, if_true] <;> omega
      · simp only [h, if_false] <;> omega
theorem slicePick_cut (its : List Value) (lo hi : Option Int) : slicePick its.toArray lo hi none = ((its.drop (HT.sIx its.length 0 lo)).take (HT.sIx its.length its.length hi - HT.sIx its.length 0 lo)).toArray := by
  obtain ⟨h1, h2, h3⟩ := slice_bounds lo hi its.toArray.size
  unfold slicePick
  rw [h1, h2, h3]
  simp only [sliceRange_one, pick_run, List.size_toArray] <;> rfl
def rSlL (K : PySem.W.Frag) : V → Option Int → Option Int → Hp → VK → Prop := fun x lo hi H Q => ∃ a xs, x = .ref a ∧ SqL K H a xs ∧ ∀ p, H p = none → Q (.ref p) (upd H p (.lst (cutV xs lo hi)))
theorem sl_list : SlR X (rSlL X.K) := by
  intro pins s σ H x v vl vu lo hi sl Q I rx hs pl pu h
  obtain ⟨a, xs, rfl, hx, q⟩ := h
  cases rx
  obtain ⟨its, r, ht, hz⟩ := I.list hx
  have hlen := r.length
  refine ⟨"list", _, slot_list_getitem.lookup, ht.isList.typeIs, ?_⟩
  refine wpAny_getItem_list_slice ht.isList hs pl pu .none (by simp) ?_ (by rw [List.size_toArray] <;> omega)
  rw [slicePick_cut, ← hlen]
  refine ⟨.ref s.heap.objs.size, _, I.laid (t' := s.toks) (o := .lst (cutV xs lo hi)) (fun b ob q => Heap.get?_push_of_some _ q) (Nat.le_refl _) ?_, rfl, q _ (I.hok.fresh (Nat.le_refl _))⟩
  exact ⟨Nat.le_trans (cutV_length xs lo hi) hz, _, 0, (r.drop (HT.sIx xs.length 0 lo)).take (HT.sIx xs.length xs.length hi - HT.sIx xs.length 0 lo), Heap.get?_push_size _ rfl⟩

def flatV : V → Bool
  | .non => true
  | .bl _ => true
  | .int _ => true
  | .str _ => true
  | _ => false
def eqV : V → V → Bool
  | .non, .non => true
  | .bl a, .bl b => a == b
  | .bl a, .int b => (if a then 1 else 0) == b
  | .int a, .bl b => a == (if b then 1 else 0)
  | .int a, .int b => a == b
  | .str a, .str b => a == b
  | _, _ => false
theorem eqAt_V {A : Around} {s : Shared} {y x : V} {u v : Value} (ry : RelV y u) (rx : RelV x v) (fy : flatV y = true) (fx : flatV x = true) : SeqAt.EqAt A s u v (eqV y x) := by
  cases y with
  | non =>
    cases ry
    cases x with
    | non => cases rx; exact SeqAt.EqAt.same _
    | bl b => cases rx; exact SeqAt.EqAt.none_bool b
    | int b => obtain ⟨t, rfl⟩ := rx; exact SeqAt.EqAt.none_int b t
    | str b => obtain ⟨t, rfl⟩ := rx; exact SeqAt.EqAt.none_str b t
    | _ => exact absurd (show false = true from fx) Bool.false_ne_true
  | bl a =>
    cases ry
    cases x with
    | non => cases rx; exact SeqAt.EqAt.bool_none a
    | bl b => cases rx; exact SeqAt.EqAt.bool_bool a b
    | int b => obtain ⟨t, rfl⟩ := rx; exact SeqAt.EqAt.bool_int a b t
    | str b => obtain ⟨t, rfl⟩ := rx; exact SeqAt.EqAt.bool_str a b t
    | _ => exact absurd (show false = true from fx) Bool.false_ne_true
  | int a =>
    obtain ⟨t', rfl⟩ := ry
    cases x with
    | non => cases rx; exact SeqAt.EqAt.int_none a t'
    | bl b => cases rx; exact SeqAt.EqAt.int_bool a t' b
    | int b => obtain ⟨t, rfl⟩ := rx; exact SeqAt.EqAt.int_int a t' b t
    | str b => obtain ⟨t, rfl⟩ := rx; exact SeqAt.EqAt.int_str a t' b t
    | _ => exact absurd (show false = true from fx) Bool.false_ne_true
  | str a =>
    obtain ⟨t', rfl⟩ := ry
    cases x with
    | non => cases rx; exact SeqAt.EqAt.str_none a t'
    | bl b => cases rx; exact SeqAt.EqAt.str_bool a t' b
    | int b => obtain ⟨t, rfl⟩ := rx; exact SeqAt.EqAt.str_int a t' b t
    | str b => obtain ⟨t, rfl⟩ := rx; exact SeqAt.EqAt.str_str a t' b t
    | _ => exact absurd (show false = true from fx) Bool.false_ne_true
  | _ => exact absurd (show false = true from fy) Bool.false_ne_true
def eqU (x : V) (u : Value) : Bool := match u with
  | .none => eqV .non x
  | .bool b => eqV (.bl b) x
  | .int i _ => eqV (.int i) x
  | .str z _ => eqV (.str z) x
  | _ => false
theorem eqU_of {x y : V} {u : Value} (r : RelV y u) (f : flatV y = true) : eqU x u = eqV y x := by
  cases y with
  | non => cases r; rfl
  | bl b => cases r; rfl
  | int i => obtain ⟨t, rfl⟩ := r; rfl
  | str z => obtain ⟨t, rfl⟩ := r; rfl
  | _ => exact absurd (show false = true from f) Bool.false_ne_true
theorem any_eqU {x : V} : ∀ {xs : List V} {us : List Value}, Vals xs us → xs.all flatV = true → us.any (eqU x) = xs.any fun y => eqV y x
  | _, _, .nil, _ => rfl
  | y :: xs, u :: us, .cons r t, f => by
    rw [List.all_cons, Bool.and_eq_true] at f
    rw [List.any_cons, List.any_cons, eqU_of r f.1, any_eqU t f.2]
theorem mem_eqAt {A : Around} {s : Shared} {x : V} {v : Value} (rx : RelV x v) (fx : flatV x = true) : ∀ {xs : List V} {us : List Value}, Vals xs us → xs.all flatV = true → ∀ u ∈ us, SeqAt.EqAt A s u v (eqU x u)
  | _, _, .nil, _ => fun u hu => by cases hu
  | y :: xs, u :: us, .cons r t, f => fun u' hu => by
    rw [List.all_cons, Bool.and_eq_true] at f
    rcases List.mem_cons.mp hu with rfl | hu
    · rw [eqU_of r f.1]; exact eqAt_V r rx f.1 fx
    · exact mem_eqAt rx fx t f.2 u' hu
def inV (x : V) (xs : List V) : Bool := xs.any fun y => eqV y x
def rIn (K : PySem.W.Frag) (neg : Bool) : R2 := fun x y H Q => ∃ p xs, y = .ref p ∧ (SqL K H p xs ∨ SqT K H p xs) ∧ flatV x = true ∧ xs.all flatV = true ∧ Q (.bl (if neg then !inV x xs else inV x xs)) H
theorem op_in_seq : OpR X (compareOp .In) (rIn X.K false) := by
  intro pins s σ H x y v u Q I rx ry h
  obtain ⟨p, xs, rfl, hq, fx, fs, q⟩ := h
  cases ry
  rcases hq with hq | hq
  · obtain ⟨its, r, pl, hz⟩ := I.list hq
    refine SeqAt.in_listAt (eqU x) pl.isList (fun w hw => mem_eqAt rx fx r fs w (by simpa using hw)) ⟨.bl _, H, I, rfl, ?_⟩
    rw [show its.toArray.any (eqU x) = its.any (eqU x) by simp, any_eqU r fs]
    exact q
  · obtain ⟨its, r, pl, hz⟩ := I.tuple hq
    refine SeqAt.in_tupleAt (eqU x) pl (fun w hw => mem_eqAt rx fx r fs w (by simpa using hw)) ⟨.bl _, H, I, rfl, ?_⟩
    rw [show its.toArray.any (eqU x) = its.any (eqU x) by simp, any_eqU r fs]
    exact q
theorem call_len_seq : CallR X (.builtin "len") (fun xs H Q => ∃ p ys, xs = [.ref p] ∧ (SqL X.K H p ys ∨ SqT X.K H p ys) ∧ Q (.int ys.length) H) := by
  intro pins s σ H xs us Q I r h
  obtain ⟨p, ys, rfl, hq, q⟩ := h
  obtain ⟨u, rfl, rx⟩ := vals1 r
  cases rx
  have hn := line63
  rcases hq with hq | hq
  · obtain ⟨its, r', pl, hz⟩ := I.list hq
    have hlen := r'.length
    exact Calls.call_len_list pl.isList (by simp only [List.size_toArray] <;> omega) ⟨.int ys.length, H, I.tok _, ⟨s.toks + 1, by rw [List.size_toArray, hlen]⟩, q⟩
  · obtain ⟨its, r', pl, hz⟩ := I.tuple hq
    have hlen := r'.length
    exact len_tuple pl (by simp only [List.size_toArray] <;> omega) ⟨.int ys.length, H, I.tok _, ⟨s.toks + 1, by rw [List.size_toArray, hlen]⟩, q⟩
def tyV (K : PySem.W.Frag) (T : String) (x : V) (H : Hp) : Prop := match x with
  | .str _ => T = "str"
  | .int _ => T = "int"
  | .ref p => (T = "list" ∧ ∃ xs, SqL K H p xs) ∨ (T = "tuple" ∧ ∃ o, K.lookup p = some o ∧ o.cls = .type "tuple" ∧ o.dict = none) ∨
      (T = "dict" ∧ ((∃ kvs, H p = some (.dK kvs)) ∨ ∃ kvs, H p = some (.dT kvs))) ∨ (T = "set" ∧ ∃ S n, H p = some (.set S n))
  | _ => False
theorem tyV_is {pins : List (Addr × Obj)} {σ : St} {H : Hp} {s : Shared} {T : String} {x : V} {v : Value} (I : Inv X pins σ H s) (r : RelV x v) (ty : tyV X.K T x H) :
    s.TypeIs v T ∧ ∀ a, v = .ref a → ∃ ob, s.heap.get? a = some ob ∧ ob.dict = none := by
  cases x with
  | str z =>
    obtain ⟨t, rfl⟩ := r
    cases (show T = "str" from ty)
    exact ⟨typeIs_str s z t, fun _ e => nomatch e⟩
  | int i =>
    obtain ⟨t, rfl⟩ := r
    cases (show T = "int" from ty)
    exact ⟨typeIs_int s i t, fun _ e => nomatch e⟩
  | ref p =>
    cases r
    rcases ty with ⟨rfl, xs, hq⟩ | ⟨rfl, o, hk, hc, hd⟩ | ⟨rfl, hk⟩ | ⟨rfl, S, n, hk⟩
    · obtain ⟨its, _, pl, _⟩ := I.list hq
      refine ⟨pl.isList.typeIs, fun a e => ?_⟩
      cases e
      obtain ⟨o, n, e, c, hd, _⟩ := pl
      exact ⟨o, e, hd⟩
    · refine ⟨⟨o, I.kIn p o hk, hc⟩, fun a e => ?_⟩
      cases e
      exact ⟨o, I.kIn _ o hk, hd⟩
    · have z : ∃ o, s.heap.get? p = some o ∧ o.ExactDict := by
        rcases hk with ⟨kvs, hk⟩ | ⟨kvs, hk⟩
        · obtain ⟨_, _, _, _, o, _, _, e, ex, _⟩ := I.hok p _ hk
          exact ⟨o, e, ex⟩
        · obtain ⟨_, _, _, _, o, _, _, e, ex, _⟩ := I.hok p _ hk
          exact ⟨o, e, ex⟩
      obtain ⟨o, e, ex⟩ := z
      refine ⟨⟨o, e, ex.1⟩, fun a e2 => ?_⟩
      cases e2
      exact ⟨o, e, ex.2.1⟩
    · obtain ⟨o, _, _, _, e, ex, _⟩ := I.hok p _ hk
      refine ⟨⟨o, e, ex.1⟩, fun a e2 => ?_⟩
      cases e2
      exact ⟨o, e, ex.2.1⟩
  | _ => exact False.elim ty
def tBM0 (K : PySem.W.Frag) (T : String) (r : V → List V → Hp → VK → Prop) (to : TE) : TE := fun σ H Q => to σ H fun x H1 => tyV K T x H1 ∧ r x [] H1 Q
def tBM (K : PySem.W.Frag) (T : String) (r : V → List V → Hp → VK → Prop) (to : TE) (t : TA) : TE := fun σ H Q => to σ H fun x H1 => tyV K T x H1 ∧ t σ H1 fun xs H2 => r x xs H2 Q
variable {o e : Expr} {es : List Expr} {to : TE} {t : TA} {name : Str} {apos cpos : Pos} {T id : String} {r : V → List V → Hp → VK → Prop}
theorem pe_bm0 (pa : PlainAttrs T) (slot : Slot T name id) (hty : typeOf (.builtin id) = pure (.type "method_descriptor")) (hm : MtR X id r) (ho : PE X o to)
    (hbase : attributeBase o name X.env (eval o X.env) = eval o X.env := by rfl) (hline : (apos.endLine == cpos.line) = true := by rfl) : PE X (.Call (.Attribute o name apos) [] [] cpos) (tBM0 X.K T r to) := by
  intro pins s σ H Q I h
  refine wpAny_Call_method0_late hbase hline (thn (ho pins s σ H _ I h) fun v s1 ⟨x, H1, I1, r1, ty, q1⟩ => ?_)
  obtain ⟨h1, h2⟩ := tyV_is I1 r1 ty
  exact ⟨T, id, pa, slot, hty, h1, h2, Calls.callWith_builtin rfl (PySem.evalArgs_none (hm pins s1 σ H1 x [] v [] Q I1 r1 .nil q1))⟩
theorem pe_bm (pa : PlainAttrs T) (slot : Slot T name id) (hty : typeOf (.builtin id) = pure (.type "method_descriptor")) (hm : MtR X id r) (ho : PE X o to) (ha : PA X (e :: es) t)
    (hbase : attributeBase o name X.env (eval o X.env) = eval o X.env := by rfl)
    (hfew : ((backTo cpos (starEach (e :: es) X.env)).all (fun x => !x.1) && (backToKw cpos (keywordEach [] X.env)).all (fun x => x.1.isSome)
      && decide ((e :: es).length + ([] : List Keyword).length + (if ([] : List Keyword).isEmpty then 0 else 1) < 30)) = true := by rfl)
    (hline : (apos.endLine == cpos.line) = true := by rfl) (hs : starEach (e :: es) X.env = (false, eval e X.env) :: starEach es X.env := by rfl) (hplain : (backTo cpos (starEach es X.env)).any (·.1) = false := by rfl) :
    PE X (.Call (.Attribute o name apos) (e :: es) [] cpos) (tBM X.K T r to t) := by
  intro pins s σ H Q I h
  refine wpAny_Call_method_late hbase hfew hline rfl (thn (ho pins s σ H _ I h) fun v s1 ⟨x, H1, I1, r1, ty, q1⟩ => ?_)
  obtain ⟨h1, h2⟩ := tyV_is I1 r1 ty
  refine ⟨T, id, pa, slot, hty, h1, h2, ?_⟩
  have hA := ha cpos pins s1 σ H1 _ I1 q1
  rw [hs] at hA ⊢
  refine Calls.callWith_builtin (by show (false || (backTo cpos (starEach es X.env)).any (·.1)) = false; rw [hplain] <;> rfl) (Calls.evalArgs_plain ?_)
  exact thn hA fun us s2 ⟨vs, H2, I2, r2, q2⟩ => hm pins s2 σ H2 x vs v us Q I2 r1 r2 q2
end
end L2

namespace L2
open PySem PySem.Spec PyProof.Rows

def MtM (X : Cx) (id : String) (r : V → List V → Hp → VK → Prop) : Prop :=
  ∀ (pins : List (Addr × Obj)) (s : Shared) (σ : St) (H : Hp) (x : V) (xs : List V) (v : Value) (us : List Value) (Q : VK), Inv X pins σ H s → RelV x v → Vals xs us → r x xs H Q →
    wpAny (model X.prog X.w) X.A (call (.builtin id) (v :: us)) (EP X pins σ Q) X.xe s

theorem Vals.one : ∀ {x : V} {us : List Value}, Vals [x] us → ∃ u, us = [u] ∧ RelV x u
  | _, _, .cons r .nil => ⟨_, rfl, r⟩
theorem Vals.two : ∀ {x y : V} {us : List Value}, Vals [x, y] us → ∃ u v, us = [u, v] ∧ RelV x u ∧ RelV y v
  | _, _, _, .cons r (.cons q .nil) => ⟨_, _, rfl, r, q⟩
theorem Vals.zero : ∀ {us : List Value}, Vals [] us → us = []
  | _, .nil => rfl
theorem Vals.dropLast {xs : List V} {us : List Value} (h : Vals xs us) : Vals xs.dropLast us.dropLast := by
  induction h with
  | nil => exact .nil
  | cons r t ih =>
    cases t with
    | nil => exact .nil
    | cons q t' => exact .cons r ih
theorem Vals.eraseIdx : ∀ {xs : List V} {us : List Value} (i : Nat), Vals xs us → Vals (xs.eraseIdx i) (us.eraseIdx i)
  | _, _, _, .nil => .nil
  | _, _, 0, .cons _ t => t
  | _, _, i + 1, .cons r t => .cons r (Vals.eraseIdx i t)
theorem Vals.reverse {xs : List V} {us : List Value} (h : Vals xs us) : Vals xs.reverse us.reverse := by
  induction h with
  | nil => exact .nil
  | cons r t ih => rw [List.reverse_cons, List.reverse_cons]; exact Vals.append ih (.cons r .nil)
theorem Vals.rep {xs : List V} {us : List Value} (h : Vals xs us) : ∀ k : Nat, Vals (List.replicate k xs).flatten (List.replicate k us).flatten
  | 0 => .nil
  | k + 1 => by
    rw [List.replicate_succ, List.replicate_succ, List.flatten_cons, List.flatten_cons]
    exact Vals.append h (Vals.rep h k)
theorem erase_last {α : Type} (l : List α) : l.eraseIdx (l.length - 1) = l.dropLast := by
  induction l with
  | nil => rfl
  | cons a r ih =>
    cases r with
    | nil => rfl
    | cons b r =>
      have e : (a :: b :: r).length - 1 = ((b :: r).length - 1) + 1 := by
        have h1 : (a :: b :: r).length = r.length + 2 := rfl
        have h2 : (b :: r).length = r.length + 1 := rfl
        omega
      rw [e, List.eraseIdx_cons_succ, ih]
      all_goals rfl
theorem foldl_rep (its : List Value) : ∀ (k : Nat) (acc : List Value),
    List.foldl (fun x1 x2 => x1 ++ x2) acc.toArray (List.replicate k its.toArray) = (acc ++ (List.replicate k its).flatten).toArray
  | 0, acc => by simp
  | k + 1, acc => by
    have e : acc.toArray ++ its.toArray = (acc ++ its).toArray := by simp
    have e2 : (acc ++ its) ++ (List.replicate k its).flatten = acc ++ (List.replicate (k + 1) its).flatten := by
      rw [List.replicate_succ, List.flatten_cons, List.append_assoc]
    rw [← e2, ← foldl_rep its k (acc ++ its), ← e, List.replicate_succ, List.foldl_cons]

section
variable {X : Cx} {pins : List (Addr × Obj)} {σ : St} {H : Hp} {s : Shared} {l b : Addr} {xs ys zs : List V}

theorem Inv.lset {its its' : List Value} {n : Nat} {f : Array Value → Array Value} {t' : Nat} (I : Inv X pins σ H s) (hH : H l = some (.lst xs))
    (e : s.heap.get? l = some { cls := .type "list", data := .seq its.toArray n }) (hf : f its.toArray = its'.toArray) (hv : Vals ys its') (hz : ys.length ≤ sizeLine) :
    Inv X pins σ (upd H l (.lst ys)) { s with heap := s.heap.update l (Obj.mapSeq f), toks := t' } := by
  have q := PySem.IsL.update e f
  rw [hf] at q
  refine I.write (x := l) (e := l) (by rw [hH]; exact trivial) (.inl rfl) (fun b' u hb hu => (Heap.get?_update_other s.heap (Obj.mapSeq f) (Ne.symm hb)).trans hu) ⟨_, q⟩ ?_
  exact ⟨hz, its', _, hv, q⟩
theorem Inv.lnew {its : List Value} {t' : Nat} (I : Inv X pins σ H s) (hv : Vals ys its) (hz : ys.length ≤ sizeLine) :
    Inv X pins σ (upd H s.heap.objs.size (.lst ys)) { s with heap := s.heap.push { cls := .type "list", data := .seq its.toArray }, toks := t' } :=
  I.laid (fun _ _ q => Heap.get?_push_of_some _ q) (Nat.le_refl _) ⟨hz, its, 0, hv, Heap.get?_push_size _ rfl⟩
theorem Inv.fresh (I : Inv X pins σ H s) : H s.heap.objs.size = none := I.hok.fresh (Nat.le_refl _)
theorem Inv.lstM (I : Inv X pins σ H s) (hH : H l = some (.lst xs)) : xs.length ≤ sizeLine ∧ ∃ (its : List Value) (n : Nat), Vals xs its ∧ xs.length = its.length ∧ s.heap.get? l = some { cls := .type "list", data := .seq its.toArray n } := by
  obtain ⟨z, its, n, r, e⟩ := I.hok l _ hH
  exact ⟨z, its, n, r, r.length, e⟩

theorem notLongL {n : Nat} (h : n ≤ sizeLine) : Builtin.List.listTooLong n = false := by
  unfold Builtin.List.listTooLong
  exact decide_eq_false (by omega)
end

section
variable {X : Cx}

def rAppend : V → List V → Hp → VK → Prop := fun x vs H Q => ∃ l xs y, x = .ref l ∧ vs = [y] ∧ H l = some (.lst xs) ∧ xs.length < sizeLine ∧ Q .non (upd H l (.lst (xs ++ [y])))
theorem mt_append : MtM X "list.append" rAppend := by
  intro pins s σ H x vs v us Q I rx rv h
  obtain ⟨l, xs, y, rfl, rfl, hH, hz, q⟩ := h
  cases rx
  obtain ⟨u, rfl, ru⟩ := rv.one
  obtain ⟨z, its, n, r, hl, e⟩ := I.lstM hH
  refine call_meets F.slot_list_append ⟨_, e, rfl⟩ F.entry_list_append (F.args_list_append_2 _ _) (PySem.list_append l its.toArray n u (by rw [List.size_toArray]; omega)) ⟨e, ?_⟩
  refine ⟨.non, _, I.lset (its' := its ++ [u]) hH e (by simp) (r.append (.cons ru .nil)) ?_, rfl, q⟩
  rw [List.length_append, List.length_singleton]
  omega

def rExtend : V → List V → Hp → VK → Prop := fun x vs H Q => ∃ l b xs zs, x = .ref l ∧ vs = [.ref b] ∧ H l = some (.lst xs) ∧ H b = some (.lst zs) ∧ xs.length + zs.length ≤ sizeLine ∧ Q .non (upd H l (.lst (xs ++ zs)))
theorem mt_extend : MtM X "list.extend" rExtend := by
  intro pins s σ H x vs v us Q I rx rv h
  obtain ⟨l, b, xs, zs, rfl, rfl, hH, hB, hz, q⟩ := h
  cases rx
  obtain ⟨u, rfl, ru⟩ := rv.one
  cases ru
  obtain ⟨z, its, n, r, hl, e⟩ := I.lstM hH
  obtain ⟨z2, its2, n2, r2, hl2, e2⟩ := I.lstM hB
  have hsz : its.toArray.size + its2.toArray.size ≤ sizeLine := by rw [List.size_toArray, List.size_toArray]; omega
  have hlong : ¬ (!its.toArray.isEmpty && Builtin.List.listTooLong (its.toArray.size + its2.toArray.size)) = true := by
    rw [notLongL hsz, Bool.and_false]
    exact Bool.false_ne_true
  refine call_meets F.slot_list_extend ⟨_, e, rfl⟩ F.entry_list_extend (F.args_list_extend_2 _ _)
    (AutoSeq1.list_extend_list_list_0 l its.toArray n b its2.toArray n2 hlong (by rw [List.size_toArray]; omega) (by omega)) ⟨e, e2, ?_⟩
  refine ⟨.non, _, I.lset (its' := its ++ its2) hH e (by simp) (r.append r2) ?_, rfl, q⟩
  rw [List.length_append]
  omega

def rPop : V → List V → Hp → VK → Prop := fun x vs H Q => ∃ l xs y, x = .ref l ∧ vs = [] ∧ H l = some (.lst xs) ∧ xs[xs.length - 1]? = some y ∧ Q y (upd H l (.lst xs.dropLast))
theorem mt_pop : MtM X "list.pop" rPop := by
  intro pins s σ H x vs v us Q I rx rv h
  obtain ⟨l, xs, y, rfl, rfl, hH, hy, q⟩ := h
  cases rx
  have hus := rv.zero
  subst hus
  obtain ⟨z, its, n, r, hl, e⟩ := I.lstM hH
  obtain ⟨u, hu, ru⟩ := r.get hy
  have hy' : its.toArray[its.toArray.size - 1]? = some u := by
    show its.toArray[its.length - 1]? = some u
    rw [← Array.getElem?_toList, ← hl]
    exact hu
  refine call_meets F.slot_list_pop ⟨_, e, rfl⟩ F.entry_list_pop (F.args_list_pop_1 _) (MeetsSeq.list_pop_last l its.toArray n u hy' (by rw [List.size_toArray]; omega)) ⟨e, ?_⟩
  refine ⟨y, _, I.lset (its' := its.dropLast) hH e ?_ r.dropLast ?_, ru, q⟩
  · show its.toArray.eraseIdxIfInBounds (its.toArray.size - 1) = its.dropLast.toArray
    rw [List.size_toArray, List.eraseIdxIfInBounds_toArray, erase_last]
  · rw [List.length_dropLast]
    omega

def rCat : R2 := fun x y H Q => ∃ l b xs zs, x = .ref l ∧ y = .ref b ∧ H l = some (.lst xs) ∧ H b = some (.lst zs) ∧ xs.length + zs.length ≤ sizeLine ∧ ∀ p, H p = none → Q (.ref p) (upd H p (.lst (xs ++ zs)))
theorem op_cat : OpR X (binaryOp .Add) rCat := by
  intro pins s σ H x y v u Q I rx ry h
  obtain ⟨l, b, xs, zs, rfl, rfl, hH, hB, hz, q⟩ := h
  cases rx
  cases ry
  obtain ⟨z, its, n, r, hl, e⟩ := I.lstM hH
  obtain ⟨z2, its2, n2, r2, hl2, e2⟩ := I.lstM hB
  refine PySem.P.add_list e e2 ?_ (by rw [List.size_toArray, List.size_toArray]; omega)
  have ea : its.toArray ++ its2.toArray = (its ++ its2).toArray := by simp
  rw [ea]
  exact ⟨.ref _, _, I.lnew (t' := s.toks) (r.append r2) (by rw [List.length_append]; omega), rfl, q _ I.fresh⟩
def rRep : R2 := fun x y H Q => ∃ l k xs, x = .ref l ∧ y = .int k ∧ H l = some (.lst xs) ∧ -(2 ^ 63) ≤ k ∧ k < 2 ^ 63 ∧ xs.length * k.toNat ≤ sizeLine ∧
  ∀ p, H p = none → Q (.ref p) (upd H p (.lst (List.replicate k.toNat xs).flatten))
theorem len_rep {α : Type} (xs : List α) (k : Nat) : (List.replicate k xs).flatten.length = k * xs.length := by
  induction k with
  | zero => simp
  | succ k ih => rw [List.replicate_succ, List.flatten_cons, List.length_append, ih, Nat.succ_mul, Nat.add_comm]
theorem op_rep : OpR X (binaryOp .Mult) rRep := by
  intro pins s σ H x y v u Q I rx ry h
  obtain ⟨l, k, xs, rfl, rfl, hH, h1, h2, hz, q⟩ := h
  cases rx
  obtain ⟨t, rfl⟩ := ry
  obtain ⟨z, its, n, r, hl, e⟩ := I.lstM hH
  have hlen : its.toArray.size * k.toNat ≤ sizeLine := by rw [List.size_toArray, ← hl]; exact hz
  have hcap : ¬ its.toArray.size * k.toNat > (2 ^ 63 - 1) / 8 := by
    have : (sizeLine : Nat) ≤ (2 ^ 63 - 1) / 8 := by decide
    omega
  have hfit : ¬ (!Builtin.List.listFitsIndex k) = true := by
    rw [fitsIndex_both h1 h2]
    exact Bool.false_ne_true
  have hlong : ¬ Builtin.List.listTooLong (its.toArray.size * k.toNat) = true := by
    rw [notLongL hlen]
    exact Bool.false_ne_true
  have hnew : List.foldl (fun x1 x2 => x1 ++ x2) #[] (List.replicate (if its.toArray.isEmpty = true then 0 else k.toNat) its.toArray) = (List.replicate k.toNat its).flatten.toArray := by
    have f0 : ∀ m : Nat, List.foldl (fun x1 x2 => x1 ++ x2) #[] (List.replicate m its.toArray) = (List.replicate m its).flatten.toArray := fun m => by
      have := foldl_rep its m []
      rw [List.nil_append] at this
      exact this
    rw [f0]
    cases its with
    | nil => simp
    | cons a r' => rw [if_neg (by simp)]
  refine wpAny_binaryOp_repeat_ref (T := "list") (U := "int") (by decide) ⟨_, e, rfl⟩ (fun s' => typeIs_int s' k t) noFill_list_mul F.fills_int_mul F.slot_int_rmul repeat_list F.slot_int_index.lookup
    (call_meets F.slot_int_rmul (typeIs_int s k t) F.entry_int_rmul (F.args_int_rmul_2 _ _) (int___rmul___int_list k t l its.toArray n)
      ⟨e, rfl, ⟨_, e, rfl⟩, call_meets F.slot_list_mul ⟨_, e, rfl⟩ F.entry_list_mul (F.args_list_mul_2 _ _) (AutoListH.list___mul___list_int_3 l its.toArray n k t hfit hcap hlong) ⟨e, ?_⟩⟩)
  rw [hnew]
  exact ⟨.ref _, _, I.lnew (t' := s.toks) (r.rep k.toNat) (by rw [len_rep, Nat.mul_comm]; exact hz), rfl, q _ I.fresh⟩

end

section
variable {prog : Program} {w : World} {A : Around} {E : Value → Shared → Prop} {s : Shared}
end

section
variable {X : Cx}
end
end L2

namespace L2
open PySem PySem.Spec PyProof.Rows

theorem Vals.ints : ∀ {ns : List Int} {us : List Value}, Vals (ns.map V.int) us → IntsAre us ns
  | [], us, h => by
    rw [List.map_nil] at h
    cases h
    exact IntsAre.nil
  | n :: ns, us, h => by
    rw [List.map_cons] at h
    cases h with
    | cons r t =>
      obtain ⟨k, rfl⟩ := r
      exact IntsAre.cons n k (Vals.ints t)
theorem Vals.strs : ∀ {xs : List Str} {us : List Value}, Vals (xs.map V.str) us → StrsAre us xs
  | [], us, h => by
    rw [List.map_nil] at h
    cases h
    exact StrsAre.nil
  | x :: xs, us, h => by
    rw [List.map_cons] at h
    cases h with
    | cons r t =>
      obtain ⟨k, rfl⟩ := r
      exact StrsAre.cons x k (Vals.strs t)
section
variable {prog : Program} {w : World} {A : Around} {E : Value → Shared → Prop} {s : Shared} {l : Addr} {its : List Value} {ns : List Int} {Q : Value → Shared → Prop}
end

section
variable {X : Cx}
end

section
variable {X : Cx}
end

section
variable {X : Cx}
end

section
variable {X : Cx}
end

section
variable {X : Cx} {pins : List (Addr × Obj)} {σ : St} {H : Hp} {s : Shared}
end
section
variable {X : Cx}
end
end L2

namespace L2
open PySem PySem.Spec PyProof.Rows
abbrev CellAt (h : Heap) (c : Addr) (v : Option Value) : Prop := h.IsCell c v
def relS (scope sc : Scope) : Scope :=
  { scope with names := scope.names.map fun (n, k) => if (k == .free && sc.kind == .function && sc.names.lookup n == some .cell) then (n, .cell) else (n, k) }

def cloFrom (cells : List (Str × Addr)) : List (Str × NameKind) → List (Str × Addr) → List (Str × Addr)
  | [], acc => acc
  | (n, k) :: r, acc => if k == .free then cloFrom cells r ((n, (cells.lookup n).getD 0) :: acc) else cloFrom cells r acc

theorem closure_loop (env : Env) (f : Str × NameKind → List (Str × Addr) → Sem (ForInStep (List (Str × Addr))))
    (hf : ∀ n k c, f (n, k) c = if k == .free then (do let a ← cellOf env n; pure (.yield ((n, a) :: c))) else pure (.yield c)) :
    ∀ (names : List (Str × NameKind)) (acc : List (Str × Addr)), (∀ y ∈ names, y.2 = .free → ∃ c, env.cells.lookup y.1 = some c) → forIn names acc f = pure (cloFrom env.cells names acc)
  | [], acc, _ => by rw [List.forIn_nil]; rfl
  | (n, k) :: r, acc, h => by
    rw [List.forIn_cons, hf]
    have ih := fun acc => closure_loop env f hf r acc fun y hy => h y (List.mem_cons_of_mem _ hy)
    unfold cloFrom
    by_cases hk : (k == NameKind.free) = true
    · rw [if_pos hk, if_pos hk]
      obtain ⟨c, hc⟩ := h (n, k) List.mem_cons_self (by simpa using hk)
      have e : cellOf env n = pure c := by unfold cellOf; rw [hc]
      rw [e]
      have e2 : (env.cells.lookup n).getD 0 = c := by rw [hc]; rfl
      rw [e2]
      exact ih _
    · rw [if_neg hk, if_neg hk]
      exact ih _
theorem closure_ok {scope : Scope} {env : Env} (h : ∀ y ∈ scope.names, y.2 = .free → ∃ c, env.cells.lookup y.1 = some c) : closureFor scope env = pure (cloFrom env.cells scope.names []) := by
  simp only [closureFor]
  rw [closure_loop env _ (fun n k c => rfl) scope.names [] h]
  rfl

theorem mem_lookup {α : Type} : ∀ {l : List (Str × α)} {n : Str} {c : α}, (n, c) ∈ l → ∃ c', l.lookup n = some c'
  | (k, v) :: r, n, c, h => by
    rw [List.lookup_cons]
    cases hb : n == k with
    | true => exact ⟨_, rfl⟩
    | false =>
      rcases List.mem_cons.mp h with e | h
      · cases e; simp at hb
      · exact mem_lookup h

theorem cloFrom_mem {cells : List (Str × Addr)} : ∀ {names : List (Str × NameKind)} {acc : List (Str × Addr)} {n : Str} {c : Addr}, (n, c) ∈ cloFrom cells names acc → (n, c) ∈ acc ∨ ((n, .free) ∈ names ∧ c = (cells.lookup n).getD 0)
  | [], _, _, _, h => .inl h
  | (m, k) :: r, acc, n, c, h => by
    unfold cloFrom at h
    split at h
    · rename_i hk
      have hk : k = .free := by simpa using hk
      rcases cloFrom_mem h with h | ⟨h1, h2⟩
      · rcases List.mem_cons.mp h with e | h
        · cases e; exact .inr ⟨hk ▸ List.mem_cons_self, rfl⟩
        · exact .inl h
      · exact .inr ⟨List.mem_cons_of_mem _ h1, h2⟩
    · rcases cloFrom_mem h with h | ⟨h1, h2⟩
      · exact .inl h
      · exact .inr ⟨List.mem_cons_of_mem _ h1, h2⟩
theorem cloFrom_acc {cells : List (Str × Addr)} : ∀ {names : List (Str × NameKind)} {acc : List (Str × Addr)} {p : Str × Addr}, p ∈ acc → p ∈ cloFrom cells names acc
  | [], _, _, h => h
  | (m, k) :: r, acc, p, h => by
    unfold cloFrom
    split
    · exact cloFrom_acc (List.mem_cons_of_mem _ h)
    · exact cloFrom_acc h
theorem cloFrom_has {cells : List (Str × Addr)} : ∀ {names : List (Str × NameKind)} {acc : List (Str × Addr)} {n : Str}, (n, .free) ∈ names → (n, (cells.lookup n).getD 0) ∈ cloFrom cells names acc
  | (m, k) :: r, acc, n, h => by
    unfold cloFrom
    rcases List.mem_cons.mp h with e | h
    · cases e
      exact cloFrom_acc List.mem_cons_self
    · split
      · exact cloFrom_has h
      · exact cloFrom_has h

theorem cells_mem : ∀ {names : List (Str × NameKind)} {h : Heap} {acc : List (Str × Addr)} {x : Str} {c : Addr}, (x, c) ∈ cellsFrom h.objs.size names acc →
    (x, c) ∈ acc ∨ ((x, .cell) ∈ names ∧ h.objs.size ≤ c ∧ CellAt (pushCells h names) c none)
  | [], _, _, _, _, h => .inl h
  | (n, k) :: r, h, acc, x, c, hm => by
    unfold cellsFrom at hm
    unfold pushCells
    split at hm
    · rename_i hk
      rw [if_pos hk]
      have hk : k = .cell := by simpa using hk
      rw [← Heap.size_push h { cls := .type "cell", data := .cell none }] at hm
      rcases cells_mem hm with hm | ⟨h1, h2, h3⟩
      · rcases List.mem_cons.mp hm with e | hm
        · cases e
          exact .inr ⟨hk ▸ List.mem_cons_self, Nat.le_refl _, _, pushCells_keeps r _ _ _ (Heap.get?_push_size _ rfl), rfl⟩
        · exact .inl hm
      · rw [Heap.size_push] at h2
        exact .inr ⟨List.mem_cons_of_mem _ h1, Nat.le_of_succ_le h2, h3⟩
    · rename_i hk
      rw [if_neg hk]
      rcases cells_mem hm with hm | ⟨h1, h2, h3⟩
      · exact .inl hm
      · exact .inr ⟨List.mem_cons_of_mem _ h1, h2, h3⟩
theorem cells_acc : ∀ {names : List (Str × NameKind)} {n : Nat} {acc : List (Str × Addr)} {p : Str × Addr}, p ∈ acc → p ∈ cellsFrom n names acc
  | [], _, _, _, h => h
  | (m, k) :: r, n, acc, p, h => by
    unfold cellsFrom
    split
    · exact cells_acc (List.mem_cons_of_mem _ h)
    · exact cells_acc h
theorem cells_has : ∀ {names : List (Str × NameKind)} {n : Nat} {acc : List (Str × Addr)} {x : Str}, (x, .cell) ∈ names → ∃ c, (x, c) ∈ cellsFrom n names acc
  | (m, k) :: r, n, acc, x, h => by
    unfold cellsFrom
    rcases List.mem_cons.mp h with e | h
    · cases e
      exact ⟨n, cells_acc List.mem_cons_self⟩
    · split
      · exact cells_has h
      · exact cells_has h
theorem cells_inj : ∀ {names : List (Str × NameKind)} {h : Heap} {acc : List (Str × Addr)} {x y : Str} {c : Addr}, (∀ p ∈ acc, p.2 < h.objs.size) → (∀ x y c, (x, c) ∈ acc → (y, c) ∈ acc → x = y) →
    (x, c) ∈ cellsFrom h.objs.size names acc → (y, c) ∈ cellsFrom h.objs.size names acc → x = y
  | [], _, _, _, _, _, _, hi, h1, h2 => hi _ _ _ h1 h2
  | (n, k) :: r, h, acc, x, y, c, hl, hi, h1, h2 => by
    unfold cellsFrom at h1 h2
    split at h1
    · rename_i hk
      rw [if_pos hk] at h2
      rw [← Heap.size_push h { cls := .type "cell", data := .cell none }] at h1 h2
      refine cells_inj (h := h.push _) (fun p hp => ?_) (fun x y c a b => ?_) h1 h2
      · rw [Heap.size_push]
        rcases List.mem_cons.mp hp with rfl | hp
        · exact Nat.lt_succ_self _
        · exact Nat.lt_succ_of_lt (hl p hp)
      · rcases List.mem_cons.mp a with e | a <;> rcases List.mem_cons.mp b with e' | b
        · cases e; cases e'; rfl
        · cases e; exact absurd (hl _ b) (Nat.lt_irrefl _)
        · cases e'; exact absurd (hl _ a) (Nat.lt_irrefl _)
        · exact hi _ _ _ a b
    · rename_i hk
      rw [if_neg hk] at h2
      exact cells_inj hl hi h1 h2

theorem newEnv_comp {M : Model} {A : Around} {E : Value → Shared → Prop} {s : Shared} {scope : Scope} {globals : Addr} {closure : List (Str × Addr)} {qual : Str} {func : Option Addr} {code : Value} {around : Env} {builtins : Addr} {Q : Env → Shared → Prop}
    (h : Q (newEnv scope s.heap.objs.size globals (cellsFrom (s.heap.objs.size + 1) scope.names closure) qual func code (some around) builtins)
      { s with heap := pushCells (s.heap.push { cls := .type "dict", data := .dict #[] }) scope.names }) :
    wpAny M A (newFunctionEnv scope globals closure [] qual func code (some around) builtins) Q E s := by
  simp only [newFunctionEnv, Option.isSome_some, if_true]
  refine wpAny_bind (wpAny_alloc ?_)
  refine wpAny_bind (wpAny_layCells _ (fun n k c => rfl) scope.names closure _ _ ?_)
  rw [show ({ s with heap := s.heap.push { cls := .type "dict", data := .dict #[] } } : Shared).heap.objs.size = s.heap.objs.size + 1 from Heap.size_push ..]
  rw [List.forIn_nil]
  exact wpAny_bind (wpAny_pure (wpAny_pure h))

theorem lookup_relS {sc : Scope} : ∀ {names : List (Str × NameKind)} {x : Str} {k : NameKind},
    (names.map fun (n, k) => if (k == NameKind.free && sc.kind == .function && sc.names.lookup n == some .cell) then (n, NameKind.cell) else (n, k)).lookup x = some k →
    ∃ k', names.lookup x = some k' ∧ (k = k' ∨ (k' = .free ∧ k = .cell))
  | [], _, _, h => by simp at h
  | (n, k₀) :: r, x, k, h => by
    have ih := @lookup_relS sc r x k
    have h' : List.lookup x ((if (k₀ == NameKind.free && sc.kind == .function && sc.names.lookup n == some .cell) = true then (n, NameKind.cell) else (n, k₀)) :: (r.map _)) = some k := h
    cases hx : x == n with
    | true =>
      simp only [List.lookup_cons, hx]
      by_cases hc : (k₀ == NameKind.free && sc.kind == .function && sc.names.lookup n == some .cell) = true
      · rw [if_pos hc] at h'
        simp only [List.lookup_cons, hx] at h'
        cases h'
        simp only [Bool.and_eq_true, beq_iff_eq] at hc
        exact ⟨k₀, rfl, .inr ⟨hc.1.1, rfl⟩⟩
      · rw [if_neg hc] at h'
        simp only [List.lookup_cons, hx] at h'
        cases h'
        exact ⟨_, rfl, .inl rfl⟩
    | false =>
      simp only [List.lookup_cons, hx]
      by_cases hc : (k₀ == NameKind.free && sc.kind == .function && sc.names.lookup n == some .cell) = true
      · rw [if_pos hc] at h'
        simp only [List.lookup_cons, hx] at h'
        exact ih h'
      · rw [if_neg hc] at h'
        simp only [List.lookup_cons, hx] at h'
        exact ih h'
structure BlkOk (N : List Str) (sc scope : Scope) (own : List (Str × Nat)) : Prop where
  kind : scope.kind = .function
  uniq : ∀ y ∈ scope.names, scope.names.lookup y.1 = some y.2
  ix : ∀ p ∈ own, N[p.2]? = some p.1
  free : ∀ y ∈ scope.names, y.2 = .free → sc.names.lookup y.1 = some .cell ∨ sc.names.lookup y.1 = some .free
  own : ∀ y ∈ scope.names, y.2 = .local ∨ y.2 = .cell → y.1 ∈ own.map (·.1) ∨ y.1 ∉ N
def wipe (σ : St) : List Nat → St
  | [] => σ
  | v :: vs => (wipe σ vs).set v none
theorem wipe_length (σ : St) : ∀ vs : List Nat, (wipe σ vs).length = σ.length
  | [] => rfl
  | v :: vs => by unfold wipe; rw [List.length_set, wipe_length σ vs]
theorem wipe_some {σ : St} {i : Nat} {x : V} : ∀ {vs : List Nat}, (wipe σ vs)[i]? = some (some x) → σ[i]? = some (some x) ∧ i ∉ vs
  | [], h => ⟨h, by simp⟩
  | v :: vs, h => by
    unfold wipe at h
    by_cases hi : v = i
    · subst hi
      by_cases hv : v < (wipe σ vs).length
      · rw [List.getElem?_set_self hv] at h; cases h
      · rw [List.getElem?_eq_none (by simpa using hv)] at h; cases h
    · rw [List.getElem?_set_ne hi] at h
      obtain ⟨h1, h2⟩ := wipe_some h
      exact ⟨h1, by simp only [List.mem_cons, not_or]; exact ⟨fun e => hi e.symm, h2⟩⟩

abbrev Cx.blk (X : Cx) (s : Shared) (H : Hp) (scope : Scope) (cenv : Env) (fp : List Addr) : Cx := { X with s_0 := s, H_0 := H, env := cenv, outer := X.stack, ex := fp, fn := fun x => scope.names.lookup x == some .cell, pn := [], xe := fun _ _ => False }
section
variable {X : Cx} {pins : List (Addr × Obj)} {σ : St} {H : Hp} {s : Shared}
theorem block_start {scope : Scope} {own : List (Str × Nat)} {fp : List Addr} (I : Inv X pins σ H s) (ok : BlkOk X.N X.env.scope scope own) (hN : X.N.Nodup) (hfp : ∀ b ∈ fp, FpOk X pins H b ∧ b < s.heap.objs.size) :
    Inv (X.blk s H scope (compEnvC scope (cellsFrom (s.heap.objs.size + 1) scope.names (cloFrom X.env.cells scope.names [])) s.heap.objs.size X.env) fp) [] (wipe σ (own.map (·.2))) H { s with heap := pushCells (s.heap.push { cls := .type "dict", data := .dict #[] }) scope.names } := by
  have hfree : ∀ y ∈ scope.names, y.2 = .free → ∃ c, X.env.cells.lookup y.1 = some c := fun y hy e => by
    rcases ok.free y hy e with k | k
    · exact I.ok.has _ (.inl k)
    · exact I.ok.has _ (.inr k)
  generalize hcenv : compEnvC scope (cellsFrom (s.heap.objs.size + 1) scope.names (cloFrom X.env.cells scope.names [])) s.heap.objs.size X.env = cenv
  have kp : ∀ b o, s.heap.get? b = some o → (pushCells (s.heap.push { cls := .type "dict", data := .dict #[] }) scope.names).get? b = some o := fun b o e => pushCells_keeps _ _ _ _ (Heap.get?_push_of_some _ e)
  have hL : cenv.locals = s.heap.objs.size := by rw [← hcenv]; rfl
  have hcl : cenv.cells = cellsFrom (s.heap.objs.size + 1) scope.names (cloFrom X.env.cells scope.names []) := by rw [← hcenv]; rfl
  have hsc : cenv.scope = relS scope X.env.scope := by rw [← hcenv]; rfl
  rw [← Heap.size_push s.heap { cls := .type "dict", data := .dict #[] }] at hcl
  have cm : ∀ {y c}, (y, c) ∈ cloFrom X.env.cells scope.names [] → X.env.cells.lookup y = some c ∧ c < s.heap.objs.size := fun {y c} hm => by
    rcases cloFrom_mem hm with hm | ⟨h1, rfl⟩
    · cases hm
    · obtain ⟨c, hc⟩ := hfree _ h1 rfl
      rw [hc]
      obtain ⟨w, z⟩ := I.cell _ _ hc
      exact ⟨rfl, z.lt⟩
  have mem : ∀ {y c}, cenv.cells.lookup y = some c → (X.env.cells.lookup y = some c ∧ c < s.heap.objs.size) ∨ (s.heap.objs.size + 1 ≤ c ∧ CellAt (pushCells (s.heap.push { cls := .type "dict", data := .dict #[] }) scope.names) c none) := fun {y c} e => by
    rw [hcl] at e
    rcases cells_mem (PySem.mem_of_lookup e) with hm | ⟨_, h2, h3⟩
    · exact .inl (cm hm)
    · rw [Heap.size_push] at h2; exact .inr ⟨h2, h3⟩
  have look : ∀ {y}, scope.names.lookup y = some .free → ∃ c, cenv.cells.lookup y = some c ∧ X.env.cells.lookup y = some c := fun {y} hl => by
    have hy : (y, NameKind.free) ∈ scope.names := PySem.mem_of_lookup hl
    obtain ⟨c', e'⟩ := mem_lookup (cells_acc (names := scope.names) (n := (s.heap.push { cls := .type "dict", data := .dict #[] }).objs.size) (cloFrom_has (cells := X.env.cells) (acc := []) hy))
    rw [← hcl] at e'
    refine ⟨c', e', ?_⟩
    rw [hcl] at e'
    rcases cells_mem (PySem.mem_of_lookup e') with hm | ⟨h1, _, _⟩
    · exact (cm hm).1
    · have := ok.uniq _ h1
      rw [hl] at this; cases this
  have okB : (X.blk s H scope cenv fp).Ok := by
    refine ⟨I.ok.mod, by show cenv.scope.kind = _; rw [hsc]; exact ok.kind, by show cenv.globals = _; rw [← hcenv]; exact I.ok.glob, by show cenv.builtins = _; rw [← hcenv]; exact I.ok.blt, by show s.heap.objs.size ≤ cenv.locals; rw [hL]; exact Nat.le_refl _,
      fun y z c e1 e2 => ?_, fun y hy => ?_, fun y c z e => ?_, I.ok.hd, I.ok.frames, .inl rfl, fun b hb => ⟨?_, fun y c e z => ?_⟩, I.bs, Nat.le_trans I.ok.bsz I.sz, fun b o e hb => ?_, fun b hb z => ?_, I.stack, I.stkFree⟩
    · have e1 : cenv.cells.lookup y = some c := e1
      have e2 : cenv.cells.lookup z = some c := e2
      rw [hcl] at e1 e2
      refine cells_inj (fun p hp => ?_) (fun y z c a b => I.ok.inj y z c (cm a).1 (cm b).1) (PySem.mem_of_lookup e1) (PySem.mem_of_lookup e2)
      rw [Heap.size_push]
      exact Nat.lt_succ_of_lt (cm (y := p.1) (c := p.2) hp).2
    · show ∃ c, cenv.cells.lookup y = some c
      have key : ∀ k, cenv.kindOf y = some k → (k = .cell ∨ k = .free) → ∃ c, cenv.cells.lookup y = some c := fun k hk hk' => by
        unfold Env.kindOf at hk
        rw [hsc] at hk
        obtain ⟨k', e, r⟩ := lookup_relS hk
        have : k' = .cell ∨ k' = .free := by
          rcases r with rfl | ⟨rfl, _⟩
          · exact hk'
          · exact .inr rfl
        rcases this with rfl | rfl
        · obtain ⟨c, hm⟩ := cells_has (n := (s.heap.push { cls := .type "dict", data := .dict #[] }).objs.size) (acc := cloFrom X.env.cells scope.names []) (PySem.mem_of_lookup e)
          obtain ⟨c', e'⟩ := mem_lookup hm
          exact ⟨c', by rw [hcl]; exact e'⟩
        · obtain ⟨c, h1, _⟩ := look e
          exact ⟨c, h1⟩
      rcases hy with hy | hy
      · exact key _ hy (.inl rfl)
      · exact key _ hy (.inr rfl)
    · have z : (scope.names.lookup y == some NameKind.cell) = true := z
      have z : scope.names.lookup y = some .cell := by simpa using z
      have e : cenv.cells.lookup y = some c := e
      rw [hcl] at e
      rcases cells_mem (PySem.mem_of_lookup e) with hm | ⟨_, h2, _⟩
      · rcases cloFrom_mem hm with hm | ⟨h1, _⟩
        · cases hm
        · have q := ok.uniq _ h1
          rw [z] at q; cases q
      · rw [Heap.size_push] at h2
        exact Nat.le_of_succ_le h2
    · show b ≠ cenv.locals
      rw [hL]; exact Nat.ne_of_lt (hfp b hb).2
    · have e : cenv.cells.lookup y = some c := e
      rcases mem e with ⟨h1, _⟩ | ⟨h1, _⟩
      · exact (hfp b hb).1.2.2.2.2.1 y c h1 z
      · have h2 : s.heap.objs.size + 1 ≤ b := by rw [← z]; exact h1
        exact absurd (Nat.lt_of_lt_of_le (hfp b hb).2 (Nat.le_of_succ_le h2)) (Nat.lt_irrefl _)
    · rcases (hfp b hb).1.2.2.2.1 with z | z
      · exact I.ok.noex b o e z
      · exact absurd (Nat.lt_of_lt_of_le (Heap.lt_size e) (Nat.le_trans I.ok.bsz z)) (Nat.lt_irrefl _)
    · rcases List.mem_cons.mp (I.stkSub b z) with z | z
      · exact (hfp b hb).1.2.1 z
      · exact (hfp b hb).1.2.2.1 z
  refine ⟨okB, rfl, I.bare, Un.kept kp, ⟨fun _ => none, ?_, fun i y av e1 e2 e3 => ?_⟩, fun y c e => ?_, ?_, fun y c e => ?_, fun p hp => ?_, I.hok.kept kp, by rw [wipe_length]; exact I.len⟩
  · show Heap.Ns _ cenv.locals _
    rw [hL]
    exact Heap.Ns.keeps (Heap.Ns.new ..) fun b o e => pushCells_keeps _ _ _ _ e
  · obtain ⟨e2, hne⟩ := wipe_some e2
    have hfr : scope.names.lookup y = some .free ∧ (cenv.kindOf y = some .cell ∨ cenv.kindOf y = some .free) := by
      have key : ∀ k, cenv.scope.names.lookup y = some k → k = .local ∨ k = .cell ∨ k = .free → scope.names.lookup y = some .free ∧ (cenv.kindOf y = some .cell ∨ cenv.kindOf y = some .free) := fun k hk hk' => by
        have hk0 := hk
        rw [hsc] at hk
        obtain ⟨k', e, r⟩ := lookup_relS hk
        have no : ¬ (k' = .local ∨ k' = .cell) := fun hh => by
          rcases ok.own _ (PySem.mem_of_lookup e) hh with e' | e'
          · obtain ⟨p, hp, hpy⟩ := List.mem_map.mp e'
            have e3 := ok.ix p hp
            have : p.1 = y := hpy
            rw [this] at e3
            exact hne (List.mem_map.mpr ⟨p, hp, nodup_ix hN e3 e1⟩)
          · exact e' (List.mem_of_getElem? e1)
        rcases r with rfl | ⟨rfl, rfl⟩
        · rcases hk' with rfl | rfl | rfl
          · exact absurd (.inl rfl) no
          · exact absurd (.inr rfl) no
          · exact ⟨e, .inr hk0⟩
        · exact ⟨e, .inl hk0⟩
      have e3 : Vis cenv.scope y := e3
      rcases e3 with e3 | e3 | e3
      · exact key _ e3 (.inl rfl)
      · exact key _ e3 (.inr (.inl rfl))
      · exact key _ e3 (.inr (.inr rfl))
    obtain ⟨m, hn, hl⟩ := I.loc
    have hvis : Vis X.env.scope y := (ok.free _ (PySem.mem_of_lookup hfr.1) rfl).elim (fun k => .inr (.inl k)) (fun k => .inr (.inr k))
    obtain ⟨w, r, q⟩ := hl i y av e1 e2 hvis
    refine ⟨w, r, .inr ⟨hfr.2, ?_⟩⟩
    obtain ⟨c, h1, h2⟩ := look hfr.1
    rcases q with ⟨k, _⟩ | ⟨_, c', e', z⟩
    · have k : X.env.scope.names.lookup y = some .local := k
      rcases ok.free _ (PySem.mem_of_lookup hfr.1) rfl with k' | k' <;> rw [show X.env.scope.names.lookup y = _ from k'] at k <;> cases k
    · rw [h2] at e'; cases e'
      exact ⟨c, h1, z.keeps kp⟩
  · have e : cenv.cells.lookup y = some c := e
    rcases mem e with ⟨h1, _⟩ | ⟨_, z⟩
    · obtain ⟨w, z⟩ := I.cell y c h1
      exact ⟨w, z.keeps kp⟩
    · exact ⟨_, z⟩
  · show H cenv.locals = none
    rw [hL]; exact I.hok.fresh (Nat.le_refl _)
  · have e : cenv.cells.lookup y = some c := e
    rcases mem e with ⟨h1, _⟩ | ⟨h1, _⟩
    · exact I.freeC y c h1
    · exact I.hok.fresh (Nat.le_of_succ_le h1)
  · exact absurd (show p ∈ ([] : List (Addr × Obj)) ++ [] from hp) (by simp)

theorem app_ok {E : Value → Shared → Prop} {D : Addr} {xs : List V} {y : V} {v : Value} {Q : Value → Shared → Prop} (I : Inv X pins σ H s) (hD : H D = some (.lst xs)) (hz : xs.length < sizeLine) (r : RelV y v)
    (h : ∀ s', Inv X pins σ (upd H D (.lst (xs ++ [y]))) s' → Q .none s') : wpAny (model X.prog X.w) X.A (call (.builtin "list.append") [.ref D, v]) Q E s := by
  obtain ⟨hz', its, n, ri, e⟩ := I.hok D _ hD
  have hl := ri.length
  refine append_at (hsz := by rw [List.size_toArray]; omega) e fun h' sb ho' => ?_
  refine h { s with heap := h' } (I.write (t' := s.toks) (by rw [hD]; trivial) (.inl rfl) (fun b u hb q => (sb.2 b hb).trans q) ⟨_, ho'⟩ ⟨by rw [List.length_append]; exact hz, its ++ [v], n + 1, ri.append (.cons r .nil), ?_⟩)
  rw [ho']
  simp

def PTs (X : Cx) (ifs : List Expr) (t : TT) : Prop :=
  ∀ (pins : List (Addr × Obj)) (s : Shared) (σ : St) (H : Hp) (Q : Bool → Hp → Prop), Inv X pins σ H s → t σ H Q →
    wpAny (model X.prog X.w) X.A (forIn ifs true fun c r => if r = true then do let ok ← isTrue c X.env (eval c X.env); pure (ForInStep.yield ok) else pure (ForInStep.yield r)) (TP X pins σ Q) X.xe s
def tYes : TT := fun _ H Q => Q true H
theorem pts_nil : PTs X [] tYes := fun _ _ _ H _ I h => wpAny_tests_nil ⟨H, I, h⟩
end

theorem thnF {α : Type} {t : Sem α} {Q Q' : α → Shared → Prop} {M : Model} {A : Around} {E : Value → Shared → Prop} {s : Shared} (h : wpAny M A t Q (fun _ _ => False) s) (hQ : ∀ a s, Q a s → Q' a s) : wpAny M A t Q' E s := wpAny_mono h hQ fun _ _ z => False.elim z

theorem compLoop_any {prog : Program} {w : World} {A : Around} {R : Result → Shared → Prop} {s : Shared} {elt target iter : Expr} {ifs : List Expr} {scope : Scope} {pos : Pos} {it acc : Value} {env : Env} (I : Nat → Shared → Prop)
    (turn : ∀ n s, I n s → wpAny (model prog w) A (pyNext it) (fun r s₁ => match r with
      | none => R (.ok .next) s₁
      | some v => wpAny (model prog w) A (letOwnedTupleGo target it v) (fun _ s₁' => wpAny (model prog w) A (assign target env v) (fun _ s₂ =>
          wpAny (model prog w) A (forIn ifs true fun c r => if r = true then do let ok ← isTrue c env (eval c env); pure (ForInStep.yield ok) else pure (ForInStep.yield r)) (fun ok s₃ =>
            if ok = true then wpAny (model prog w) A (eval elt env) (fun x s₄ =>
              wpAny (model prog w) A (call (.builtin "list.append") [acc, x]) (fun _ s₅ => ∃ m, m < n ∧ I m s₅) (notedBy (model prog w) A env fun e s' => R (.error e) s') s₄) (notedBy (model prog w) A env fun e s' => R (.error e) s') s₃
            else ∃ m, m < n ∧ I m s₃) (notedBy (model prog w) A env fun e s' => R (.error e) s') s₂) (notedBy (model prog w) A env fun e s' => R (.error e) s') s₁') (notedBy (model prog w) A env fun e s' => R (.error e) s') s₁) (notedBy (model prog w) A env fun e s' => R (.error e) s') s)
    (n : Nat) (h : I n s) :
    codeAny (model prog w) A (.compLoop (.ListComp elt [⟨target, iter, ifs, 0⟩] scope pos) 0 it acc env) R s := by
  refine codeAny_loop rfl I (fun n s hI => ?_) n h
  show wpAny _ A ((compTurn (.ListComp elt [⟨target, iter, ifs, 0⟩] scope pos) 0 it acc env).onRaise (fun x => do noteFrame x env; theTreesLotGoes x)) _ _ s
  refine wpAny_noted ?_
  rw [compTurn_list]
  refine wpAny_bind (wpAny_standAt (wpAny_bind (wpAny_mono (turn n s hI) (fun r s₁ h₁ => ?_) fun _ _ h' => h')))
  cases r with
  | none => exact wpAny_pure h₁
  | some v =>
    refine wpAny_bind (wpAny_mono h₁ (fun _ s₁' h₁' => ?_) fun _ _ h' => h')
    refine wpAny_bind (wpAny_mono h₁' (fun _ s₂ h₂ => wpAny_bind (wpAny_mono h₂ (fun ok s₃ h₃ => ?_) fun _ _ h' => h')) fun _ _ h' => h')
    cases ok with
    | false => exact wpAny_pure ⟨rfl, h₃⟩
    | true =>
      exact wpAny_bind (wpAny_bind (wpAny_mono h₃ (fun x s₄ h₄ => wpAny_bind (wpAny_mono h₄ (fun _ s₅ h₅ => wpAny_pure (wpAny_pure ⟨rfl, h₅⟩)) fun _ _ h' => h')) fun _ _ h' => h'))

section
variable {X : Cx}
def tLc (wi : TI) (g : TG) (tt : TT) (te : TE) (vs : List Nat) : TE := fun σ H Q => wi σ H fun J H1 => ∀ D, H1 D = none → ∃ W : Nat → Nat → Hp → Prop, (∃ m, W 0 m (upd H1 D (.lst []))) ∧ ∀ i m H, W i m H →
  (J.stop i H ∧ Q (.ref D) H) ∨ (J.go i H ∧ ∃ Nx : Hp → Prop, (∀ H', Nx H' → ∃ m', m' < m ∧ W (i + 1) m' H') ∧ ∀ x H', J.yld i H x H' → g x (wipe σ vs) H' fun σ2 H2 => wipe σ2 vs = wipe σ vs ∧ tt σ2 H2 fun b H3 =>
    if b = true then te σ2 H3 fun y H4 => ∃ acc, H4 D = some (.lst acc) ∧ acc.length < sizeLine ∧ Nx (upd H4 D (.lst (acc ++ [y]))) else Nx H3)
theorem lc_core {pins : List (Addr × Obj)} {s : Shared} {σ : St} {H : Hp} {Q : VK} {elt tg iter : Expr} {ifs : List Expr} {scope : Scope} {own : List (Str × Nat)} {pos pos' : Pos} {wi : TI} {g : TG} {tt : TT} {te : TE} {use : Option (Value → Sem Unit)} {Qf : Value → Shared → Prop}
    (hc : X.calm = true) (hN : X.N.Nodup) (I : Inv X pins σ H s) (hi : PI X tg iter wi) (ok : BlkOk X.N X.env.scope scope own)
    (hg : ∀ (s : Shared) (H : Hp) (C : Addr) (cl : List (Str × Addr)) (fp : List Addr), PG (X.blk s H scope (compEnvC scope cl C X.env) fp) tg g) (ht : ∀ (s : Shared) (H : Hp) (C : Addr) (cl : List (Str × Addr)) (fp : List Addr), PTs (X.blk s H scope (compEnvC scope cl C X.env) fp) ifs tt)
    (he : ∀ (s : Shared) (H : Hp) (C : Addr) (cl : List (Str × Addr)) (fp : List Addr), PE (X.blk s H scope (compEnvC scope cl C X.env) fp) elt te) (hs : ∀ x, foldedSetIterable iter X.env x = pure x)
    (h : tLc wi g tt te (own.map (·.2)) σ H Q)
    (hRR : ∀ D C s' m H', Inv X pins σ H' s' → Q (.ref D) H' → s'.heap.Ns C m → FpOk X pins H' C → compPost (model X.prog X.w) X.A X.xe use Qf (.ref D) C (.ok .next) s') :
    wpAny (model X.prog X.w) X.A (comprehension (.ListComp elt [⟨tg, iter, ifs, 0⟩] scope pos) scope X.env pos' (newList []) false (eval iter X.env) use) Qf X.xe s := by
  have hfree : ∀ y ∈ scope.names, y.2 = .free → ∃ c, X.env.cells.lookup y.1 = some c := fun y hy e => by
    rcases ok.free y hy e with k | k
    · exact I.ok.has _ (.inl k)
    · exact I.ok.has _ (.inr k)
  refine wpAny_comprehension_free (use := use) rfl hs (closure_ok hfree) ok.kind (fun y hy e => by rw [ok.uniq y hy, e])
    (thn (hi pins s σ H _ I h) fun xv s1 hx => thn hx fun itv s2 h2 => ?_)
  obtain ⟨it, fp, tn, J, H2, e, I2, T, st2, f2, q⟩ := h2
  subst e
  refine wpAny_newObj_type (newEnv_comp ?_) (by show 0 ≤ sizeLine; decide)
  generalize hD : s2.heap.objs.size = D
  have hDn : H2 D = none := I2.hok.fresh (Nat.le_of_eq hD)
  obtain ⟨W, ⟨m0, w0⟩, turn⟩ := q D hDn
  -- the new list
  generalize hs3 : ({ s2 with heap := s2.heap.push { cls := .type "list", data := .seq ([] : List Value).toArray } } : Shared) = s3
  have I3 : Inv X pins σ (upd H2 D (.lst [])) s3 := by
    rw [← hs3]
    refine I2.laid (t' := s2.toks) (fun b o e => Heap.get?_push_of_some _ e) (Nat.le_of_eq hD) ⟨Nat.zero_le _, [], 0, .nil, ?_⟩
    rw [← hD]
    exact Heap.get?_push_size _ rfl
  have h3 : s3.heap = s2.heap.push { cls := .type "list", data := .seq ([] : List Value).toArray } := by rw [← hs3]
  have sz : ∀ b ∈ fp, b < s2.heap.objs.size := fun b hb => by
    obtain ⟨o, e, _⟩ := T.obj _ _ st2 b hb
    exact Heap.lt_size e
  have f3 : ∀ b ∈ fp, FpOk X pins (upd H2 D (.lst [])) b ∧ b < s3.heap.objs.size := fun b hb => by
    have hlt := sz b hb
    refine ⟨⟨?_, (f2 b hb).2⟩, by rw [h3, Heap.size_push]; exact Nat.lt_succ_of_lt hlt⟩
    rw [upd_ne (by rw [← hD]; exact Nat.ne_of_lt hlt)]
    exact (f2 b hb).1
  have st3 : tn 0 s3.heap := T.keep _ _ _ st2 fun b _ o e => by rw [h3]; exact Heap.get?_push_of_some _ e
  have I4 := block_start I3 ok hN f3
  have pg := hg s3 (upd H2 D (.lst [])) s3.heap.objs.size (cellsFrom (s3.heap.objs.size + 1) scope.names (cloFrom X.env.cells scope.names [])) fp
  have pt := ht s3 (upd H2 D (.lst [])) s3.heap.objs.size (cellsFrom (s3.heap.objs.size + 1) scope.names (cloFrom X.env.cells scope.names [])) fp
  have pe := he s3 (upd H2 D (.lst [])) s3.heap.objs.size (cellsFrom (s3.heap.objs.size + 1) scope.names (cloFrom X.env.cells scope.names [])) fp
  show codeAny _ _ (.compStart (.ListComp elt [⟨tg, iter, ifs, 0⟩] scope pos) 0 (.ref it) (.ref D) (compEnvC scope (cellsFrom (s3.heap.objs.size + 1) scope.names (cloFrom X.env.cells scope.names [])) s3.heap.objs.size X.env)) (compPost (model X.prog X.w) X.A X.xe use Qf (.ref D) s3.heap.objs.size) { s3 with heap := pushCells (s3.heap.push { cls := .type "dict", data := .dict #[] }) scope.names }
  have nfp : ∀ b ∈ fp, (upd H2 D (.lst [])) b = none := fun b hb => (f3 b hb).1.1
  generalize hce : compEnvC scope (cellsFrom (s3.heap.objs.size + 1) scope.names (cloFrom X.env.cells scope.names [])) s3.heap.objs.size X.env = ce at I4 pg pt pe ⊢
  have cL : ce.locals = s3.heap.objs.size := by subst hce; rfl
  generalize hH3 : upd H2 D (.lst []) = H3 at I3 I4 pg pt pe w0 nfp f3
  generalize hs4 : ({ s3 with heap := pushCells (s3.heap.push { cls := .type "dict", data := .dict #[] }) scope.names } : Shared) = s4 at I4 ⊢
  have st4 : tn 0 s4.heap := T.keep _ _ _ st3 fun b _ o e => by rw [← hs4]; exact pushCells_keeps _ _ _ _ (Heap.get?_push_of_some _ e)
  have stat : ∀ {σ' : St} {H' : Hp} {s' : Shared}, Inv (X.blk s3 H3 scope ce fp) [] σ' H' s' → (∀ b ∈ fp, H' b = none) → ∀ b ∈ fp, FpOk (X.blk s3 H3 scope ce fp) [] H' b := fun {σ' H' s'} I' hn b hb =>
    ⟨hn b hb, (I'.ok.exf b hb).1, I'.ok.exfs b hb, .inl hb, fun x c e => (I'.ok.exf b hb).2 x c e, fun p hp => absurd (show p ∈ ([] : List (Addr × Obj)) ++ [] from hp) (by simp)⟩
  have loop : codeAny (model X.prog X.w) X.A (.compLoop (.ListComp elt [⟨tg, iter, ifs, 0⟩] scope pos) 0 (.ref it) (.ref D) ce) (compPost (model X.prog X.w) X.A X.xe use Qf (.ref D) s3.heap.objs.size) s4 := by
    refine compLoop_any (fun n s' => ∃ i H', Inv (X.blk s3 H3 scope ce fp) [] (wipe σ (own.map (·.2))) H' s' ∧ tn i s'.heap ∧ (∀ b ∈ fp, H' b = none) ∧ W i n H') ?_ m0 ⟨0, H3, I4, st4, nfp, w0⟩
    rintro n s5 ⟨i, H5, I5, st5, n5, w5⟩
    rcases turn i n H5 w5 with ⟨stop, qq⟩ | ⟨go, Nx, hNx, step⟩
    · have td := T.done (X.blk s3 H3 scope ce fp) rfl rfl rfl hc i [] s5 _ H5 (fun _ _ => False) I5 (stat I5 n5) st5 stop
      refine thnF td fun r s6 ⟨hr, I6⟩ => ?_
      subst hr
      -- back in the def's context
      have I7 : Inv X pins σ H5 s6 := I3.call' (ch := fp) I6.os I6.base I6.hok I6.bare fun b hb => ⟨(f3 b hb).1.2.2.2.1, (f3 b hb).1.2.1, (f3 b hb).1.2.2.2.2.1, (f3 b hb).1.2.2.2.2.2⟩
      have nC : H5 s3.heap.objs.size = none := by
        have z : H5 ce.locals = none := I6.free
        rw [cL] at z
        exact z
      obtain ⟨m, hn, _⟩ := I6.loc
      have hn : s6.heap.Ns ce.locals m := hn
      rw [cL] at hn
      exact hRR D s3.heap.objs.size s6 m H5 I7 qq hn (I3.fpOk (Nat.le_refl _) nC)
    · have ti := T.item (X.blk s3 H3 scope ce fp) rfl rfl rfl hc i [] s5 _ H5 (fun _ _ => False) I5 (stat I5 n5) st5 go
      refine thnF ti fun r s6 ⟨u, hr, h6⟩ => ?_
      subst hr
      refine thnF h6 fun _ s7 ⟨x, H7, I7, r7, y7, st7, n7⟩ => ?_
      have I7' := I7.pinned (stat I7 n7) (T.obj _ _ st7)
      refine thnF (pg _ s7 _ H7 x u _ I7' r7 (step x H7 y7)) fun _ s8 ⟨σ8, H8, I8, hw8, q8⟩ => ?_
      refine thnF (pt _ s8 σ8 H8 _ I8 q8) fun b s9 ⟨H9, I9, q9⟩ => ?_
      -- the turn's end
      have fin : ∀ {s' : Shared} {H' : Hp}, Inv (X.blk s3 H3 scope ce fp) ([] ++ pinsAt fp s7.heap) σ8 H' s' → Nx H' → ∃ m, m < n ∧ ∃ i H', Inv (X.blk s3 H3 scope ce fp) [] (wipe σ (own.map (·.2))) H' s' ∧ tn i s'.heap ∧ (∀ b ∈ fp, H' b = none) ∧ W i m H' := fun {s' H'} I' nx => by
        obtain ⟨m', hm, w'⟩ := hNx H' nx
        have pin' : ∀ b ∈ fp, ∀ o, s7.heap.get? b = some o → s'.heap.get? b = some o ∧ H' b = none := fun b hb o e =>
          let z := I'.pin (b, o) (List.mem_append_right _ (List.mem_append_right _ (mem_pinsAt hb e)))
          ⟨z.1, z.2.1⟩
        have hl : (wipe σ (own.map (·.2))).length = σ8.length := by rw [← hw8, wipe_length]
        refine ⟨m', hm, i + 1, H', (I'.unpinned (pins := [])).weak hl (fun j v e => ?_), T.keep _ _ _ st7 fun b hb o e => (pin' b hb o e).1, fun b hb => ?_, w'⟩
        · rw [← hw8] at e
          exact (wipe_some e).1
        · obtain ⟨o, e, _⟩ := T.obj _ _ st7 b hb
          exact (pin' b hb o e).2
      cases b with
      | false =>
        simp only [Bool.false_eq_true, if_false] at q9 ⊢
        exact fin I9 q9
      | true =>
        simp only [if_true] at q9 ⊢
        refine thnF (pe _ s9 σ8 H9 _ I9 q9) fun z s10 ⟨yv, H10, I10, r10, acc, hD10, hz10, nx⟩ => ?_
        exact app_ok (X := X.blk s3 H3 scope ce fp) I10 hD10 hz10 r10 fun s11 I11 => fin I11 nx
  exact codeAny_compStart_list loop (T.self X.A 0 _ _ _ st4 loop)
theorem pe_lc {elt tg iter : Expr} {ifs : List Expr} {scope : Scope} {own : List (Str × Nat)} {pos : Pos} {wi : TI} {g : TG} {tt : TT} {te : TE} (hc : X.calm = true) (hN : X.N.Nodup) (hi : PI X tg iter wi) (ok : BlkOk X.N X.env.scope scope own)
    (hg : ∀ (s : Shared) (H : Hp) (C : Addr) (cl : List (Str × Addr)) (fp : List Addr), PG (X.blk s H scope (compEnvC scope cl C X.env) fp) tg g) (ht : ∀ (s : Shared) (H : Hp) (C : Addr) (cl : List (Str × Addr)) (fp : List Addr), PTs (X.blk s H scope (compEnvC scope cl C X.env) fp) ifs tt)
    (he : ∀ (s : Shared) (H : Hp) (C : Addr) (cl : List (Str × Addr)) (fp : List Addr), PE (X.blk s H scope (compEnvC scope cl C X.env) fp) elt te) (hs : ∀ x, foldedSetIterable iter X.env x = pure x := by intro _; rfl) :
    PE X (.ListComp elt [⟨tg, iter, ifs, 0⟩] scope pos) (tLc wi g tt te (own.map (·.2))) := by
  intro pins s σ H Q I h
  rw [eval_ListComp]
  refine lc_core hc hN I hi ok hg ht he hs h fun D C s' m H' I' q hn f => ⟨m, hn, fun h'' sb => ?_⟩
  obtain ⟨f0, f1, f2, f3, f4, f5⟩ := f
  exact ⟨.ref D, H', I'.turned (t' := s'.toks) (fun b o hb e => (sb.2 b hb).trans e) f0 f1 f3 f4 f5, rfl, q⟩
end

def blkC (N : List Str) (sc scope : Scope) (own : List (Str × Nat)) : Bool :=
  (match scope.kind with | .function => true | _ => false) && (scope.names.all fun y => decide (scope.names.lookup y.1 = some y.2)) && (own.all fun p => decide (N[p.2]? = some p.1)) &&
    (scope.names.all fun y => match y.2 with
      | .free => (match sc.names.lookup y.1 with | some .cell => true | some .free => true | _ => false)
      | .local => decide (y.1 ∈ own.map (·.1)) || decide (y.1 ∉ N)
      | .cell => decide (y.1 ∈ own.map (·.1)) || decide (y.1 ∉ N)
      | _ => true)
theorem blkOk_by {N : List Str} {sc scope : Scope} {own : List (Str × Nat)} (h : blkC N sc scope own = true) : BlkOk N sc scope own := by
  unfold blkC at h
  simp only [Bool.and_eq_true, List.all_eq_true, decide_eq_true_eq] at h
  obtain ⟨⟨⟨h1, h2⟩, h3⟩, h4⟩ := h
  refine ⟨?_, h2, h3, fun y hy e => ?_, fun y hy e => ?_⟩
  · split at h1
    · assumption
    · cases h1
  · have q := h4 y hy
    simp only [e] at q
    split at q <;> first | exact .inl (by assumption) | exact .inr (by assumption) | cases q
  · have q := h4 y hy
    rcases e with e | e <;> (simp only [e, Bool.or_eq_true, decide_eq_true_eq] at q; exact q)
end L2

namespace L2
open PySem PySem.Spec PyProof.Rows

section
variable {prog : Program} {w : World} {A : Around} {R : Result → Shared → Prop} {s : Shared} {elt t0 i0 t1 i1 : Expr} {ifs0 ifs1 : List Expr} {scope : Scope} {pos : Pos} {it acc : Value} {env : Env}
end

section
variable {X : Cx}
end
end L2

namespace L2
open PySem PySem.Spec PyProof.Rows

section
variable {κ : Type} [DecidableEq κ]
def valV (kvs : List (κ × V)) (k : κ) : Option V := (kvs.find? fun kv => decide (kv.1 = k)).map (·.2)
def putK (kvs : List (κ × V)) (k : κ) (v : V) : List (κ × V) :=
  if (kvs.any fun kv => decide (kv.1 = k)) = true then kvs.map (fun kv => if kv.1 = k then (kv.1, v) else kv) else kvs ++ [(k, v)]
def dropK (kvs : List (κ × V)) (k : κ) : List (κ × V) := kvs.filter fun kv => decide (kv.1 ≠ k)

theorem valV_pos {p : κ × V} {r : List (κ × V)} {k : κ} (e : p.1 = k) : valV (p :: r) k = some p.2 := by simp [valV, List.find?_cons, e]
theorem valV_neg {p : κ × V} {r : List (κ × V)} {k : κ} (e : ¬ p.1 = k) : valV (p :: r) k = valV r k := by simp [valV, List.find?_cons, e]
theorem RelO.getD {o : Option V} {u : Option Value} {d : V} {d' : Value} (r : RelO o u) (rd : RelV d d') : RelV (o.getD d) (u.getD d') := by
  cases o with
  | none => cases u with
    | none => exact rd
    | some _ => exact (show False from r).elim
  | some _ => cases u with
    | none => exact (show False from r).elim
    | some _ => exact r

theorem KV.val {kvs : List (κ × V)} {vs : List (κ × Value)} (r : KV kvs vs) (k : κ) : RelO (valV kvs k) (valueAt vs k) := by
  unfold KV at r
  induction r with
  | nil => exact True.intro
  | @cons p q ps qs h t ih =>
    obtain ⟨h1, h2⟩ := h
    by_cases e : p.1 = k
    · have e' : q.1 = k := h1.symm.trans e
      have b : valueAt (q :: qs) k = some q.2 := by simp [valueAt, List.find?_cons, e']
      rw [valV_pos e, b]; exact h2
    · have e' : ¬ q.1 = k := fun z => e (h1.trans z)
      have b : valueAt (q :: qs) k = valueAt qs k := by simp [valueAt, List.find?_cons, e']
      rw [valV_neg e, b]; exact ih
theorem KV.any {kvs : List (κ × V)} {vs : List (κ × Value)} (r : KV kvs vs) (k : κ) : (kvs.any fun kv => decide (kv.1 = k)) = vs.any fun kv => decide (kv.1 = k) := by
  unfold KV at r
  induction r with
  | nil => rfl
  | cons h t ih => rw [List.any_cons, List.any_cons, ih, h.1]
theorem KV.drop {kvs : List (κ × V)} {vs : List (κ × Value)} (r : KV kvs vs) (k : κ) : KV (dropK kvs k) (without vs k) := by
  unfold KV at r ⊢
  unfold dropK without
  induction r with
  | nil => exact .nil
  | @cons p q ps qs h t ih =>
    obtain ⟨h1, h2⟩ := h
    rw [List.filter_cons, List.filter_cons]
    by_cases e : p.1 = k
    · have a : ¬ decide (p.1 ≠ k) = true := by simp [e]
      have b : ¬ decide (q.1 ≠ k) = true := by simp [h1.symm.trans e]
      rw [if_neg a, if_neg b]; exact ih
    · have e' : ¬ q.1 = k := fun z => e (h1.trans z)
      have a : decide (p.1 ≠ k) = true := by simp [e]
      have b : decide (q.1 ≠ k) = true := by simp [e']
      rw [if_pos a, if_pos b]; exact .cons ⟨h1, h2⟩ ih
theorem KV.keys {kvs : List (κ × V)} {vs : List (κ × Value)} (r : KV kvs vs) : kvs.map (·.1) = vs.map (·.1) := by
  unfold KV at r
  induction r with
  | nil => rfl
  | cons h t ih => rw [List.map_cons, List.map_cons, ih, h.1]
theorem KV.length {kvs : List (κ × V)} {vs : List (κ × Value)} (r : KV kvs vs) : kvs.length = vs.length := Paired.length r
end


abbrev KT (H : Hp) : List (List Key × V) → List (List Key × Addr × Value) → Prop := Paired fun p q => p.1 = q.1 ∧ H q.2.1 = some (.tup (p.1.map kV)) ∧ RelV p.2 q.2.2
theorem KT.val {H : Hp} {kvs : List (List Key × V)} {xs : List (List Key × Addr × Value)} (r : KT H kvs xs) (k : List Key) : RelO (valV kvs k) ((atKey xs k).map (·.2)) := by
  induction r with
  | nil => exact True.intro
  | @cons p q ps qs h t ih =>
    obtain ⟨h1, _, h2⟩ := h
    by_cases e : p.1 = k
    · have e' : q.1 = k := h1.symm.trans e
      have b : atKey (q :: qs) k = some q.2 := by simp [atKey, List.find?_cons, e']
      rw [valV_pos e, b]; exact h2
    · have e' : ¬ q.1 = k := fun z => e (h1.trans z)
      have b : atKey (q :: qs) k = atKey qs k := by simp [atKey, List.find?_cons, e']
      rw [valV_neg e, b]; exact ih
theorem KT.keeps {H H' : Hp} {kvs : List (List Key × V)} {xs : List (List Key × Addr × Value)} (r : KT H kvs xs) (ht : ∀ b ys, H b = some (.tup ys) → H' b = some (.tup ys)) : KT H' kvs xs :=
  Paired.mapP r fun _ _ z => ⟨z.1, ht _ _ z.2.1, z.2.2⟩

section
variable {P : Program} {w : World} {H : Hp} {h : Heap} {a : Addr}
end

def DGet (H : Hp) (a : Addr) (y : V) (r : Option V) : Prop :=
  (∃ kvs k, Rd H a (.dK kvs) ∧ y = kV k ∧ r = valV kvs k) ∨ ∃ kvs k b, Rd H a (.dT kvs) ∧ y = .ref b ∧ H b = some (.tup (k.map kV)) ∧ r = valV kvs k
def DPut (H : Hp) (a : Addr) (y v : V) (H' : Hp) : Prop :=
  (∃ kvs k, H a = some (.dK kvs) ∧ y = kV k ∧ kvs.length < sizeLine ∧ H' = upd H a (.dK (putK kvs k v))) ∨
  ∃ kvs k b, H a = some (.dT kvs) ∧ y = .ref b ∧ H b = some (.tup (k.map kV)) ∧ kvs.length < sizeLine ∧ H' = upd H a (.dT (putK kvs k v))
theorem DGet.k {H : Hp} {a : Addr} {kvs : List (Key × V)} {k : Key} (e : H a = some (.dK kvs)) : DGet H a (kV k) (valV kvs k) := .inl ⟨kvs, k, .inl e, rfl, rfl⟩
theorem DGet.t {H : Hp} {a b : Addr} {kvs : List (List Key × V)} {k : List Key} (e : H a = some (.dT kvs)) (eb : H b = some (.tup (k.map kV))) : DGet H a (.ref b) (valV kvs k) := .inr ⟨kvs, k, b, .inl e, rfl, eb, rfl⟩
theorem DPut.k {H : Hp} {a : Addr} {kvs : List (Key × V)} {k : Key} {v : V} (e : H a = some (.dK kvs)) (hl : kvs.length < sizeLine) : DPut H a (kV k) v (upd H a (.dK (putK kvs k v))) := .inl ⟨kvs, k, e, rfl, hl, rfl⟩
theorem DPut.t {H : Hp} {a b : Addr} {kvs : List (List Key × V)} {k : List Key} {v : V} (e : H a = some (.dT kvs)) (eb : H b = some (.tup (k.map kV))) (hl : kvs.length < sizeLine) :
    DPut H a (.ref b) v (upd H a (.dT (putK kvs k v))) := .inr ⟨kvs, k, b, e, rfl, eb, hl, rfl⟩


section
variable {X : Cx} {pins : List (Addr × Obj)} {σ : St} {H : Hp} {s : Shared} {a : Addr} {y v : V} {u r : Value} {o : Option V} {A : Around} {E : Value → Shared → Prop}

end

section
variable {X : Cx} {pins : List (Addr × Obj)} {σ : St} {H : Hp} {s : Shared} {a : Addr} {kvs : List (Key × V)} {k : Key} {u : Value} {A : Around} {E : Value → Shared → Prop}
end


section
variable {X : Cx} {o i e value : Expr} {pos pos' tpos : Pos} {td ty tv : TE}
end


section
variable {X : Cx} {pos : Pos}
end

section
variable {X : Cx} {pins : List (Addr × Obj)} {σ : St} {H : Hp} {s : Shared} {a : Addr} {y d : V} {u r : Value} {o : Option V} {A : Around} {E : Value → Shared → Prop}
end

section
variable {X : Cx} {o e f : Expr} {apos cpos : Pos} {td ty tx : TE}
end

section
variable {X : Cx} {pins : List (Addr × Obj)} {σ : St} {H : Hp} {s : Shared} {a : Addr} {kvs : List (Key × V)} {A : Around} {E : Value → Shared → Prop}
end


section
variable {X : Cx} {pins : List (Addr × Obj)} {σ : St} {H : Hp} {s : Shared} {a : Addr} {y : V} {u : Value} {A : Around} {E : Value → Shared → Prop}
end
end L2

namespace L2
open PySem PySem.Spec PyProof.Rows

section
variable {prog : Program} {w : World} {A : Around} {E : Value → Shared → Prop}
end

section
variable {X : Cx}
end
end L2

namespace L2
open PySem PySem.Spec PyProof.Rows

section
variable {X : Cx} {pins : List (Addr × Obj)} {σ : St} {H : Hp} {s : Shared} {h' : Heap}
end
section
variable {X : Cx}
theorem pi_one {tg : Expr} {pins : List (Addr × Obj)} {σ : St} {H : Hp} {s : Shared} {R : It → Hp → Prop} {J : It} {tn : Nat → Heap → Prop} {tk : Nat} (I : Inv X pins σ H s) (o : Obj)
    (T : Turn X.prog X.w X.K tg J [s.heap.objs.size] s.heap.objs.size tn) (st : tn 0 (s.heap.push o)) (q : R J H) : PIE X pins σ tg R (.ref s.heap.objs.size) { s with heap := s.heap.push o, toks := tk } := by
  refine ⟨s.heap.objs.size, [s.heap.objs.size], tn, J, H, rfl, I.kept fun b ob e => Heap.get?_push_of_some _ e, T, st, fun b hb => ?_, q⟩
  have e : b = s.heap.objs.size := by simpa using hb
  subst e
  exact I.fpOk (Nat.le_refl _) (I.hok.fresh (Nat.le_refl _))
end

def RgC (i j c : Int) (n : Nat) : Prop := c ≠ 0 ∧ c.natAbs < 1073741824 ∧ Builtin.Range.small i j c = true ∧ Builtin.Range.rangeSize i j c = n
theorem RgC.neg {i j : Int} (ha : -(2 ^ 62) ≤ i) (ha' : i < 2 ^ 62) (hb : -(2 ^ 62) ≤ j) (hb' : j < 2 ^ 62) : RgC i j (-1) (i - j).toNat :=
  ⟨by decide, by decide, PySem.W.small_down ha ha' hb hb', PySem.W.rangeSize_downNat i j⟩
section
variable {X : Cx} {tg : Expr}
end
section
variable {X : Cx} {tg : Expr}
end

def Its (x : Str) : It := ⟨fun i _ => i < x.cps.size, fun i H v H' => H' = H ∧ ∃ c, x.cps[i]? = some c ∧ v = .str ⟨#[c]⟩, fun i _ => x.cps.size ≤ i⟩
theorem turn_str {P : Program} {w : World} {K : PySem.W.Frag} {tg : Expr} (it : Addr) (x : Str) (t : Tok) (ty : String) (hty : ty = "str_ascii_iterator" ∨ ty = "str_iterator") :
    Turn P w K tg (Its x) [it] it (fun i h => h.IsStrIter it ty x t i) where
  mem := by simp
  obj := fun i h st b hb => by
    have e : b = it := by simpa using hb
    subst e
    obtain ⟨o, e, c, d⟩ := st
    exact ⟨o, e, fun v z => by rw [d] at z; cases z⟩
  keep := fun i h h' st k => let ⟨o, ho, r⟩ := st; ⟨o, k it (by simp) o ho, r⟩
  item := by
    intro X hP hw hK hc i pins s σ H E I hf st hg
    subst hP hw hK
    obtain ⟨f0, f1, f2, f3, f4, f5⟩ := hf it (by simp)
    have W : Walks X.prog X.w X.A it [it] [it] x.cps.size (SignAt x) (fun i h => h.IsStrIter it ty x t i) := by
      rcases hty with e | e
      · rw [e]; exact Walks.strAscii (I.ok.hd hc) it x t
      · rw [e]; exact Walks.strWide (I.ok.hd hc) it x t
    have hno : ["enumerate", "zip", "dict_itemiterator", "dict_reverseitemiterator", "odict_iterator", "itertools.zip_longest", "itertools.pairwise"].contains ty = false := by
      rcases hty with e | e
      · rw [e]; decide
      · rw [e]; decide
    refine W.item i s _ _ hg st fun v h' tk hv st' kk => ?_
    obtain ⟨c, u, hcx, rfl⟩ := hv
    have I1 : Inv X pins σ H { s with heap := h', toks := tk } := I.turned (fun b o hb e => kk b o (by simpa using hb) e) f0 f1 f3 f4 f5
    obtain ⟨oi, e, cc, dd⟩ := id st'
    exact ⟨_, rfl, go_of (s := { s with heap := h', toks := tk }) e cc dd hno ⟨.str ⟨#[c]⟩, H, I1, ⟨u, rfl⟩, ⟨rfl, c, hcx, rfl⟩, st', fun b hb => (hf b hb).1⟩⟩
  done := by
    intro X hP hw hK hc i pins s σ H E I hf st hg
    subst hP hw hK
    obtain ⟨f0, f1, f2, f3, f4, f5⟩ := hf it (by simp)
    have hx : x.cps[i]? = none := Array.getElem?_eq_none hg
    rcases hty with e | e
    · rw [e] at st
      exact wpAny_pyNext_ascii_end (I.ok.hd hc) st hx fun h' eb => ⟨rfl, I.turned (t' := s.toks) (fun b o hb e => eb b o hb e) f0 f1 f3 f4 f5⟩
    · rw [e] at st
      exact wpAny_pyNext_wide_end (I.ok.hd hc) st hx fun h' eb => ⟨rfl, I.turned (t' := s.toks) (fun b o hb e => eb b o hb e) f0 f1 f3 f4 f5⟩
  self := fun A i s Q E st h => by
    rcases hty with e | e
    · rw [e] at st; exact wpAny_pyIter_striter_ascii st h
    · rw [e] at st; exact wpAny_pyIter_striter_wide st h
def iStr (te : TE) : TI := fun σ H R => te σ H fun v H1 => ∃ x, v = .str x ∧ R (Its x) H1
theorem pi_str {X : Cx} {tg e : Expr} {te : TE} (he : PE X e te) : PI X tg e (iStr te) := by
  intro pins s σ H R I h
  refine thn (he pins s σ H _ I h) fun v s1 ⟨y, H1, I1, r1, x, ex, q⟩ => ?_
  subst ex
  obtain ⟨t, rfl⟩ := r1
  cases ha : x.cps.all (· < 128)
  · exact wpAny_pyIter_wide ha (pi_one (tk := s1.toks) I1 _ (turn_str _ x t "str_iterator" (.inr rfl)) ⟨_, Heap.get?_push_size _ rfl, rfl, rfl⟩ q)
  · exact wpAny_pyIter_ascii ha (pi_one (tk := s1.toks) I1 _ (turn_str _ x t "str_ascii_iterator" (.inl rfl)) ⟨_, Heap.get?_push_size _ rfl, rfl, rfl⟩ q)

section
variable {prog : Program} {w : World} {A : Around} {E : Value → Shared → Prop} {s : Shared}
end

section
variable {X : Cx} {pins : List (Addr × Obj)} {σ : St} {H : Hp} {s : Shared} {d : Addr} {o : Obj}
end

section
variable {P : Program} {w : World} {K : PySem.W.Frag} {tg : Expr} {d : Addr} {o : Obj} {es : Array DictEntry} {ep : Nat}
end

section
variable {X : Cx} {tg e : Expr} {td : TE} {apos cpos : Pos}
end

end L2

section 
namespace Bits
open PySem PyProof.Rows

end Bits
end 

section 
namespace TL
open PySem PySem.Builtin PySem.Builtin.Str PySem.StrLaws

abbrev tl (x : Str) : List Nat := x.cps.toList
def pre (S l : List Nat) : Bool := l.take S.length == S
def par (S : List Nat) : List Nat → List Nat → Option (List Nat × List Nat)
  | _, [] => none
  | acc, c :: r => if pre S (c :: r) = true then some (acc, (c :: r).drop S.length) else par S (acc ++ [c]) r

end TL
end 

namespace L2
open PySem PySem.Spec PyProof.Rows

section
variable {X : Cx} {pins : List (Addr × Obj)} {σ : St} {H : Hp} {s : Shared} {Q : VK}
end

section
variable {X : Cx}

end

section
variable {X : Cx} {o e : Expr} {to te : TE}
end
end L2

namespace L2
open PySem PySem.Spec PyProof.Rows

section
variable {X : Cx}
end

theorem IsPart.raw {v : Value} {o : Option Int} (p : IsPart v o) : ∃ l : Option (Int × Tok), v = partValue l ∧ l.map (·.1) = o := by
  cases p with
  | none => exact ⟨none, rfl, rfl⟩
  | int i t => exact ⟨some (i, t), rfl, rfl⟩

def clipS (n d : Nat) : Option Int → Int
  | none => (d : Int)
  | some i => max 0 (min (if i < 0 then i + (n : Int) else i) (n : Int))
theorem clipS_eq (n d : Nat) (o : Option Int) : clipS n d o = ((HT.sIx n d o : Nat) : Int) := by
  cases o with
  | none => rfl
  | some v =>
    show max (0 : Int) (min (if v < 0 then v + (n : Int) else v) (n : Int)) = (((if v < 0 then (v + (n : Int)).toNat else min v.toNat n) : Nat) : Int)
    by_cases hv : v < 0
    · simp only [if_pos hv]
      omega
    · simp only [if_neg hv]
      omega
theorem sidx_clip (a b : Option Int) (n : Nat) : Builtin.Str.strSliceIndices a b 1 n = sliceRange (clipS n 0 a) (clipS n n b) 1 := by
  have h1 : ((1 : Int) > 0) = True := by simp
  cases a <;> cases b <;> first
    | rfl
    | (simp only [Builtin.Str.strSliceIndices, clipS, h1, if_true]; rfl)
    | simp [Builtin.Str.strSliceIndices, clipS]
theorem sidx (a b : Option Int) (n : Nat) : Builtin.Str.strSliceIndices a b 1 n = (List.range (HT.sIx n n b - HT.sIx n 0 a)).map (fun k => HT.sIx n 0 a + k) := by
  rw [sidx_clip, clipS_eq, clipS_eq]
  generalize HT.sIx n 0 a = p
  generalize HT.sIx n n b = q
  simp only [sliceRange, show ((1 : Int) > 0) = True from by simp, if_true]
  by_cases hlt : (p : Int) < q
  · have e3 : (((q : Int) - p + 1 - 1) / 1).toNat = q - p := by first | omega | (simp; done) | (simp; omega)
    simp only [hlt, if_true, e3]
    refine List.map_congr_left fun k _ => ?_
    omega
  · have : q - p = 0 := by omega
    simp [hlt, this]

def cutS (z : Str) (lo hi : Option Int) : Str :=
  ⟨((z.cps.toList.drop (HT.sIx z.length 0 lo)).take (HT.sIx z.length z.length hi - HT.sIx z.length 0 lo)).toArray⟩
theorem sliceText_cut (z : Str) (lo hi : Option Int) : PySem.StrLaws.sliceText z lo hi = cutS z lo hi := by
  have h1 : HT.sIx z.length 0 lo ≤ z.length := HT.sIx_le _ _ (Nat.zero_le _) _
  have h2 : HT.sIx z.length z.length hi ≤ z.length := HT.sIx_le _ _ (Nat.le_refl _) _
  have hp : HT.sIx z.length 0 lo ≤ max (HT.sIx z.length 0 lo) (HT.sIx z.length z.length hi) := Nat.le_max_left _ _
  have hq : max (HT.sIx z.length 0 lo) (HT.sIx z.length z.length hi) ≤ z.length := Nat.max_le.mpr ⟨h1, h2⟩
  have hd : max (HT.sIx z.length 0 lo) (HT.sIx z.length z.length hi) - HT.sIx z.length 0 lo = HT.sIx z.length z.length hi - HT.sIx z.length 0 lo := by omega
  have e : Builtin.Str.strSliceIndices lo hi 1 z.length =
      Builtin.Str.strSliceIndices (some ((HT.sIx z.length 0 lo : Nat) : Int)) (some ((max (HT.sIx z.length 0 lo) (HT.sIx z.length z.length hi) : Nat) : Int)) 1 z.length := by
    rw [PySem.StrLaws.strSliceIndices_plain hp hq, hd, sidx]
  have e2 : PySem.StrLaws.sliceText z lo hi =
      PySem.StrLaws.sliceText z (some ((HT.sIx z.length 0 lo : Nat) : Int)) (some ((max (HT.sIx z.length 0 lo) (HT.sIx z.length z.length hi) : Nat) : Int)) := by
    unfold PySem.StrLaws.sliceText
    rw [e]
  rw [e2, PySem.StrLaws.sliceText_nat z hp hq, hd]
  rfl
theorem cutS_length (z : Str) (lo hi : Option Int) : (cutS z lo hi).length ≤ z.length := by
  show (((z.cps.toList.drop (HT.sIx z.length 0 lo)).take (HT.sIx z.length z.length hi - HT.sIx z.length 0 lo)).toArray).size ≤ z.cps.size
  rw [List.size_toArray, List.length_take, List.length_drop, Array.length_toList]
  omega
def rSlS : V → Option Int → Option Int → Hp → VK → Prop := fun x lo hi H Q => ∃ z, x = .str z ∧ z.length ≤ sizeLine ∧ Q (.str (cutS z lo hi)) H
theorem sl_str {X : Cx} : SlR X rSlS := by
  intro pins s σ H x v vl vu lo hi sl Q I rx hs pl pu h
  obtain ⟨z, rfl, hz, q⟩ := h
  obtain ⟨t, rfl⟩ := rx
  obtain ⟨os, hos, hcs, hds⟩ := hs
  obtain ⟨l, rfl, rfl⟩ := IsPart.raw pl
  obtain ⟨u, rfl, rfl⟩ := IsPart.raw pu
  refine ⟨"str", _, F.slot_str_getitem.lookup, typeIs_str _ _ _, ?_⟩
  refine wpAny_getItem_str_slice (l := l) (u := u) (st := none) ⟨os, hos, hcs, hds⟩ rfl ?_
  have hl : (PySem.StrLaws.sliceText z (l.map (·.1)) (u.map (·.1))).length ≤ sizeLine := by
    rw [sliceText_cut]
    exact Nat.le_trans (cutS_length z _ _) hz
  rw [← sliceText_cut] at q
  unfold PySem.StrLaws.sliceText at q hl
  show Made.post (if ((1 : Int) == 1 && (Builtin.Str.strSliceIndices (l.map (·.1)) (u.map (·.1)) 1 z.length).length == z.length) = true then Made.val (.str z t)
    else Made.str ⟨((Builtin.Str.strSliceIndices (l.map (·.1)) (u.map (·.1)) 1 z.length).filterMap (z.cps[·]?)).toArray⟩) (EP X pins σ Q) s
  by_cases c : ((1 : Int) == 1 && (Builtin.Str.strSliceIndices (l.map (·.1)) (u.map (·.1)) 1 z.length).length == z.length) = true
  · rw [if_pos c] at q ⊢
    exact ⟨.str z, H, I, ⟨t, rfl⟩, q⟩
  · rw [if_neg c] at q hl ⊢
    exact ⟨hl, .str _, H, I.tok _, ⟨_, rfl⟩, q⟩
end L2

namespace Att
open PySem PySem.W PySem.Calls PyProof.Rows

theorem ints_of_wellAll {P : Params} {h : Heap} : ∀ (ns : List Int) (vs : List Value), WellAll P h vs (ns.map WData.int) → IntsAre vs ns := by
  intro ns
  induction ns with
  | nil =>
    intro vs w
    rw [List.map_nil] at w
    cases w
    exact .nil
  | cons n ns ih =>
    intro vs w
    rw [List.map_cons] at w
    cases w with
    | cons a b =>
      cases a
      exact .cons _ _ (ih _ b)

section
variable {prog : Program} {w : World} {A : Around} {E : Value → Shared → Prop} {s : Shared} {K : Frag}

end
end Att

namespace L2
open PySem PySem.Spec PyProof.Rows

theorem vals_ints : ∀ {vs : List Value} {ns : List Int}, IntsAre vs ns → Vals (ns.map V.int) vs
  | _, _, .nil => .nil
  | _, _, .cons n t h => .cons ⟨t, rfl⟩ (vals_ints h)

def Only (H : Hp) : Prop := ∀ b, H b = none ∨ ∃ o xs, H b = some (.frz o (.lst xs))

end L2

namespace L2
open PySem PySem.Spec PyProof.Rows

end L2


namespace L2
open PySem PySem.Spec PyProof.Rows

def inClass (s : Stmt) (j : Nat) : Stmt := match s with
  | .ClassDef _ _ _ body _ _ _ _ _ _ _ => body.getD j (.Pass ⟨0, 0, 0, 0⟩)
  | _ => .Pass ⟨0, 0, 0, 0⟩
def defArgs (s : Stmt) : Arguments := match s with
  | .FunctionDef _ a _ _ _ _ _ _ _ _ => a
  | _ => { posonlyargs := [], args := [], vararg := none, kwonlyargs := [], kw_defaults := [], kwarg := none, defaults := [] }
def defBody (s : Stmt) : List Stmt := match s with
  | .FunctionDef _ _ b _ _ _ _ _ _ _ => b
  | _ => []
def defScope (s : Stmt) : Scope := match s with
  | .FunctionDef _ _ _ _ _ _ sc _ _ _ => sc
  | _ => { kind := .function, names := [], isGenerator := false, isCoroutine := false }

abbrev CX0 : CXT := fun _ _ _ _ _ _ => False
abbrev E0 : XK := fun _ _ _ => False
theorem pass0 {X : Cx} : Passes CX0 X E0 := fun _ _ _ _ _ _ _ h => h.elim

structure Fun (K : PySem.W.Frag) (x qual : Str) (st : Stmt) (f : Addr) (fd : FuncData) : Prop where
  ex : ∃ (oc : Value) (od : Option Addr) (kV doc pm : Value) (an : Option Addr) (cdv ct : Value) (osl : Array (Option Value)),
    fd = PySem.W.fnOf x qual (defArgs st) (defBody st) (defScope st) .none kV doc pm an cdv ct ∧ K.lookup f = some ⟨oc, od, .func fd, osl⟩ ∧ PySem.W.codeIn K cdv qual = true
  kp : PySem.W.keepIn K (.ref f) = true
section
variable {P : Program} {w : World} {K : PySem.W.Frag} {mg : Str → Option Value} {base : Heap}
theorem Fun.ok {x qual : Str} {st : Stmt} {f : Addr} {fd : FuncData} {N ps : List Str} {k : Nat} {sp : Sp} (F : Fun K x qual st f fd) (S : FnScope N ps (defScope st)) (len : ∀ vs H Q E, sp vs H Q E → vs.length = ps.length)
    (hbody : ∀ (cdv : Value) (A : Around) (outer : List Env) (s : Shared) (H : Hp) (vs : List V) (Q : VK) (E : XK), Room k (A.deeper (envOfC qual (defScope st) s.heap.objs.size f cdv)) → sp vs H Q E →
      ∃ t, PSs (cxOf CX0 P w K mg base N qual (defScope st) f cdv A outer s H E).nox (defBody st) t ∧ t { nx := fun _ H' => Q .non H', rt := Q } (start N vs) H) : FnOk P w K mg base CX0 (k + 1) f fd ps sp := by
  obtain ⟨oc, od, kV, doc, pm, an, cdv, ct, osl, rfl, lk, hcd⟩ := F.ex
  refine fn_of lk hcd S len fun A outer s H vs Q E hr hsp => ?_
  obtain ⟨t, h, q⟩ := hbody cdv A outer s H vs Q E hr hsp
  exact ⟨t, h.nox, q⟩
theorem Fun.binds {x qual : Str} {st : Stmt} {f : Addr} {fd : FuncData} {ps : List Str} (F : Fun K x qual st f fd)
    (h : ∀ (kV doc pm : Value) (an : Option Addr) (cdv ct : Value) (us : List Value), us.length = ps.length → bindArgs (PySem.W.fnOf x qual (defArgs st) (defBody st) (defScope st) .none kV doc pm an cdv ct) ⟨us, []⟩ = pure (ps.zip us)) : Binds K fd ps [] := by
  obtain ⟨oc, od, kV, doc, pm, an, cdv, ct, osl, rfl, lk, hcd⟩ := F.ex
  exact .all (h kV doc pm an cdv ct)
theorem fun_mk {x qual : Str} {st : Stmt} {f : Addr} {oc : Value} {od an : Option Addr} {osl : Array (Option Value)} {kV doc pm cdv ct : Value} (l : K.lookup f = some ⟨oc, od, .func (PySem.W.fnOf x qual (defArgs st) (defBody st) (defScope st) .none kV doc pm an cdv ct), osl⟩)
    (c : PySem.W.codeIn K cdv qual = true) (k : PySem.W.keepIn K (.ref f) = true) : Fun K x qual st f (PySem.W.fnOf x qual (defArgs st) (defBody st) (defScope st) .none kV doc pm an cdv ct) := ⟨⟨oc, od, kV, doc, pm, an, cdv, ct, osl, rfl, l, c⟩, k⟩
end
theorem small1000 {n : Nat} (h : n ≤ 1000) : n < sizeLine := Nat.lt_of_le_of_lt h (by decide)

section
variable {X : Cx}
theorem pv (i : Nat) {x : Str} {pos : Pos} (hN : X.N[i]? = some x := by rfl) (hv : Vis X.env.scope x := by first | exact Or.inl rfl | exact Or.inr (Or.inl rfl) | exact Or.inr (Or.inr rfl)) (hd : (x == ("__debug__" : Str)) = false := by decide)
    (hcd : (x == ("__classdict__" : Str)) = false := by decide) : PE X (.Name x pos) (tVar i) := pe_var hN hv hd hcd
end

theorem iteF {A B : Prop} (h : B) : if false = true then A else B := by
  rw [if_neg Bool.false_ne_true]
  exact h
theorem iteT {A B : Prop} (h : A) : if true = true then A else B := by
  rw [if_pos rfl]
  exact h
theorem ite2 {c A B : Prop} [Decidable c] (h1 : c → A) (h2 : ¬ c → B) : if c then A else B := by
  by_cases h : c
  · rw [if_pos h]
    exact h1 h
  · rw [if_neg h]
    exact h2 h
theorem iteNS {c A B : Prop} [Decidable c] (hc : c) (h : B) : if (!decide c) = true then A else B := by
  rw [decide_eq_true hc]
  exact iteF h

def Same (H H' : Hp) : Prop := ∀ b o, H b = some o → H' b = some o
theorem Same.refl (H : Hp) : Same H H := fun _ _ h => h
theorem Same.trans {H H1 H2 : Hp} (a : Same H H1) (b : Same H1 H2) : Same H H2 := fun c o h => b c o (a c o h)
theorem Same.free {H H' : Hp} (e : Same H H') {l : Addr} (h : H' l = Option.none) : H l = Option.none := by
  cases q : H l with
  | none => rfl
  | some o =>
    rw [e l o q] at h
    cases h
theorem Same.seq {K : PySem.W.Frag} {H H' : Hp} {a : Addr} {xs : List V} (e : Same H H') (h : SqL K H a xs) : SqL K H' a xs := by
  rcases h with (h | ⟨o, h⟩) | h
  · exact .inl (.inl (e _ _ h))
  · exact .inl (.inr ⟨o, e _ _ h⟩)
  · exact .inr h

section
variable {κ : Type} [DecidableEq κ]
end
theorem at_of {xs : List V} {z : Int} {j : Nat} {v : V} (e : z = (j : Int)) (h : xs[j]? = some v) : atI xs z = some v := by
  rw [e]
  exact atI_nat h
theorem Same.made {H H1 : Hp} {x dx C : Addr} (nx : H x = Option.none) (nd : H dx = Option.none) (k : ∀ b o, (upd (upd H dx (.own x)) x (.ins C dx [])) b = some o → b ≠ x → H1 b = some o) : Same H H1 := fun b o e =>
  k b o (by rw [upd_ne (ne_of_none e nx), upd_ne (ne_of_none e nd)]; exact e) (ne_of_none e nx)
end L2


namespace L2
open PySem PySem.Spec PyProof.Rows
theorem spec_call {P : Program} {w : World} {K : PySem.W.Frag} {mg mb : Str → Option Value} {CX : CXT} {k : Nat} {fa a : Addr} {fd : FuncData} {x : Str} {sp : Sp} {s₁ : Shared} {vs : List Value} {ns out : List Int}
    (KX : K.In s₁.heap) (hns : s₁.heap.Ns mainGlobals mg) (hb : s₁.heap.Ns builtinsNs mb) (hbb : ∀ x : Str, x ≠ "__name__" → mb x = bootBuiltins x) (hlim : s₁.heap.NoLimit) (hg : s₁.gens = #[])
    (ha : s₁.heap.get? a = some { cls := .type "list", data := .seq vs.toArray }) (hi : IntsAre vs ns) (hl : ns.length ≤ sizeLine) (hr : Room k callerA)
    (F : ∀ base : Heap, K.In base → base.Ns mainGlobals mg → FnOk P w K mg base CX k fa fd [x] sp) (hbind : ∀ (s : Shared) (u : Value), BindsTo s fd ⟨[u], []⟩ [(x, u)])
    (hsp : ∀ H : Hp, Only H → SqL K H a (ns.map V.int) → sp [.ref a] H (fun v H' => ∃ p, v = .ref p ∧ H' p = some (.lst (out.map V.int))) fun _ _ _ => False)
    (hCX : ∀ H e s', CX [] H s₁ (fun _ _ _ => False) e s' → False) :
    codeAny (model P w) callerA (.call (.ref fa) ⟨[.ref a], []⟩) (fun r s' => (∃ (p : Addr) (its : Array Value) (n : Nat), r = .ok (.ret (.ref p)) ∧ s'.heap.get? p = some { cls := .type "list", data := .seq its n } ∧ IntsAre its.toList out) ∧ OldK s₁.heap s'.heap ∧ s'.os = s₁.os ∧ AllBare s'.gens) s₁ := by
  have rv := vals_ints hi
  have lenV := hi.length
  -- from an abstract heap in which nothing but the script may be tracked
  have core : ∀ H : Hp, Only H → SqL K H a (ns.map V.int) → HOk P w H s₁.heap → (∀ b, H b ≠ none → b = a) → (H a ≠ none → K.lookup a = none) →
      codeAny (model P w) callerA (.call (.ref fa) ⟨[.ref a], []⟩) (fun r s' => (∃ (p : Addr) (its : Array Value) (n : Nat), r = .ok (.ret (.ref p)) ∧ s'.heap.get? p = some { cls := .type "list", data := .seq its n } ∧ IntsAre its.toList out) ∧ OldK s₁.heap s'.heap ∧ s'.os = s₁.os ∧ AllBare s'.gens) s₁ := by
    intro H hO hS hok hA hK
    have base_of : ∀ {b : Addr} {o : Obj}, s₁.heap.get? b = some o → H b = none → (hidT s₁.heap H).get? b = some o := fun e n => hidT_get e n
    have noA : ∀ {b : Addr} {o : Obj} {es : Array DictEntry} {ep : Nat}, s₁.heap.get? b = some o → o.data = .dict es ep → H b = none := fun {b o es ep} e d => by
      cases q : H b with
      | none => rfl
      | some u =>
        have e' : b = a := hA b (by rw [q]; simp)
        subst e'
        rw [ha] at e; cases e
        have d' : Data.seq vs.toArray _ = Data.dict es ep := d
        cases d'
    have nsK : ∀ {b : Addr} {m : Str → Option Value}, s₁.heap.Ns b m → (hidT s₁.heap H).Ns b m := fun {b m} ⟨o, es, ep, e, d, r⟩ => ⟨o, es, ep, base_of e (noA e d), d, r⟩
    have hKb : K.In (hidT s₁.heap H) := fun b o e => base_of (KX b o e) (by
      cases q : H b with
      | none => rfl
      | some u =>
        have e' : b = a := hA b (by rw [q]; simp)
        subst e'
        rw [hK (by rw [q]; simp)] at e; cases e)
    have hM : Mod K mg (hidT s₁.heap H) := ⟨hKb, nsK hns, ⟨mb, nsK hb, hbb⟩, let ⟨mc, h1, h2⟩ := hlim; ⟨mc, nsK h1, h2⟩⟩
    have e0 : Env0 P w K mg (hidT s₁.heap H) callerA [] s₁ H := ⟨rfl, hM, fun b o e => of_hidT e, Nat.le_of_eq (hidT_size _ _), trivial, fun b hb => absurd (show b ∈ ([] : List Addr) from hb) (by simp), hok, .of_eq hg⟩
    refine codeAny_mono ((F _ hKb (nsK hns)).run callerA [] s₁ H ⟨[.ref a], []⟩ [.ref a] [.ref a] _ _ hr e0 (hbind s₁ (.ref a)) (.cons rfl .nil) (hsp H hO hS)) fun r s' h => ?_
    cases r with
    | error e => exact (hCX H e s' h).elim
    | ok fl =>
      cases fl with
      | next => exact False.elim h
      | brk => exact False.elim h
      | cont => exact False.elim h
      | ret u =>
        obtain ⟨v, H', os, bare, un, hok', r', q⟩ := h
        obtain ⟨p, ev, hp⟩ := q
        subst ev
        obtain rfl : u = Value.ref p := r'
        obtain ⟨_, its, n, rits, hget⟩ := hok' p _ hp
        refine ⟨⟨p, its.toArray, n, rfl, hget, by simpa using intsAre_of rits⟩, OldK.of_keep fun b o e => ?_, os, bare⟩
        cases q : H b with
        | none => exact un.keep b o e q (by intro z; exact absurd (show b ∈ ([] : List Addr) from z) (by simp)) (by simp)
        | some u =>
          rcases hO b with z | ⟨ob, xs, z⟩
          · rw [q] at z; cases z
          · have z2 := un.frzs b ob _ z
            obtain ⟨e1, _⟩ := hok b _ z
            obtain ⟨e2, _⟩ := hok' b _ z2
            rw [e] at e1; cases e1
            exact e2
  cases hk : K.lookup a with
  | some o =>
    -- the script is one of the module's own objects
    have e := KX a o hk
    rw [ha] at e
    cases e
    refine core (fun _ => none) (fun _ => .inl rfl) (.inr ⟨_, vs.toArray, _, hk, rfl, rfl, rfl, by rw [List.size_toArray, lenV]; exact hl, by simpa using rv⟩) (fun b u z => by have z' : (none : Option HO) = some u := z; cases z') (fun b z => absurd rfl z) fun z => absurd rfl z
  | none =>
    refine core (fun b => if b = a then some (.frz { cls := .type "list", data := .seq vs.toArray } (.lst (ns.map V.int))) else none) (fun b => ?_) (.inl (.inr ⟨{ cls := .type "list", data := .seq vs.toArray }, if_pos rfl⟩)) (fun b u z => ?_) (fun b z => ?_) fun _ => hk
    · by_cases hb : b = a
      · exact .inr ⟨_, _, if_pos hb⟩
      · exact .inl (if_neg hb)
    · by_cases hb : b = a
      · have z' := (if_pos hb).symm.trans z
        cases z'
        subst hb
        exact ⟨ha, by rw [List.length_map]; exact hl, vs, _, rv, ha⟩
      · have z' := (if_neg hb).symm.trans z
        cases z'
    · by_cases hb : b = a
      · exact hb
      · exact absurd (if_neg hb) z
end L2
namespace JS

/-- what the reader keeps beside its state -/
structure RS where
  nested : List Int
  counts : List Int
  key : Bool
  left : Int
  rest : List Nat
  kind : Int

def spaces : List Int := [32, 9, 10, 13]
def endValue (s : RS) (k : Int) : RS × Int := ({ s with counts := s.counts.set k.toNat (s.counts.getD k.toNat 0 + 1) }, 5)
def goInto (s : RS) (kind inside : Int) : RS × Int := if s.nested.length = 1000 then (s, 18) else ({ s with nested := s.nested ++ [kind] }, inside)
def closeInner (s : RS) : RS × Int := endValue { s with nested := s.nested.dropLast } (s.nested.getLastD 0)
def beginString (s : RS) (k : Bool) : RS × Int := ({ s with key := k }, 6)
def beginWord (s : RS) (rest : List Nat) (kind : Int) : RS × Int := ({ s with rest := rest, kind := kind }, 17)
def isDigit (c : Int) : Bool := decide (48 ≤ c) && decide (c ≤ 57)
def isHex (c : Int) : Bool := isDigit c || (decide (97 ≤ c) && decide (c ≤ 102)) || (decide (65 ≤ c) && decide (c ≤ 70))
def beginDigits (c : Int) : Int := if c = 48 then 10 else if isDigit c = true then 11 else 18
def takeValue (s : RS) (c : Int) : RS × Int :=
  if c ∈ spaces then (s, 0) else if c = 123 then goInto s 6 2 else if c = 91 then goInto s 5 1 else if c = 34 then beginString s false
  else if c = 116 then beginWord s [114, 117, 101] 2 else if c = 102 then beginWord s [97, 108, 115, 101] 1 else if c = 110 then beginWord s [117, 108, 108] 0
  else if c = 45 then (s, 9) else (s, beginDigits c)
def takeFirst (s : RS) (c : Int) : RS × Int := if c ∈ spaces then (s, 1) else if c = 93 then closeInner s else takeValue s c
def takeKey (s : RS) (c : Int) : RS × Int := if c ∈ spaces then (s, 3) else if c = 34 then beginString s true else (s, 18)
def takeMember (s : RS) (c : Int) : RS × Int := if c ∈ spaces then (s, 2) else if c = 125 then closeInner s else takeKey s c
def takeColon (s : RS) (c : Int) : RS × Int := if c ∈ spaces then (s, 4) else if c = 58 then (s, 0) else (s, 18)
def takeAfterItem (s : RS) (c : Int) : RS × Int := if c = 44 then (s, 0) else if c = 93 then closeInner s else (s, 18)
def takeAfterMember (s : RS) (c : Int) : RS × Int := if c = 44 then (s, 3) else if c = 125 then closeInner s else (s, 18)
def takeAfter (s : RS) (c : Int) : RS × Int :=
  if c ∈ spaces then (s, 5) else if s.nested.length = 0 then (s, 18) else if s.nested.getLastD 0 = 5 then takeAfterItem s c else takeAfterMember s c
def endString (s : RS) : RS × Int := if s.key = true then ((endValue s 7).1, 4) else endValue s 4
def takeString (s : RS) (c : Int) : RS × Int := if c = 34 then endString s else if c = 92 then (s, 7) else if 32 ≤ c then (s, 6) else (s, 18)
def escapes : List Int := [34, 92, 47, 98, 102, 110, 114, 116]
def takeEscape (s : RS) (c : Int) : RS × Int := if c ∈ escapes then (s, 6) else if c = 117 then ({ s with left := 4 }, 8) else (s, 18)
def takeHex (s : RS) (c : Int) : RS × Int := if isHex c = true then ({ s with left := s.left - 1 }, if 0 < s.left - 1 then 8 else 6) else (s, 18)
def endNumber (s : RS) (c : Int) : RS × Int := takeAfter (endValue s 3).1 c
def marks : List Int := [101, 69]
def signs : List Int := [43, 45]
def takeMark (s : RS) (c : Int) : RS × Int := if c ∈ marks then (s, 14) else endNumber s c
def takeZero (s : RS) (c : Int) : RS × Int := if c = 46 then (s, 12) else takeMark s c
def takeWhole (s : RS) (c : Int) : RS × Int := if isDigit c = true then (s, 11) else takeZero s c
def takePoint (s : RS) (c : Int) : RS × Int := (s, if isDigit c = true then 13 else 18)
def takeFraction (s : RS) (c : Int) : RS × Int := if isDigit c = true then (s, 13) else takeMark s c
def takeSign (s : RS) (c : Int) : RS × Int := (s, if isDigit c = true then 16 else 18)
def takeE (s : RS) (c : Int) : RS × Int := if c ∈ signs then (s, 15) else takeSign s c
def takeExponent (s : RS) (c : Int) : RS × Int := if isDigit c = true then (s, 16) else endNumber s c
def takeWord (s : RS) (c : Int) : RS × Int :=
  if c ≠ ((s.rest.headD 0 : Nat) : Int) then (s, 18) else if s.rest.tail = [] then endValue { s with rest := s.rest.tail } s.kind else ({ s with rest := s.rest.tail }, 17)
/-- one byte: the state's own def, by its number -/
def stepM (m : Nat) (s : RS) (c : Int) : RS × Int := match m with
  | 0 => takeValue s c
  | 1 => takeFirst s c
  | 2 => takeMember s c
  | 3 => takeKey s c
  | 4 => takeColon s c
  | 5 => takeAfter s c
  | 6 => takeString s c
  | 7 => takeEscape s c
  | 8 => takeHex s c
  | 9 => (s, beginDigits c)
  | 10 => takeZero s c
  | 11 => takeWhole s c
  | 12 => takePoint s c
  | 13 => takeFraction s c
  | 14 => takeE s c
  | 15 => takeSign s c
  | 16 => takeExponent s c
  | 17 => takeWord s c
  | _ => (s, 18)

def code (b : Bool) : Int := if b = true then 6 else 5
def num (n : Nat) : Int := (n : Int)
/-- what does not hang on the state's number -/
structure Core (s : RS) (a : Sf08.Abs) : Prop where
  stack : s.nested = (a.stack.map code).reverse
  deep : a.stack.length ≤ 1000
  seen : s.counts = a.seen.map num
  slen : a.seen.length = 8
  key : s.key = a.key
  hex : s.left = (a.hex : Int)
  kind : s.kind = (a.kind : Int)
  klt : a.kind ≤ 2
  rlen : s.rest.length ≤ 4
structure Rel (m : Int) (s : RS) (a : Sf08.Abs) : Prop extends Core s a where
  mode : m = (a.mode : Int)
  le : a.mode ≤ 18
  hexp : a.mode = 8 → 1 ≤ a.hex
  rest : a.mode = 17 → s.rest = a.rest ∧ a.rest ≠ []
  arr : a.mode = 1 → ∃ t, a.stack = false :: t
  obj : a.mode = 2 → ∃ t, a.stack = true :: t
abbrev Sim (p : RS × Int) (b : Sf08.Abs) : Prop := Rel p.2 p.1 b

theorem core_to {s : RS} {a : Sf08.Abs} (h : Core s a) (m : Nat) : Core s (a.to m) := ⟨h.stack, h.deep, h.seen, h.slen, h.key, h.hex, h.kind, h.klt, h.rlen⟩
theorem sim_to {s : RS} {a : Sf08.Abs} (h : Core s a) {m : Nat} {z : Int} (hz : z = (m : Int)) (hm : m ≤ 18) (n1 : m ≠ 1) (n2 : m ≠ 2) (n8 : m ≠ 8) (n17 : m ≠ 17) : Sim (s, z) (a.to m) :=
  ⟨core_to h m, hz, hm, fun e => absurd e n8, fun e => absurd e n17, fun e => absurd e n1, fun e => absurd e n2⟩
theorem map_getD (l : List Nat) (k : Nat) : (l.map num).getD k 0 = ((l.getD k 0 : Nat) : Int) := by
  rw [List.getD_eq_getElem?_getD, List.getD_eq_getElem?_getD, List.getElem?_map]
  cases l[k]? <;> rfl
theorem core_count {s : RS} {a : Sf08.Abs} (h : Core s a) (k : Nat) : Core (endValue s (k : Int)).1 (a.counted k) := by
  refine ⟨h.stack, h.deep, ?_, ?_, h.key, h.hex, h.kind, h.klt, h.rlen⟩
  · show s.counts.set ((k : Int)).toNat (s.counts.getD ((k : Int)).toNat 0 + 1) = (a.seen.set k (a.seen.getD k 0 + 1)).map num
    rw [Int.toNat_natCast, h.seen, map_getD, List.map_set]
    rfl
  · show (a.seen.set k _).length = 8
    rw [List.length_set]; exact h.slen
theorem sim_ended {s : RS} {a : Sf08.Abs} (h : Core s a) (k : Nat) : Sim (endValue s (k : Int)) (a.ended k) :=
  sim_to (m := 5) (core_count h k) rfl (by decide) (by decide) (by decide) (by decide) (by decide)
theorem sim_closed {s : RS} {a : Sf08.Abs} (h : Core s a) {b : Bool} {t : List Bool} (e : a.stack = b :: t) {k : Nat} (hk : code b = (k : Int)) : Sim (closeInner s) (a.closed k) := by
  have e1 : s.nested = (t.map code).reverse ++ [code b] := by rw [h.stack, e]; simp
  have h1 : Core { s with nested := s.nested.dropLast } { a with stack := a.stack.drop 1 } := by
    refine ⟨?_, ?_, h.seen, h.slen, h.key, h.hex, h.kind, h.klt, h.rlen⟩
    · show s.nested.dropLast = _
      rw [e1, e]; simp
    · have := h.deep
      rw [e] at this
      show (a.stack.drop 1).length ≤ 1000
      rw [e]; simp at this ⊢; omega
  have e2 : s.nested.getLastD 0 = (k : Int) := by rw [e1, ← hk]; simp
  unfold closeInner
  rw [e2]
  exact sim_ended h1 k
theorem nlen {s : RS} {a : Sf08.Abs} (h : Core s a) : s.nested.length = a.stack.length := by rw [h.stack]; simp
theorem sim_opened {s : RS} {a : Sf08.Abs} (h : Core s a) (o : Bool) (m : Nat) (z : Int) (hz : z = (m : Int)) (hm : m = if o = true then 2 else 1) : Sim (goInto s (code o) z) (a.opened o m) := by
  unfold goInto Sf08.Abs.opened
  have hl := nlen h
  have hd := h.deep
  by_cases q : s.nested.length = 1000
  · rw [if_pos q, if_neg (show ¬ a.stack.length < Sf08.DEEPEST by show ¬ a.stack.length < 1000; omega)]
    exact sim_to h rfl (by decide) (by decide) (by decide) (by decide) (by decide)
  · rw [if_neg q, if_pos (show a.stack.length < Sf08.DEEPEST by show a.stack.length < 1000; omega)]
    refine ⟨⟨?_, ?_, h.seen, h.slen, h.key, h.hex, h.kind, h.klt, h.rlen⟩, hz, ?_, ?_, ?_, ?_, ?_⟩
    · show s.nested ++ [code o] = ((o :: a.stack).map code).reverse
      rw [h.stack]; simp
    · show (o :: a.stack).length ≤ 1000
      simp; omega
    · show m ≤ 18
      cases o <;> simp_all
    · intro e
      replace e : m = 8 := e
      cases o <;> simp_all
    · intro e
      replace e : m = 17 := e
      cases o <;> simp_all
    · intro e
      replace e : m = 1 := e
      exact ⟨a.stack, by show o :: a.stack = _; cases o <;> simp_all⟩
    · intro e
      replace e : m = 2 := e
      exact ⟨a.stack, by show o :: a.stack = _; cases o <;> simp_all⟩
theorem sim_string {s : RS} {a : Sf08.Abs} (h : Core s a) (k : Bool) : Sim (beginString s k) { a with mode := 6, key := k } :=
  ⟨⟨h.stack, h.deep, h.seen, h.slen, rfl, h.hex, h.kind, h.klt, h.rlen⟩, rfl, (show (6 : Nat) ≤ 18 by decide), (fun e => by cases e), (fun e => by cases e), (fun e => by cases e), (fun e => by cases e)⟩
theorem sim_word {s : RS} {a : Sf08.Abs} (h : Core s a) (k : Nat) (hk : k ≤ 2) (r : List Nat) (hr : r ≠ []) (hl : r.length ≤ 4) : Sim (beginWord s r (k : Int)) (a.word k r) :=
  ⟨⟨h.stack, h.deep, h.seen, h.slen, h.key, h.hex, rfl, hk, hl⟩, rfl, (show (17 : Nat) ≤ 18 by decide), (fun e => by cases e), fun _ => ⟨rfl, hr⟩, (fun e => by cases e), (fun e => by cases e)⟩

theorem white_iff (c : Nat) : Sf08.white c = true ↔ (c : Int) ∈ spaces := by
  simp only [Sf08.white, spaces, Bool.or_eq_true, beq_iff_eq, List.mem_cons, List.not_mem_nil, or_false]
  omega
theorem digit_iff (c : Nat) : isDigit (c : Int) = Sf08.digit c := by
  unfold isDigit Sf08.digit
  rw [show decide (48 ≤ (c : Int)) = decide (48 ≤ c) from decide_eq_decide.mpr (by omega), show decide ((c : Int) ≤ 57) = decide (c ≤ 57) from decide_eq_decide.mpr (by omega)]
theorem hex_iff (c : Nat) : isHex (c : Int) = Sf08.hexDigit c := by
  unfold isHex Sf08.hexDigit
  rw [digit_iff, show decide (97 ≤ (c : Int)) = decide (97 ≤ c) from decide_eq_decide.mpr (by omega), show decide ((c : Int) ≤ 102) = decide (c ≤ 102) from decide_eq_decide.mpr (by omega),
    show decide (65 ≤ (c : Int)) = decide (65 ≤ c) from decide_eq_decide.mpr (by omega), show decide ((c : Int) ≤ 70) = decide (c ≤ 70) from decide_eq_decide.mpr (by omega)]
theorem eqn (c k : Nat) : ((c : Int) = (k : Int)) ↔ c = k := by omega
theorem sim_digits {s : RS} {a : Sf08.Abs} (h : Core s a) (c : Nat) : Sim (s, beginDigits (c : Int)) (if c = 48 then a.to 10 else if Sf08.digit c = true then a.to 11 else a.to 18) := by
  unfold beginDigits
  rw [digit_iff]
  by_cases e : c = 48
  · rw [if_pos (show (c : Int) = 48 by omega), if_pos e]
    exact sim_to h rfl (by decide) (by decide) (by decide) (by decide) (by decide)
  · rw [if_neg (show ¬ (c : Int) = 48 by omega), if_neg e]
    split <;> exact sim_to h rfl (by decide) (by decide) (by decide) (by decide) (by decide)
theorem sim_value {s : RS} {a : Sf08.Abs} (h : Core s a) (c : Nat) (hw : ¬ (c : Int) ∈ spaces) : Sim (takeValue s (c : Int)) (Sf08.value a c) := by
  unfold takeValue Sf08.value
  rw [if_neg hw]
  by_cases e1 : c = 123
  · subst e1; exact sim_opened h true 2 2 rfl rfl
  rw [if_neg (show ¬ (c : Int) = 123 by omega), if_neg e1]
  by_cases e2 : c = 91
  · subst e2; exact sim_opened h false 1 1 rfl rfl
  rw [if_neg (show ¬ (c : Int) = 91 by omega), if_neg e2]
  by_cases e3 : c = 34
  · subst e3; exact sim_string h false
  rw [if_neg (show ¬ (c : Int) = 34 by omega), if_neg e3]
  by_cases e4 : c = 116
  · subst e4; exact sim_word h 2 (by decide) _ (by simp) (by simp)
  by_cases e5 : c = 102
  · subst e5; exact sim_word h 1 (by decide) _ (by simp) (by simp)
  by_cases e6 : c = 110
  · subst e6; exact sim_word h 0 (by decide) _ (by simp) (by simp)
  rw [if_neg (show ¬ (c : Int) = 116 by omega), if_neg (show ¬ (c : Int) = 102 by omega), if_neg (show ¬ (c : Int) = 110 by omega)]
  by_cases e7 : c = 45
  · subst e7; exact sim_to h rfl (by decide) (by decide) (by decide) (by decide) (by decide)
  rw [if_neg (show ¬ (c : Int) = 45 by omega), if_neg e7, if_neg e4, if_neg e5, if_neg e6]
  exact sim_digits h c
theorem sim_same {m : Int} {s : RS} {a : Sf08.Abs} (h : Rel m s a) {z : Int} (hz : z = (a.mode : Int)) : Sim (s, z) a := by
  have e : z = m := by rw [hz, h.mode]
  subst e; exact h
theorem sim_after {s : RS} {a : Sf08.Abs} (h : Core s a) (hm : a.mode = 5) (c : Nat) : Sim (takeAfter s (c : Int)) (Sf08.after a c) := by
  have hr : Rel 5 s a := ⟨h, by rw [hm]; rfl, by omega, fun e => by omega, fun e => by omega, fun e => by omega, fun e => by omega⟩
  unfold takeAfter Sf08.after
  by_cases hw : (c : Int) ∈ spaces
  · rw [if_pos hw, if_pos ((white_iff c).mpr hw)]; exact hr
  · rw [if_neg hw, if_neg (fun q => hw ((white_iff c).mp q))]
    cases e : a.stack with
    | nil =>
      rw [if_pos (show s.nested.length = 0 by rw [nlen h, e]; rfl)]
      exact sim_to h rfl (by decide) (by decide) (by decide) (by decide) (by decide)
    | cons b t =>
      rw [if_neg (show ¬ s.nested.length = 0 by rw [nlen h, e]; simp)]
      have e2 : s.nested.getLastD 0 = code b := by rw [h.stack, e]; simp
      cases b with
      | false =>
        rw [if_pos (show s.nested.getLastD 0 = 5 from e2)]
        unfold takeAfterItem
        by_cases e3 : c = 44
        · subst e3; exact sim_to h rfl (by decide) (by decide) (by decide) (by decide) (by decide)
        by_cases e4 : c = 93
        · subst e4; exact sim_closed h e rfl
        simp only [if_neg (show ¬ (c : Int) = 44 by omega), if_neg (show ¬ (c : Int) = 93 by omega), if_neg e3, if_neg e4]
        exact sim_to h rfl (by decide) (by decide) (by decide) (by decide) (by decide)
      | true =>
        rw [if_neg (show ¬ s.nested.getLastD 0 = 5 by rw [e2]; decide)]
        unfold takeAfterMember
        by_cases e3 : c = 44
        · subst e3; exact sim_to h rfl (by decide) (by decide) (by decide) (by decide) (by decide)
        by_cases e4 : c = 125
        · subst e4; exact sim_closed h e rfl
        simp only [if_neg (show ¬ (c : Int) = 44 by omega), if_neg (show ¬ (c : Int) = 125 by omega), if_neg e3, if_neg e4]
        exact sim_to h rfl (by decide) (by decide) (by decide) (by decide) (by decide)
theorem sim_number {s : RS} {a : Sf08.Abs} (h : Core s a) (c : Nat) : Sim (endNumber s (c : Int)) (Sf08.numberEnds a c) :=
  sim_after (core_to (core_count h 3) 5) rfl c
theorem sim_mark {s : RS} {a : Sf08.Abs} (h : Core s a) (c : Nat) : Sim (takeMark s (c : Int)) (if c = 101 ∨ c = 69 then a.to 14 else Sf08.numberEnds a c) := by
  unfold takeMark
  by_cases e : c = 101 ∨ c = 69
  · rw [if_pos e, if_pos (show (c : Int) ∈ marks by simp only [marks, List.mem_cons, List.not_mem_nil, or_false]; omega)]
    exact sim_to h rfl (by decide) (by decide) (by decide) (by decide) (by decide)
  · rw [if_neg e, if_neg (show ¬ (c : Int) ∈ marks by simp only [marks, List.mem_cons, List.not_mem_nil, or_false]; omega)]
    exact sim_number h c
theorem sim_zero {s : RS} {a : Sf08.Abs} (h : Core s a) (c : Nat) : Sim (takeZero s (c : Int)) (if c = 46 then a.to 12 else if c = 101 ∨ c = 69 then a.to 14 else Sf08.numberEnds a c) := by
  unfold takeZero
  by_cases e : c = 46
  · rw [if_pos e, if_pos (show (c : Int) = 46 by omega)]
    exact sim_to h rfl (by decide) (by decide) (by decide) (by decide) (by decide)
  · rw [if_neg e, if_neg (show ¬ (c : Int) = 46 by omega)]
    exact sim_mark h c
theorem sim_key {m : Int} {s : RS} {a : Sf08.Abs} (h : Rel m s a) (c : Nat) (hm : (c : Int) ∈ spaces → a.mode = 3) :
    Sim (takeKey s (c : Int)) (if Sf08.white c = true then a else if c = 34 then Sf08.keyBegins a else a.to 18) := by
  unfold takeKey
  by_cases hw : (c : Int) ∈ spaces
  · rw [if_pos hw, if_pos ((white_iff c).mpr hw)]; exact sim_same h (by rw [hm hw]; rfl)
  · rw [if_neg hw, if_neg (fun q => hw ((white_iff c).mp q))]
    by_cases e : c = 34
    · subst e; exact sim_string h.toCore true
    · rw [if_neg e, if_neg (show ¬ (c : Int) = 34 by omega)]
      exact sim_to h.toCore rfl (by decide) (by decide) (by decide) (by decide) (by decide)

/-- **a byte**: the program's def of the state and the specification's eat go alike -/
theorem sim_step {m : Int} {s : RS} {a : Sf08.Abs} (h : Rel m s a) (c : Nat) : Sim (stepM a.mode s (c : Int)) (Sf08.eat a c) := by
  have hc := h.toCore
  have hle := h.le
  have hall : a.mode = 0 ∨ a.mode = 1 ∨ a.mode = 2 ∨ a.mode = 3 ∨ a.mode = 4 ∨ a.mode = 5 ∨ a.mode = 6 ∨ a.mode = 7 ∨ a.mode = 8 ∨ a.mode = 9 ∨ a.mode = 10 ∨ a.mode = 11 ∨ a.mode = 12 ∨ a.mode = 13 ∨ a.mode = 14 ∨ a.mode = 15 ∨ a.mode = 16 ∨ a.mode = 17 ∨ a.mode = 18 := by omega
  unfold stepM Sf08.eat
  rcases hall with hm | hm | hm | hm | hm | hm | hm | hm | hm | hm | hm | hm | hm | hm | hm | hm | hm | hm | hm <;> simp only [hm]
  · -- value
    by_cases hw : (c : Int) ∈ spaces
    · rw [if_pos ((white_iff c).mpr hw)]
      unfold takeValue
      rw [if_pos hw]; exact sim_same h (by rw [hm]; rfl)
    · rw [if_neg (fun q => hw ((white_iff c).mp q))]; exact sim_value hc c hw
  · -- first
    unfold takeFirst
    by_cases hw : (c : Int) ∈ spaces
    · rw [if_pos hw, if_pos ((white_iff c).mpr hw)]; exact sim_same h (by rw [hm]; rfl)
    · rw [if_neg hw, if_neg (fun q => hw ((white_iff c).mp q))]
      obtain ⟨t, et⟩ := h.arr hm
      by_cases e : c = 93
      · subst e; exact sim_closed hc et rfl
      · rw [if_neg e, if_neg (show ¬ (c : Int) = 93 by omega)]; exact sim_value hc c hw
  · -- member
    unfold takeMember
    by_cases hw : (c : Int) ∈ spaces
    · rw [if_pos hw, if_pos ((white_iff c).mpr hw)]; exact sim_same h (by rw [hm]; rfl)
    · obtain ⟨t, et⟩ := h.obj hm
      rw [if_neg hw, if_neg (fun q => hw ((white_iff c).mp q))]
      by_cases e : c = 125
      · subst e; exact sim_closed hc et rfl
      · have k := sim_key h c (fun q => absurd q hw)
        rw [if_neg (fun q => hw ((white_iff c).mp q))] at k
        rw [if_neg (show ¬ (c : Int) = 125 by omega), if_neg e]
        exact k
  · -- key
    exact sim_key h c (fun _ => hm)
  · -- colon
    unfold takeColon
    by_cases hw : (c : Int) ∈ spaces
    · rw [if_pos hw, if_pos ((white_iff c).mpr hw)]; exact sim_same h (by rw [hm]; rfl)
    · rw [if_neg hw, if_neg (fun q => hw ((white_iff c).mp q))]
      by_cases e : c = 58
      · subst e; exact sim_to hc rfl (by decide) (by decide) (by decide) (by decide) (by decide)
      · rw [if_neg e, if_neg (show ¬ (c : Int) = 58 by omega)]
        exact sim_to hc rfl (by decide) (by decide) (by decide) (by decide) (by decide)
  · exact sim_after hc hm c
  · -- string
    unfold takeString
    by_cases e : c = 34
    · rw [if_pos e, if_pos (show (c : Int) = 34 by omega)]
      unfold endString
      rw [hc.key]
      by_cases hk : a.key = true
      · rw [if_pos hk, if_pos hk]
        exact sim_to (core_count hc 7) rfl (by decide) (by decide) (by decide) (by decide) (by decide)
      · rw [if_neg hk, if_neg hk]
        exact sim_ended hc 4
    · rw [if_neg e, if_neg (show ¬ (c : Int) = 34 by omega)]
      by_cases e2 : c = 92
      · subst e2; exact sim_to hc rfl (by decide) (by decide) (by decide) (by decide) (by decide)
      · rw [if_neg e2, if_neg (show ¬ (c : Int) = 92 by omega)]
        by_cases e3 : c < 32
        · rw [if_pos e3, if_neg (show ¬ 32 ≤ (c : Int) by omega)]
          exact sim_to hc rfl (by decide) (by decide) (by decide) (by decide) (by decide)
        · rw [if_neg e3, if_pos (show 32 ≤ (c : Int) by omega)]
          exact sim_same h (by rw [hm]; rfl)
  · -- escape
    unfold takeEscape
    have q : [34, 92, 47, 98, 102, 110, 114, 116].contains c = true ↔ (c : Int) ∈ escapes := by
      simp only [List.contains_iff_mem, escapes, List.mem_cons, List.not_mem_nil, or_false]; omega
    by_cases e : (c : Int) ∈ escapes
    · rw [if_pos e, if_pos (q.mpr e)]
      exact sim_to hc rfl (by decide) (by decide) (by decide) (by decide) (by decide)
    · rw [if_neg e, if_neg (fun z => e (q.mp z))]
      by_cases e2 : c = 117
      · subst e2
        exact ⟨⟨hc.stack, hc.deep, hc.seen, hc.slen, hc.key, rfl, hc.kind, hc.klt, hc.rlen⟩, rfl, (show (8 : Nat) ≤ 18 by decide), fun _ => (show 1 ≤ 4 by decide), (fun e => by cases e), (fun e => by cases e), (fun e => by cases e)⟩
      · rw [if_neg e2, if_neg (show ¬ (c : Int) = 117 by omega)]
        exact sim_to hc rfl (by decide) (by decide) (by decide) (by decide) (by decide)
  · -- hex
    unfold takeHex
    rw [hex_iff]
    have h1 := h.hexp hm
    have hh := hc.hex
    by_cases e : Sf08.hexDigit c = true
    · rw [if_pos e, if_pos e]
      have ei : s.left - 1 = ((a.hex - 1 : Nat) : Int) := by omega
      by_cases e2 : a.hex ≤ 1
      · simp only [if_pos e2, if_neg (show ¬ 0 < s.left - 1 by omega)]
        exact ⟨⟨hc.stack, hc.deep, hc.seen, hc.slen, hc.key, ei, hc.kind, hc.klt, hc.rlen⟩, rfl, (show (6 : Nat) ≤ 18 by decide), (fun e => by cases e), (fun e => by cases e), (fun e => by cases e), (fun e => by cases e)⟩
      · simp only [if_neg e2, if_pos (show 0 < s.left - 1 by omega)]
        exact ⟨⟨hc.stack, hc.deep, hc.seen, hc.slen, hc.key, ei, hc.kind, hc.klt, hc.rlen⟩, rfl, (show (8 : Nat) ≤ 18 by decide), fun _ => (show 1 ≤ a.hex - 1 by omega), (fun e => by cases e), (fun e => by cases e), (fun e => by cases e)⟩
    · rw [if_neg e, if_neg e]
      exact sim_to hc rfl (by decide) (by decide) (by decide) (by decide) (by decide)
  · exact sim_digits hc c
  · exact sim_zero hc c
  · -- whole
    unfold takeWhole
    rw [digit_iff]
    by_cases e : Sf08.digit c = true
    · rw [if_pos e, if_pos e]; exact sim_same h (by rw [hm]; rfl)
    · rw [if_neg e, if_neg e]; exact sim_zero hc c
  · unfold takePoint
    rw [digit_iff]
    by_cases e : Sf08.digit c = true
    · rw [if_pos e, if_pos e]; exact sim_to hc rfl (by decide) (by decide) (by decide) (by decide) (by decide)
    · rw [if_neg e, if_neg e]; exact sim_to hc rfl (by decide) (by decide) (by decide) (by decide) (by decide)
  · unfold takeFraction
    rw [digit_iff]
    by_cases e : Sf08.digit c = true
    · rw [if_pos e, if_pos e]; exact sim_same h (by rw [hm]; rfl)
    · rw [if_neg e, if_neg e]; exact sim_mark hc c
  · -- e
    unfold takeE takeSign
    rw [digit_iff]
    have q : (c = 43 ∨ c = 45) ↔ (c : Int) ∈ signs := by
      simp only [signs, List.mem_cons, List.not_mem_nil, or_false]; omega
    by_cases e : (c : Int) ∈ signs
    · rw [if_pos e, if_pos (q.mpr e)]
      exact sim_to hc rfl (by decide) (by decide) (by decide) (by decide) (by decide)
    · rw [if_neg e, if_neg (fun z => e (q.mp z))]
      by_cases e : Sf08.digit c = true
      · rw [if_pos e, if_pos e]; exact sim_to hc rfl (by decide) (by decide) (by decide) (by decide) (by decide)
      · rw [if_neg e, if_neg e]; exact sim_to hc rfl (by decide) (by decide) (by decide) (by decide) (by decide)
  · unfold takeSign
    rw [digit_iff]
    by_cases e : Sf08.digit c = true
    · rw [if_pos e, if_pos e]; exact sim_to hc rfl (by decide) (by decide) (by decide) (by decide) (by decide)
    · rw [if_neg e, if_neg e]; exact sim_to hc rfl (by decide) (by decide) (by decide) (by decide) (by decide)
  · unfold takeExponent
    rw [digit_iff]
    by_cases e : Sf08.digit c = true
    · rw [if_pos e, if_pos e]; exact sim_same h (by rw [hm]; rfl)
    · rw [if_neg e, if_neg e]; exact sim_number hc c
  · -- word
    obtain ⟨er, hne⟩ := h.rest hm
    have hr := hc.rlen
    unfold takeWord
    cases e : a.rest with
    | nil => exact absurd e hne
    | cons x r =>
      rw [e] at er
      have eh : s.rest.headD 0 = x := by rw [er]; rfl
      have et : s.rest.tail = r := by rw [er]; rfl
      rw [eh, et]
      by_cases ec : c = x
      · subst ec
        rw [if_neg (fun q => q rfl)]
        cases r with
        | nil =>
          simp only [if_true]
          have ek := hc.kind
          rw [show endValue { s with rest := [] } s.kind = endValue { s with rest := [] } (a.kind : Int) by rw [ek]]
          exact sim_ended (s := { s with rest := [] }) ⟨hc.stack, hc.deep, hc.seen, hc.slen, hc.key, hc.hex, hc.kind, hc.klt, by simp⟩ a.kind
        | cons y r =>
          simp only [if_true]
          rw [if_neg (by simp)]
          refine ⟨⟨hc.stack, hc.deep, hc.seen, hc.slen, hc.key, hc.hex, hc.kind, hc.klt, ?_⟩, ?_, ?_, ?_, ?_, ?_, ?_⟩
          · show (y :: r).length ≤ 4
            rw [er] at hr; simp at hr ⊢; omega
          · rfl
          · exact (show (17 : Nat) ≤ 18 by decide)
          · intro z; cases z
          · intro z; exact ⟨rfl, by simp⟩
          · intro z; cases z
          · intro z; cases z
      · rw [if_pos (show (c : Int) ≠ (x : Int) by omega)]
        cases r with
        | nil => simp only [if_neg ec]; exact sim_to hc rfl (by decide) (by decide) (by decide) (by decide) (by decide)
        | cons y r => simp only [if_neg ec]; exact sim_to hc rfl (by decide) (by decide) (by decide) (by decide) (by decide)
  · exact sim_to hc rfl (by decide) (by decide) (by decide) (by decide) (by decide)
end JS
namespace JS
open PyFlat

def runM : Int → RS → List Int → RS × Int
  | m, s, [] => (s, m)
  | m, s, c :: r => runM (stepM m.toNat s c).2 (stepM m.toNat s c).1 r
theorem byte_toNat {z : Int} (h0 : 0 ≤ z) (h1 : z ≤ 255) : (UInt8.ofNat z.toNat).toNat = z.toNat := by
  rw [UInt8.toNat_ofNat']
  omega
theorem sim_one {m : Int} {s : RS} {a : Sf08.Abs} (h : Rel m s a) {z : Int} (h0 : 0 ≤ z) : Sim (stepM m.toNat s z) (Sf08.eat a z.toNat) := by
  have e : m.toNat = a.mode := by rw [h.mode, Int.toNat_natCast]
  have k := sim_step h z.toNat
  rw [Int.toNat_of_nonneg h0] at k
  rw [e]; exact k
theorem sim_run : ∀ (d : List Int) {m : Int} {s : RS} {a : Sf08.Abs}, Rel m s a → (∀ z ∈ d, 0 ≤ z ∧ z ≤ 255) → Sim (runM m s d) (Sf08.eats a (Sf08Neutral.bytesOf d))
  | [], _, _, _, h, _ => h
  | z :: r, m, s, a, h, hd => by
    have hz := hd z (by simp)
    have k := sim_run r (sim_one h hz.1) (fun y hy => hd y (by simp [hy]))
    have e : Sf08.eats a (Sf08Neutral.bytesOf (z :: r)) = Sf08.eats (Sf08.eat a z.toNat) (Sf08Neutral.bytesOf r) := by
      show Sf08.eats (Sf08.eat a (UInt8.ofNat z.toNat).toNat) (Sf08Neutral.bytesOf r) = _
      rw [byte_toNat hz.1 hz.2]
    rw [e]; exact k
theorem runM_snoc : ∀ (d : List Int) (m : Int) (s : RS) (c : Int), runM m s (d ++ [c]) = stepM (runM m s d).2.toNat (runM m s d).1 c
  | [], m, s, c => rfl
  | z :: r, m, s, c => runM_snoc r _ _ c

theorem row_some {r x t : List Int} (h : row r = some (x, t)) : ∃ (n : Int), r = n :: (x ++ t) ∧ n = (x.length : Int) := by
  cases r with
  | nil => cases h
  | cons n r =>
    simp only [row] at h
    by_cases hc : 0 ≤ n ∧ n.toNat ≤ r.length
    · rw [if_pos hc] at h
      injection h with h
      injection h with h1 h2
      subst h1; subst h2
      refine ⟨n, by rw [List.take_append_drop], ?_⟩
      rw [List.length_take]
      omega
    · rw [if_neg hc] at h
      cases h
inductive Shape (p : Int) (r : List Int) (c : List (List Int)) (t : List Int) : Prop
  | clear (hp : p = 1) (hr : r = t) (hc : c = [[1]])
  | take (k x : Int) (hp : p = 2) (hr : r = k :: x :: t) (hc : c = [[2, k, x]])
  | run (d : List Int) (hp : p = 3) (hr : r = (d.length : Int) :: (d ++ t)) (hc : c = [[3], d])
  | of (k : Int) (hp : p = 4) (hr : r = k :: t) (hc : c = [[4, k]])
  | table (hp : p = 5) (hr : r = t) (hc : c = [[5]])
  | ends (hp : p = 6) (hr : r = t) (hc : c = [[6]])
  | depth (hp : p = 7) (hr : r = t) (hc : c = [[7]])
  | seen (k : Int) (hp : p = 8) (hr : r = k :: t) (hc : c = [[8, k]])
theorem call_shape {p : Int} {r : List Int} {c : List (List Int)} {t : List Int} (h : call PySf08.shape (p :: r) = some (c, t)) : Shape p r c t := by
  unfold call PySf08.shape at h
  by_cases e1 : p = 1
  · subst e1
    simp [rows] at h
    exact .clear rfl h.2 h.1.symm
  by_cases e2 : p = 2
  · subst e2
    simp [rows] at h
    obtain ⟨h0, h1, h2⟩ := h
    match r, h0, h1, h2 with
    | k :: x :: t', _, h1, h2 =>
      simp at h1 h2
      exact .take k x rfl (by rw [h2]) h1.symm
  by_cases e3 : p = 3
  · subst e3
    simp [rows] at h
    cases q : row r with
    | none => rw [q] at h; simp at h
    | some y =>
      obtain ⟨x, t'⟩ := y
      rw [q] at h
      simp at h
      obtain ⟨n, er, en⟩ := row_some q
      exact .run x rfl (by rw [er, en, h.2]) h.1.symm
  by_cases e4 : p = 4
  · subst e4
    simp [rows] at h
    obtain ⟨h0, h1, h2⟩ := h
    match r, h0, h1, h2 with
    | k :: t', _, h1, h2 =>
      simp at h1 h2
      exact .of k rfl (by rw [h2]) h1.symm
  by_cases e5 : p = 5
  · subst e5
    simp [rows] at h
    exact .table rfl h.2 h.1.symm
  by_cases e6 : p = 6
  · subst e6
    simp [rows] at h
    exact .ends rfl h.2 h.1.symm
  by_cases e7 : p = 7
  · subst e7
    simp [rows] at h
    exact .depth rfl h.2 h.1.symm
  by_cases e8 : p = 8
  · subst e8
    simp [rows] at h
    obtain ⟨h0, h1, h2⟩ := h
    match r, h0, h1, h2 with
    | k :: t', _, h1, h2 =>
      simp at h1 h2
      exact .seen k rfl (by rw [h2]) h1.symm
  simp [e1, e2, e3, e4, e5, e6, e7, e8] at h

/-- at: how many numbers of l are taken; told: what is answered so far; m, s: the reader -/
def At (l : List Int) (n : Nat) (told : List Int) (m : Int) (s : RS) : Prop :=
  ∃ (a : Sf08.Abs) (f : Nat) (cs : List (List (List Int))), calls PySf08.shape f (l.drop n) = some cs ∧ (cs.map PySf08.whole).all Sf08Neutral.asked1 = true ∧ Rel m s a ∧
    told ++ PyFlat.told (played Sf08Neutral.step a (cs.map PySf08.whole)) = PySf08.answers l ∧ told.length + 21 * cs.length ≤ 105000 ∧ n ≤ l.length
def start : RS := ⟨[], [0, 0, 0, 0, 0, 0, 0, 0], false, 0, [], 0⟩
theorem rel_start : Rel 0 start Sf08.start := ⟨⟨rfl, by decide, rfl, rfl, rfl, rfl, rfl, by decide, by decide⟩, rfl, by decide, by decide, (fun e => by cases e), (fun e => by cases e), (fun e => by cases e)⟩
theorem at_start {l : List Int} (h : PySf08.answers_asked l = true) : At l 0 [] 0 start := by
  unfold PySf08.answers_asked PySf08.calls at h
  cases e : calls PySf08.shape l.length l with
  | none => rw [e] at h; simp at h
  | some cs =>
    rw [e] at h
    simp only [Bool.and_eq_true] at h
    obtain ⟨h1, h2⟩ := h
    have h3 : cs.length ≤ 5000 := by
      have := of_decide_eq_true h1
      rwa [List.length_map] at this
    unfold Sf08Neutral.asked at h2
    simp only [Bool.and_eq_true] at h2
    refine ⟨Sf08.start, l.length, cs, e, h2.1.2.1, rel_start, ?_, by simp; omega, Nat.zero_le _⟩
    unfold PySf08.answers PySf08.calls
    rw [e]
    rfl
theorem at_end {l told : List Int} {m : Int} {s : RS} {n : Nat} (h : At l n told m s) (hn : l.length ≤ n) : told = PySf08.answers l := by
  obtain ⟨a, f, cs, hc, _, _, he, _⟩ := h
  rw [List.drop_of_length_le hn] at hc
  have e : cs = [] := by
    cases f <;> (unfold calls at hc; injection hc with hc; exact hc.symm)
  subst e
  rw [← he]; simp [played, PyFlat.told]
theorem at_len {l told : List Int} {m : Int} {s : RS} {n : Nat} (h : At l n told m s) : told.length ≤ 105000 ∧ n ≤ l.length := by
  obtain ⟨a, f, cs, _, _, _, _, h1, h2⟩ := h
  exact ⟨by omega, h2⟩
theorem at_rel {l told : List Int} {m : Int} {s : RS} {n : Nat} (h : At l n told m s) : ∃ a, Rel m s a := by
  obtain ⟨a, f, cs, _, _, hr, _⟩ := h
  exact ⟨a, hr⟩
/-- the next call -/
theorem at_next {l told : List Int} {m : Int} {s : RS} {n : Nat} (h : At l n told m s) (hn : n < l.length) :
    ∃ (a : Sf08.Abs) (p : Int) (r : List Int) (c : List (List Int)) (t : List Int), l.drop n = p :: r ∧ Shape p r c t ∧ Rel m s a ∧ Sf08Neutral.asked1 (PySf08.whole c) = true ∧ told.length + 21 ≤ 105000 ∧
      ∀ (k : Nat) (m' : Int) (s' : RS), l.drop (n + k) = t → n + k ≤ l.length → Rel m' s' (Sf08Neutral.step a (PySf08.whole c)).1 → (Sf08Neutral.step a (PySf08.whole c)).2.length ≤ 20 →
        At l (n + k) (told ++ ((Sf08Neutral.step a (PySf08.whole c)).2.length : Int) :: (Sf08Neutral.step a (PySf08.whole c)).2) m' s' := by
  obtain ⟨a, f, cs, hc, hk, hr, he, hl, hn'⟩ := h
  cases e : l.drop n with
  | nil =>
    have : (l.drop n).length = 0 := by rw [e]; rfl
    rw [List.length_drop] at this
    omega
  | cons p r =>
    rw [e] at hc
    cases f with
    | zero => unfold calls at hc; cases hc
    | succ f =>
      unfold calls at hc
      cases q : call PySf08.shape (p :: r) with
      | none => rw [q] at hc; cases hc
      | some y =>
        obtain ⟨c, t⟩ := y
        rw [q] at hc
        simp only at hc
        cases q2 : calls PySf08.shape f t with
        | none => rw [q2] at hc; cases hc
        | some cs' =>
          rw [q2] at hc
          simp only [Option.some.injEq] at hc
          subst hc
          rw [List.map_cons, List.all_cons, Bool.and_eq_true] at hk
          rw [List.length_cons] at hl
          refine ⟨a, p, r, c, t, rfl, call_shape q, hr, hk.1, by omega, fun k m' s' hd hle hR h20 => ?_⟩
          refine ⟨_, f, cs', by rw [hd]; exact q2, hk.2, hR, ?_, ?_, hle⟩
          · rw [← he]
            simp [played, PyFlat.told]
          · simp only [List.length_append, List.length_cons]
            omega
theorem drop_of {l r t : List Int} {n k : Nat} (h : l.drop n = r) (e : r.drop k = t) : l.drop (n + k) = t := by
  rw [← e, ← h, List.drop_drop]
theorem le_of_drop {l r : List Int} {n k : Nat} (h : l.drop n = r) (e : k ≤ r.length) (hn : n ≤ l.length) : n + k ≤ l.length := by
  have : (l.drop n).length = r.length := by rw [h]
  rw [List.length_drop] at this
  omega
def endsM (m : Int) (s : RS) : Bool := decide (s.nested.length = 0) && decide (m ∈ ([5, 10, 11, 13, 16] : List Int))
theorem ends_whole {m : Int} {s : RS} {a : Sf08.Abs} (h : Rel m s a) : Sf08.whole a = endsM m s := by
  unfold Sf08.whole endsM
  rw [nlen h.toCore, h.mode]
  have e1 : a.stack.isEmpty = decide (a.stack.length = 0) := by cases a.stack <;> simp
  have e2 : [5, 10, 11, 13, 16].contains a.mode = decide ((a.mode : Int) ∈ ([5, 10, 11, 13, 16] : List Int)) := by
    apply Bool.eq_iff_iff.mpr
    simp only [List.contains_iff_mem, List.mem_cons, List.not_mem_nil, or_false, decide_eq_true_eq]
    omega
  rw [e1, e2]
def tableM : List Int := [0, 0, 1, 2, 3, 4, 5, 6, 7, 8, 9, 10, 11, 12, 13, 14, 15, 16, 17, 18]
def ofM (k : Int) : Int := if 0 ≤ k ∧ k ≤ 18 then k else -1
def seenM (s : RS) (k : Int) : Int := if 0 ≤ k ∧ k ≤ 7 then s.counts.getD k.toNat 0 % 4294967296 else -1
theorem seen_is {s : RS} {a : Sf08.Abs} (h : Core s a) (k : Int) : (if 0 ≤ k ∧ k ≤ 7 then ((a.seen.getD k.toNat 0 % 2 ^ 32 : Nat) : Int) else -1) = seenM s k := by
  unfold seenM
  split
  · rw [h.seen, map_getD]; rfl
  · rfl
/-- **one call**: what stands in the list, and where the program comes to -/
inductive Turn (l : List Int) (n : Nat) (told : List Int) (m : Int) (s : RS) : Prop
  | clear (hd : l.drop n = 1 :: l.drop (n + 1)) (h : At l (n + 1) (told ++ [1, 0]) 0 start)
  | take (k c : Int) (hd : l.drop n = 2 :: k :: c :: l.drop (n + 3)) (h : 0 ≤ c ∧ c ≤ 255 → At l (n + 3) (told ++ [1, (stepM m.toNat s c).2]) (stepM m.toNat s c).2 (stepM m.toNat s c).1) (h' : ¬ (0 ≤ c ∧ c ≤ 255) → At l (n + 3) (told ++ [1, -1]) m s)
  | run (d : List Int) (hd : l.drop n = 3 :: (d.length : Int) :: (d ++ l.drop (n + (2 + d.length)))) (hb : ∀ z ∈ d, 0 ≤ z ∧ z ≤ 255) (h : At l (n + (2 + d.length)) (told ++ [1, (runM m s d).2]) (runM m s d).2 (runM m s d).1)
  | of (k : Int) (hd : l.drop n = 4 :: k :: l.drop (n + 2)) (h : At l (n + 2) (told ++ [1, ofM k]) m s)
  | table (hd : l.drop n = 5 :: l.drop (n + 1)) (h : At l (n + 1) (told ++ 20 :: tableM) m s)
  | ends (hd : l.drop n = 6 :: l.drop (n + 1)) (h : At l (n + 1) (told ++ [1, if endsM m s = true then 1 else 0]) m s)
  | depth (hd : l.drop n = 7 :: l.drop (n + 1)) (h : At l (n + 1) (told ++ [1, (s.nested.length : Int)]) m s)
  | seen (k : Int) (hd : l.drop n = 8 :: k :: l.drop (n + 2)) (h : At l (n + 2) (told ++ [1, seenM s k]) m s)
theorem turn {l told : List Int} {m : Int} {s : RS} {n : Nat} (h : At l n told m s) (hn : n < l.length) : Turn l n told m s := by
  obtain ⟨a, p, r, c, t, hd, sh, hR, hk, _, go⟩ := at_next h hn
  have hle := (at_len h).2
  cases sh with
  | clear hp hr hc =>
    subst hp; subst hr; subst hc
    have e1 : l.drop (n + 1) = r := drop_of hd rfl
    exact .clear (by rw [e1]; exact hd) (go 1 0 start e1 (le_of_drop hd (by simp) hle) rel_start (Nat.le_of_ble_eq_true rfl))
  | take k x hp hr hc =>
    subst hp; subst hr; subst hc
    have e1 : l.drop (n + 3) = t := drop_of hd rfl
    refine .take k x (by rw [e1]; exact hd) (fun hx => ?_) fun hx => ?_
    · have es : Sf08Neutral.step a (PySf08.whole [[2, k, x]]) = (Sf08.eat a x.toNat, [((Sf08.eat a x.toNat).mode : Int)]) := by
        simp only [Sf08Neutral.step, PySf08.whole, Sf08Neutral.callOf, Sf08Neutral.run, Sf08.spec, Sf08Neutral.listOf]
        rw [if_pos hx]; rfl
      have g := go 3 (stepM m.toNat s x).2 (stepM m.toNat s x).1 e1 (le_of_drop hd (by simp) hle)
      rw [es] at g
      have k1 := sim_one hR hx.1
      have g2 := g k1 (by simp)
      rw [← k1.mode] at g2
      exact g2
    · have es : Sf08Neutral.step a (PySf08.whole [[2, k, x]]) = (a, [-1]) := by
        simp only [Sf08Neutral.step, PySf08.whole, Sf08Neutral.callOf, Sf08Neutral.run, Sf08.spec, Sf08Neutral.listOf]
        rw [if_neg hx]; rfl
      have g := go 3 m s e1 (le_of_drop hd (by simp) hle)
      rw [es] at g
      exact g hR (by simp)
  | run d hp hr hc =>
    subst hp; subst hr; subst hc
    have e1 : l.drop (n + (2 + d.length)) = t := drop_of hd (by rw [Nat.add_comm 2]; simp)
    have hb : ∀ z ∈ d, 0 ≤ z ∧ z ≤ 255 := by
      simp only [PySf08.whole, Sf08Neutral.asked1, Bool.and_eq_true, List.all_eq_true] at hk
      intro z hz
      have q := hk.2.1 z hz
      simp only [Sf08Neutral.natural, Bool.and_eq_true, decide_eq_true_eq] at q
      omega
    have hl : d.length ≤ 65536 := by
      simp only [PySf08.whole, Sf08Neutral.asked1, Bool.and_eq_true, Sf08Neutral.long, decide_eq_true_eq] at hk
      have q := hk.2.2
      split at q <;> omega
    refine .run d (by rw [e1]; exact hd) hb ?_
    have es : Sf08Neutral.step a (PySf08.whole [[3], d]) = (Sf08.eats a (Sf08Neutral.bytesOf d), [((Sf08.eats a (Sf08Neutral.bytesOf d)).mode : Int)]) := by
      simp only [Sf08Neutral.step, PySf08.whole, Sf08Neutral.callOf, Sf08Neutral.run, Sf08.spec, Sf08Neutral.listOf]
      rw [if_pos (show ((d.length : Int)).toNat ≤ Sf08.MOST by rw [Int.toNat_natCast]; exact hl)]; rfl
    have g := go (2 + d.length) (runM m s d).2 (runM m s d).1 e1 (le_of_drop hd (by simp; omega) hle)
    rw [es] at g
    have k1 := sim_run d hR hb
    have g2 := g k1 (by simp)
    rw [← k1.mode] at g2
    exact g2
  | of k hp hr hc =>
    subst hp; subst hr; subst hc
    have e1 : l.drop (n + 2) = t := drop_of hd rfl
    exact .of k (by rw [e1]; exact hd) (go 2 m s e1 (le_of_drop hd (by simp) hle) hR (Nat.le_of_ble_eq_true rfl))
  | table hp hr hc =>
    subst hp; subst hr; subst hc
    have e1 : l.drop (n + 1) = r := drop_of hd rfl
    exact .table (by rw [e1]; exact hd) (go 1 m s e1 (le_of_drop hd (by simp) hle) hR (Nat.le_of_ble_eq_true rfl))
  | ends hp hr hc =>
    subst hp; subst hr; subst hc
    have e1 : l.drop (n + 1) = r := drop_of hd rfl
    have g := go 1 m s e1 (le_of_drop hd (by simp) hle) hR (Nat.le_of_ble_eq_true rfl)
    have es : Sf08Neutral.step a (PySf08.whole [[6]]) = (a, [if endsM m s = true then 1 else 0]) := by
      rw [← ends_whole hR]; rfl
    rw [es] at g
    exact .ends (by rw [e1]; exact hd) g
  | depth hp hr hc =>
    subst hp; subst hr; subst hc
    have e1 : l.drop (n + 1) = r := drop_of hd rfl
    have g := go 1 m s e1 (le_of_drop hd (by simp) hle) hR (Nat.le_of_ble_eq_true rfl)
    have es : Sf08Neutral.step a (PySf08.whole [[7]]) = (a, [(s.nested.length : Int)]) := by
      rw [nlen hR.toCore]; rfl
    rw [es] at g
    exact .depth (by rw [e1]; exact hd) g
  | seen k hp hr hc =>
    subst hp; subst hr; subst hc
    have e1 : l.drop (n + 2) = t := drop_of hd rfl
    have g := go 2 m s e1 (le_of_drop hd (by simp) hle) hR (Nat.le_of_ble_eq_true rfl)
    have es : Sf08Neutral.step a (PySf08.whole [[8, k]]) = (a, [seenM s k]) := by
      rw [← seen_is hR.toCore k]; rfl
    rw [es] at g
    exact .seen k (by rw [e1]; exact hd) g
end JS
namespace JS
/-- a call's numbers -/
inductive CallOk : List Int → Prop
  | clear : CallOk [1]
  | take (k c : Int) : CallOk [2, k, c]
  | run (d : List Int) : (∀ z ∈ d, 0 ≤ z ∧ z ≤ 255) → d.length ≤ 30000 → CallOk (3 :: (d.length : Int) :: d)
  | of (k : Int) : CallOk [4, k]
  | table : CallOk [5]
  | ends : CallOk [6]
  | depth : CallOk [7]
  | seen (k : Int) : CallOk [8, k]
def callLen : List Int → Int
  | 2 :: _ => 3
  | 3 :: n :: _ => 2 + n
  | 4 :: _ => 2
  | 8 :: _ => 2
  | _ => 1
/-- the reader behind a call (its data, its state), and the numbers that are answered -/
def answerM (m : Int) (s : RS) : List Int → (RS × Int) × List Int
  | 1 :: _ => ((start, 0), [0])
  | 2 :: _ :: c :: _ => if 0 ≤ c ∧ c ≤ 255 then (stepM m.toNat s c, [(stepM m.toNat s c).2]) else ((s, m), [-1])
  | 3 :: _ :: d => (runM m s d, [(runM m s d).2])
  | 4 :: k :: _ => ((s, m), [ofM k])
  | 5 :: _ => ((s, m), tableM)
  | 6 :: _ => ((s, m), [if endsM m s = true then 1 else 0])
  | 7 :: _ => ((s, m), [(s.nested.length : Int)])
  | 8 :: k :: _ => ((s, m), [seenM s k])
  | _ => ((s, m), [])
theorem turn_call {l told : List Int} {m : Int} {s : RS} {n : Nat} (h : At l n told m s) (hn : n < l.length) (hl : l.length ≤ 30000) :
    ∃ call : List Int, l.drop n = call ++ l.drop (n + call.length) ∧ CallOk call ∧ callLen (l.drop n) = (call.length : Int) ∧ n + call.length ≤ l.length ∧ 1 ≤ call.length ∧
      At l (n + call.length) (told ++ ((answerM m s call).2.length : Int) :: (answerM m s call).2) (answerM m s call).1.2 (answerM m s call).1.1 := by
  have ln : ∀ {call : List Int}, l.drop n = call ++ l.drop (n + call.length) → n + call.length ≤ l.length := fun {call} e => by
    have q := congrArg List.length e
    rw [List.length_append, List.length_drop, List.length_drop] at q
    omega
  cases turn h hn with
  | clear hd h =>
    have e : l.drop n = [1] ++ l.drop (n + [(1 : Int)].length) := hd
    exact ⟨[1], e, .clear, by rw [hd]; rfl, ln e, by decide, h⟩
  | take k c hd h h' =>
    have e : l.drop n = [2, k, c] ++ l.drop (n + [2, k, c].length) := hd
    refine ⟨[2, k, c], e, .take k c, by rw [hd]; rfl, ln e, by simp, ?_⟩
    by_cases q : 0 ≤ c ∧ c ≤ 255
    · have ea : answerM m s [2, k, c] = (stepM m.toNat s c, [(stepM m.toNat s c).2]) := if_pos q
      rw [ea]; exact h q
    · have ea : answerM m s [2, k, c] = ((s, m), [-1]) := if_neg q
      rw [ea]; exact h' q
  | run d hd hb h =>
    have e : l.drop n = (3 :: (d.length : Int) :: d) ++ l.drop (n + (3 :: (d.length : Int) :: d).length) := by
      have e2 : (3 :: (d.length : Int) :: d).length = 2 + d.length := by simp; omega
      rw [e2]; exact hd
    have hle := ln e
    have e2 : (3 :: (d.length : Int) :: d).length = 2 + d.length := by simp; omega
    refine ⟨3 :: (d.length : Int) :: d, e, .run d hb (by rw [e2] at hle; omega), ?_, hle, by simp, ?_⟩
    · rw [hd, e2]
      show 2 + (d.length : Int) = ((2 + d.length : Nat) : Int)
      omega
    · rw [e2]; exact h
  | of k hd h =>
    have e : l.drop n = [4, k] ++ l.drop (n + [4, k].length) := hd
    exact ⟨[4, k], e, .of k, by rw [hd]; rfl, ln e, by simp, h⟩
  | table hd h =>
    have e : l.drop n = [5] ++ l.drop (n + [(5 : Int)].length) := hd
    exact ⟨[5], e, .table, by rw [hd]; rfl, ln e, by decide, h⟩
  | ends hd h =>
    have e : l.drop n = [6] ++ l.drop (n + [(6 : Int)].length) := hd
    exact ⟨[6], e, .ends, by rw [hd]; rfl, ln e, by decide, h⟩
  | depth hd h =>
    have e : l.drop n = [7] ++ l.drop (n + [(7 : Int)].length) := hd
    exact ⟨[7], e, .depth, by rw [hd]; rfl, ln e, by decide, h⟩
  | seen k hd h =>
    have e : l.drop n = [8, k] ++ l.drop (n + [8, k].length) := hd
    exact ⟨[8, k], e, .seen k, by rw [hd]; rfl, ln e, by simp, h⟩
end JS
namespace L2
open PySem PySem.Spec PyProof.Rows
section
variable {X : Cx}
theorem pe_gi {x : Str} {n : Int} {pos : Pos} (hm : ∃ t, X.mg x = some (.int n t)) (hg : Gl X x := by rfl) (hd : (x == ("__debug__" : Str)) = false := by decide) : PE X (.Name x pos) (tC (.int n)) := by
  obtain ⟨t, ht⟩ := hm
  exact pe_glob hg ht ⟨t, rfl⟩ hd
theorem pe_gr {x : Str} {a : Addr} {pos : Pos} (hm : X.mg x = some (.ref a)) (hg : Gl X x := by rfl) (hd : (x == ("__debug__" : Str)) = false := by decide) : PE X (.Name x pos) (tC (.ref a)) := pe_glob hg hm rfl hd
theorem pe_ordc (n : Int) {x : Str} {j : Nat} {p pos pc : Pos} (hm : X.mg "ord" = none) (hl : x.length = 1) (hn : ((x.cps.getD 0 0 : Nat) : Int) = n) (hg : Gl X "ord" := by rfl) : PE X (.Call (.Name "ord" p) [.Constant (.str x) j pc] [] pos) (tC (.int n)) := by
  intro pins s σ H Q I h
  have c : PE X (.Call (.Name "ord" p) [.Constant (.str x) j pc] [] pos) _ := pe_callB call_ord hg hm boot_ord (pa_cons pe_str pa_nil)
  exact c pins s σ H Q I ⟨x, rfl, hl, by rw [hn]; exact h⟩
/-- a def, its promise -/
structure Fn (P : Program) (w : World) (K : PySem.W.Frag) (mg : Str → Option Value) (base : Heap) (k : Nat) (x : Str) (ps : List Str) (f : Addr) (sp : Sp) : Prop where
  mgx : mg x = some (.ref f)
  kp : PySem.W.keepIn K (.ref f) = true
  ex : ∃ fd, FnOk P w K mg base CX0 k f fd ps sp ∧ Binds K fd ps []
theorem Fn.mono {P : Program} {w : World} {K : PySem.W.Frag} {mg : Str → Option Value} {base : Heap} {j k : Nat} {x : Str} {ps : List Str} {f : Addr} {sp : Sp} (G : Fn P w K mg base j x ps f sp) (h : j ≤ k) : Fn P w K mg base k x ps f sp := by
  obtain ⟨fd, F, b⟩ := G.ex
  exact ⟨G.mgx, G.kp, fd, F.mono h, b⟩
theorem pe_callF {k : Nat} {x : Str} {ps : List Str} {f : Addr} {sp : Sp} {e : Expr} {es : List Expr} {t : TA} {p pos : Pos} (G : Fn X.prog X.w X.K X.mg X.base k x ps f sp) (hr : Room k X.A) (ha : PA X (e :: es) t) (hg : Gl X x := by rfl)
    (hdb : (x == ("__debug__" : Str)) = false := by decide) (he : starEach (e :: es) X.env = (false, eval e X.env) :: starEach es X.env := by rfl) (hpl : (backTo pos (starEach es X.env)).any (·.1) = false := by rfl) :
    PE X (.Call (.Name x p) (e :: es) [] pos) (tCall sp [] E0 t) := by
  obtain ⟨fd, F, b⟩ := G.ex
  exact pe_call F hr hg G.mgx G.kp b .nil pass0 ha hdb he hpl
theorem pe_callF0 {k : Nat} {x : Str} {f : Addr} {sp : Sp} {p pos : Pos} (G : Fn X.prog X.w X.K X.mg X.base k x [] f sp) (hr : Room k X.A) (hg : Gl X x := by rfl) (hdb : (x == ("__debug__" : Str)) = false := by decide) : PE X (.Call (.Name x p) [] [] pos) (tCall sp [] E0 tNil) := by
  obtain ⟨fd, F, b⟩ := G.ex
  exact pe_call0 F hr hg G.mgx G.kp b .nil pass0 hdb
/-- a def as the top has made it -/
structure Df (K : PySem.W.Frag) (mg : Str → Option Value) (x : Str) (st : Stmt) (ps : List Str) (f : Addr) : Prop where
  mgx : mg x = some (.ref f)
  ex : ∃ fd, Fun K x x st f fd ∧ Binds K fd ps []
theorem Df.fn {P : Program} {w : World} {K : PySem.W.Frag} {mg : Str → Option Value} {base : Heap} {x : Str} {st : Stmt} {N ps : List Str} {f : Addr} {k : Nat} {sp : Sp} (D : Df K mg x st ps f) (S : FnScope N ps (defScope st)) (len : ∀ vs H Q E, sp vs H Q E → vs.length = ps.length)
    (hbody : ∀ (cdv : Value) (A : Around) (outer : List Env) (s : Shared) (H : Hp) (vs : List V) (Q : VK) (E : XK), Room k (A.deeper (envOfC x (defScope st) s.heap.objs.size f cdv)) → sp vs H Q E →
      ∃ t, PSs (cxOf CX0 P w K mg base N x (defScope st) f cdv A outer s H E).nox (defBody st) t ∧ t { nx := fun _ H' => Q .non H', rt := Q } (start N vs) H) : Fn P w K mg base (k + 1) x ps f sp := by
  obtain ⟨fd, F, b⟩ := D.ex
  exact ⟨D.mgx, F.kp, fd, F.ok S len hbody, b⟩
/-- f(e, ..), f a local name that holds a def: Pf says which defs with which promises may stand there -/
def tCallL (Pf : Addr → Sp → Prop) (i : Nat) (t : TA) : TE := fun σ H Q => ∃ f sp, σ[i]? = some (some (.ref f)) ∧ Pf f sp ∧ t σ H fun vs H1 => sp vs H1 Q E0
theorem pe_callL {Pf : Addr → Sp → Prop} {k i : Nat} {x : Str} {e : Expr} {es : List Expr} {t : TA} {p pos : Pos} (hF : ∀ f sp, Pf f sp → ∃ y ps, Fn X.prog X.w X.K X.mg X.base k y ps f sp) (hr : Room k X.A)
    (hN : X.N[i]? = some x) (hv : Vis X.env.scope x) (ha : PA X (e :: es) t) (hd : (x == ("__debug__" : Str)) = false := by decide) (hcd : (x == ("__classdict__" : Str)) = false := by decide)
    (he : starEach (e :: es) X.env = (false, eval e X.env) :: starEach es X.env := by rfl) (hpl : (backTo pos (starEach es X.env)).any (·.1) = false := by rfl) :
    PE X (.Call (.Name x p) (e :: es) [] pos) (tCallL Pf i t) := by
  intro pins s σ H Q I h
  obtain ⟨f, sp, hi, hp, q⟩ := h
  obtain ⟨y, ps, G⟩ := hF f sp hp
  obtain ⟨fd, F, b⟩ := G.ex
  refine wpAny_Call_Name_kw (thn (pe_var hN hv hd hcd pins s σ H (fun v H1 => v = .ref f ∧ H1 = H) I ⟨_, hi, rfl, rfl⟩) fun u s0 ⟨v, H0, I0, r0, e1, e2⟩ => ?_)
  subst e1; subst e2
  cases r0
  refine PySem.W.callWith_K (h₀ := X.base) I0.ok.mod.kin G.kp (thn (ha pos pins s0 σ H0 _ I0 q) fun us s1 ⟨vs, H1, I1, r, q⟩ => ⟨I1.kIn, ?_⟩) he hpl
  exact run_fn F hr b .nil pass0 I1 r (by rw [List.append_nil]; exact q)
/-- xs[i], a value by itself -/
theorem get_list : PGet X (rIxL X.K) := by
  intro pins s σ H o i ov iv Q I ro ri h
  obtain ⟨p, xs, k, z, rfl, rfl, hq, he, q⟩ := h
  cases ro
  obtain ⟨t, rfl⟩ := ri
  obtain ⟨its, r, pl, hz⟩ := I.list hq
  obtain ⟨j, h1, h2, h3, h4, h5⟩ := atI_get he
  obtain ⟨w, ew, rw'⟩ := r.get h2
  have hl := r.length
  have hn := line63
  have fin : EP X pins σ Q w s := ⟨z, H, I, rw', q⟩
  by_cases h0 : 0 ≤ k
  · have hj : k.toNat = j := by
      rw [seqIndex_of h0 h5] at h1
      exact Option.some.inj h1
    exact wpAny_getItem_list pl.isList h0 (by omega) (by rw [hj]; simpa using ew) fin
  · have hj : (k + (its.toArray.size : Int)).toNat = j := by
      rw [seqIndex_neg (by omega) h4] at h1
      rw [List.size_toArray, ← hl]
      exact Option.some.inj h1
    exact wpAny_getItem_list_neg pl.isList (by omega) (by rw [List.size_toArray] <;> omega) (by omega) (by rw [hj]; simpa using ew) fin
/-- i, i + 1, .. : n of them -/
def rngV : Int → Nat → List Int
  | _, 0 => []
  | i, n + 1 => i :: rngV (i + 1) n
theorem rngV_len : ∀ (n : Nat) (i : Int), (rngV i n).length = n
  | 0, _ => rfl
  | n + 1, i => by show (rngV (i + 1) n).length + 1 = n + 1; rw [rngV_len n (i + 1)]
theorem vals_rng : ∀ (vs : List Value) (i : Int), (∀ (j : Nat) (v : Value), vs[j]? = some v → ∃ t, v = .int (i + j * 1) t) → Vals ((rngV i vs.length).map V.int) vs
  | [], _, _ => .nil
  | v :: r, i, h => by
    obtain ⟨t, ht⟩ := h 0 v rfl
    refine .cons ⟨t, by rw [ht]; simp⟩ (vals_rng r (i + 1) fun j v hj => ?_)
    obtain ⟨t', ht'⟩ := h (j + 1) v hj
    refine ⟨t', ht'.trans ?_⟩
    congr 1
    omega
/-- range(i, j), an object by itself -/
theorem call_rng2 : CallR X (.type "range") (fun xs H Q => ∃ i j : Int, xs = [.int i, .int j] ∧ ∀ p, H p = none → Q (.ref p) (upd H p (.rng i j))) := by
  intro pins s σ H xs us Q I r h
  obtain ⟨i, j, rfl, q⟩ := h
  obtain ⟨u, w', rfl, ⟨t, rfl⟩, ⟨t', rfl⟩⟩ := vals2 r
  exact call_range_2 ⟨.ref s.heap.objs.size, _, I.laid (t' := s.toks + 1) (fun b o e => Heap.get?_push_of_some _ e) (Nat.le_refl _) (show ObjOk X.prog X.w _ _ _ (.rng i j) from ⟨t, t', s.toks, Heap.get?_push_size _ rfl⟩), rfl, q _ (I.hok.fresh (Nat.le_refl _))⟩
/-- list(r), r a range object -/
theorem call_list_rng (hc : X.calm = true) : CallR X (.type "list") (fun xs H Q => ∃ (p : Addr) (i j : Int), xs = [.ref p] ∧ H p = some (.rng i j) ∧ (-(2 ^ 62) ≤ i ∧ i < 2 ^ 62 ∧ -(2 ^ 62) ≤ j ∧ j < 2 ^ 62) ∧ (j - i).toNat ≤ 1000 ∧
    ∀ l, H l = none → Q (.ref l) (upd H l (.lst ((rngV i (j - i).toNat).map V.int)))) := by
  intro pins s σ H xs us Q I r h
  obtain ⟨p, i, j, rfl, hp, ⟨h1, h2, h3, h4⟩, hz, q⟩ := h
  obtain ⟨u, rfl, rx⟩ := vals1 r
  cases rx
  obtain ⟨t, u', v, e⟩ : ∃ t u v, s.heap.get? p = some { cls := .type "range", data := .fields #[.int i t, .int j u, .int 1 v] } := I.hok p _ hp
  refine call_list_range (n := (j - i).toNat) (I.ok.hd hc) (show IsRange s.heap p i j 1 t u' v from e) (small_one h1 h2 h3 h4) (rangeSize_nat i j) (Nat.le_trans hz (by decide)) fun h' tk acc c kp eD it => ?_
  have e1 : acc.toList.length = (j - i).toNat := by rw [Array.length_toList]; exact it.1
  have k := vals_rng acc.toList i fun m v hm => it.2 m v (by rw [← hm, Array.getElem?_toList])
  rw [e1] at k
  have nw : ObjOk X.prog X.w (upd H s.heap.objs.size (.lst ((rngV i (j - i).toNat).map V.int))) h' s.heap.objs.size (.lst ((rngV i (j - i).toNat).map V.int)) :=
    ⟨by rw [List.length_map, rngV_len]; exact Nat.le_trans hz (by decide), acc.toList, c, k, by rw [Array.toArray_toList]; exact eD⟩
  exact ⟨.ref s.heap.objs.size, _, I.laid (t' := tk) kp (Nat.le_refl _) nw, rfl, q _ (I.hok.fresh (Nat.le_refl _))⟩
end
/-- a comprehension over a text -/
theorem lc_str {x : Str} {g : TG} {tt : TT} {te : TE} {vs : List Nat} {σ : St} {H1 : Hp} {D : Addr} {Qd : Hp → Prop} (Pv : Nat → Hp → Prop) (h0 : Pv 0 (upd H1 D (.lst [])))
    (hs : ∀ i c H, x.cps[i]? = some c → Pv i H → g (.str ⟨#[c]⟩) (wipe σ vs) H fun σ2 H2 => wipe σ2 vs = wipe σ vs ∧ tt σ2 H2 fun b H3 =>
      if b = true then te σ2 H3 fun y H4 => ∃ acc, H4 D = some (.lst acc) ∧ acc.length < sizeLine ∧ Pv (i + 1) (upd H4 D (.lst (acc ++ [y]))) else Pv (i + 1) H3) (hd : ∀ H, Pv x.cps.size H → Qd H) :
    ∃ W : Nat → Nat → Hp → Prop, (∃ m, W 0 m (upd H1 D (.lst []))) ∧ ∀ i m H, W i m H →
      ((Its x).stop i H ∧ Qd H) ∨ ((Its x).go i H ∧ ∃ Nx : Hp → Prop, (∀ H', Nx H' → ∃ m', m' < m ∧ W (i + 1) m' H') ∧ ∀ v H', (Its x).yld i H v H' → g v (wipe σ vs) H' fun σ2 H2 => wipe σ2 vs = wipe σ vs ∧ tt σ2 H2 fun b H3 =>
        if b = true then te σ2 H3 fun y H4 => ∃ acc, H4 D = some (.lst acc) ∧ acc.length < sizeLine ∧ Nx (upd H4 D (.lst (acc ++ [y]))) else Nx H3) := by
  refine ⟨fun i m H => m = x.cps.size - i ∧ i ≤ x.cps.size ∧ Pv i H, ⟨x.cps.size, by simp, Nat.zero_le _, h0⟩, ?_⟩
  rintro i m H ⟨rfl, hi, p⟩
  by_cases hlt : i < x.cps.size
  · refine .inr ⟨hlt, Pv (i + 1), fun H' p' => ⟨x.cps.size - (i + 1), by omega, rfl, hlt, p'⟩, fun v H' y => ?_⟩
    obtain ⟨e, c, hc, ev⟩ := y
    subst e
    subst ev
    exact hs i c _ hc p
  · have e : i = x.cps.size := by omega
    subst e
    exact .inl ⟨Nat.le_refl _, hd H p⟩
end L2

namespace JS
open PySem L2
theorem inV_ints (c : Int) : ∀ ns : List Int, inV (.int c) (ns.map V.int) = decide (c ∈ ns)
  | [] => by simp [inV]
  | n :: r => by
    have ih := inV_ints c r
    unfold inV at ih ⊢
    rw [List.map_cons, List.any_cons, ih]
    show ((n == c) || decide (c ∈ r)) = decide (c ∈ n :: r)
    by_cases e : n = c
    · subst e; simp
    · have e' : ¬ c = n := fun q => e q.symm
      simp [e, e']
theorem flat_ints : ∀ ns : List Int, (ns.map V.int).all flatV = true
  | [] => rfl
  | _ :: r => by rw [List.map_cons, List.all_cons, flat_ints r]; rfl
/-- a test «c == n» -/
theorem if_eq {n c : Int} {H : Hp} {A B : Prop} (h1 : c = n → A) (h2 : ¬ c = n → B) : if decide (V.int c = V.int n) = true then A else B := by
  by_cases e : c = n
  · rw [if_pos (by simp [e])]; exact h1 e
  · rw [if_neg (by simp [e])]; exact h2 e
theorem rd_eq {i : Nat} {c n : Int} {σ : St} {H : Hp} {t u : TS} {D : Ends} (hσ : σ[i]? = some (some (.int c))) (h1 : c = n → t D σ H) (h2 : ¬ c = n → u D σ H) : tIfS (tTest (tOp rEq (tVar i) (tC (.int n)))) t u D σ H :=
  ⟨_, hσ, rfl, _, rfl, if_eq (H := H) h1 h2⟩
theorem rd_in {K : PySem.W.Frag} {i : Nat} {a : Addr} {c : Int} {ns : List Int} {σ : St} {H : Hp} {t u : TS} {D : Ends} (hS : SqT K H a (ns.map V.int)) (hσ : σ[i]? = some (some (.int c))) (h1 : c ∈ ns → t D σ H) (h2 : ¬ c ∈ ns → u D σ H) :
    tIfS (tTest (tOp (rIn K false) (tVar i) (tC (.ref a)))) t u D σ H := by
  refine ⟨_, hσ, a, _, rfl, .inr hS, rfl, flat_ints ns, _, rfl, ?_⟩
  rw [if_neg (by decide), inV_ints]
  show if decide (c ∈ ns) = true then t D σ H else u D σ H
  by_cases e : c ∈ ns
  · rw [if_pos (decide_eq_true e)]; exact h1 e
  · rw [if_neg (fun q => e (of_decide_eq_true q))]; exact h2 e
/-- a test «c in (n, ..)», the tuple written -/
theorem if_in {ns : List Int} {c : Int} {A B : Prop} (h1 : c ∈ ns → A) (h2 : ¬ c ∈ ns → B) : if (if false = true then !inV (V.int c) (ns.map V.int) else inV (V.int c) (ns.map V.int)) = true then A else B := by
  rw [if_neg Bool.false_ne_true, inV_ints]
  by_cases e : c ∈ ns
  · rw [if_pos (decide_eq_true e)]; exact h1 e
  · rw [if_neg (fun q => e (of_decide_eq_true q))]; exact h2 e
/-- a test «xs[i] == n», the item known -/
theorem rd_ix {K : PySem.W.Frag} {H : Hp} {σ : St} {i : Nat} {a : Addr} {z x n : Int} {xs : List V} {tz : TE} {t u : TS} {D : Ends} (hS : SqL K H a xs) (hσ : σ[i]? = some (some (.ref a))) (hz : ∀ Q, Q (.int z) H → tz σ H Q) (hx : atI xs z = some (.int x)) (h1 : x = n → t D σ H) (h2 : ¬ x = n → u D σ H) :
    tIfS (tTest (tOp rEq (tOp (rIxL K) (tVar i) tz) (tC (.int n)))) t u D σ H :=
  ⟨_, hσ, hz _ ⟨a, xs, z, _, rfl, rfl, hS, hx, rfl, _, rfl, if_eq (H := H) h1 h2⟩⟩
end JS
set_option maxHeartbeats 4000000
namespace JS
open PySem L2
def top (i : Nat) : Stmt := PySem.Challenge.pw_jsonstates_s01_answers.main.body.getD i (.Pass ⟨0, 0, 0, 0⟩)
abbrev s_Reader_init : Stmt := inClass (top 44) 0
theorem sc_Reader_init : FnScope ["self"] ["self"] (defScope s_Reader_init) := ⟨rfl, rfl, rfl, by decide +kernel, rfl, by decide +kernel, by decide +kernel⟩
abbrev s_Reader_begin : Stmt := inClass (top 44) 1
theorem sc_Reader_begin : FnScope ["self"] ["self"] (defScope s_Reader_begin) := ⟨rfl, rfl, rfl, by decide +kernel, rfl, by decide +kernel, by decide +kernel⟩
abbrev s_is_one_of : Stmt := top 45
theorem sc_is_one_of : FnScope ["c", "signs", "sign"] ["c", "signs"] (defScope s_is_one_of) := ⟨rfl, rfl, rfl, by decide +kernel, rfl, by decide +kernel, by decide +kernel⟩
abbrev s_is_digit : Stmt := top 46
theorem sc_is_digit : FnScope ["c"] ["c"] (defScope s_is_digit) := ⟨rfl, rfl, rfl, by decide +kernel, rfl, by decide +kernel, by decide +kernel⟩
abbrev s_is_hex_digit : Stmt := top 47
theorem sc_is_hex_digit : FnScope ["c"] ["c"] (defScope s_is_hex_digit) := ⟨rfl, rfl, rfl, by decide +kernel, rfl, by decide +kernel, by decide +kernel⟩
abbrev s_end_value : Stmt := top 48
theorem sc_end_value : FnScope ["reader", "kind"] ["reader", "kind"] (defScope s_end_value) := ⟨rfl, rfl, rfl, by decide +kernel, rfl, by decide +kernel, by decide +kernel⟩
abbrev s_go_into : Stmt := top 49
theorem sc_go_into : FnScope ["reader", "kind", "inside"] ["reader", "kind", "inside"] (defScope s_go_into) := ⟨rfl, rfl, rfl, by decide +kernel, rfl, by decide +kernel, by decide +kernel⟩
abbrev s_close_innermost : Stmt := top 50
theorem sc_close_innermost : FnScope ["reader"] ["reader"] (defScope s_close_innermost) := ⟨rfl, rfl, rfl, by decide +kernel, rfl, by decide +kernel, by decide +kernel⟩
abbrev s_begin_string : Stmt := top 51
theorem sc_begin_string : FnScope ["reader", "in_key"] ["reader", "in_key"] (defScope s_begin_string) := ⟨rfl, rfl, rfl, by decide +kernel, rfl, by decide +kernel, by decide +kernel⟩
abbrev s_begin_word : Stmt := top 52
theorem sc_begin_word : FnScope ["reader", "rest", "kind"] ["reader", "rest", "kind"] (defScope s_begin_word) := ⟨rfl, rfl, rfl, by decide +kernel, rfl, by decide +kernel, by decide +kernel⟩
abbrev s_begin_digits : Stmt := top 53
theorem sc_begin_digits : FnScope ["c"] ["c"] (defScope s_begin_digits) := ⟨rfl, rfl, rfl, by decide +kernel, rfl, by decide +kernel, by decide +kernel⟩
abbrev s_take_value : Stmt := top 54
theorem sc_take_value : FnScope ["reader", "c"] ["reader", "c"] (defScope s_take_value) := ⟨rfl, rfl, rfl, by decide +kernel, rfl, by decide +kernel, by decide +kernel⟩
abbrev s_take_first : Stmt := top 55
theorem sc_take_first : FnScope ["reader", "c"] ["reader", "c"] (defScope s_take_first) := ⟨rfl, rfl, rfl, by decide +kernel, rfl, by decide +kernel, by decide +kernel⟩
abbrev s_take_member : Stmt := top 56
theorem sc_take_member : FnScope ["reader", "c"] ["reader", "c"] (defScope s_take_member) := ⟨rfl, rfl, rfl, by decide +kernel, rfl, by decide +kernel, by decide +kernel⟩
abbrev s_take_key : Stmt := top 57
theorem sc_take_key : FnScope ["reader", "c"] ["reader", "c"] (defScope s_take_key) := ⟨rfl, rfl, rfl, by decide +kernel, rfl, by decide +kernel, by decide +kernel⟩
abbrev s_take_colon : Stmt := top 58
theorem sc_take_colon : FnScope ["reader", "c"] ["reader", "c"] (defScope s_take_colon) := ⟨rfl, rfl, rfl, by decide +kernel, rfl, by decide +kernel, by decide +kernel⟩
abbrev s_take_after : Stmt := top 59
theorem sc_take_after : FnScope ["reader", "c"] ["reader", "c"] (defScope s_take_after) := ⟨rfl, rfl, rfl, by decide +kernel, rfl, by decide +kernel, by decide +kernel⟩
abbrev s_take_after_item : Stmt := top 60
theorem sc_take_after_item : FnScope ["reader", "c"] ["reader", "c"] (defScope s_take_after_item) := ⟨rfl, rfl, rfl, by decide +kernel, rfl, by decide +kernel, by decide +kernel⟩
abbrev s_take_after_member : Stmt := top 61
theorem sc_take_after_member : FnScope ["reader", "c"] ["reader", "c"] (defScope s_take_after_member) := ⟨rfl, rfl, rfl, by decide +kernel, rfl, by decide +kernel, by decide +kernel⟩
abbrev s_take_string : Stmt := top 62
theorem sc_take_string : FnScope ["reader", "c"] ["reader", "c"] (defScope s_take_string) := ⟨rfl, rfl, rfl, by decide +kernel, rfl, by decide +kernel, by decide +kernel⟩
abbrev s_end_string : Stmt := top 63
theorem sc_end_string : FnScope ["reader"] ["reader"] (defScope s_end_string) := ⟨rfl, rfl, rfl, by decide +kernel, rfl, by decide +kernel, by decide +kernel⟩
abbrev s_take_escape : Stmt := top 64
theorem sc_take_escape : FnScope ["reader", "c"] ["reader", "c"] (defScope s_take_escape) := ⟨rfl, rfl, rfl, by decide +kernel, rfl, by decide +kernel, by decide +kernel⟩
abbrev s_take_hex : Stmt := top 65
theorem sc_take_hex : FnScope ["reader", "c"] ["reader", "c"] (defScope s_take_hex) := ⟨rfl, rfl, rfl, by decide +kernel, rfl, by decide +kernel, by decide +kernel⟩
abbrev s_take_minus : Stmt := top 66
theorem sc_take_minus : FnScope ["reader", "c"] ["reader", "c"] (defScope s_take_minus) := ⟨rfl, rfl, rfl, by decide +kernel, rfl, by decide +kernel, by decide +kernel⟩
abbrev s_take_zero : Stmt := top 67
theorem sc_take_zero : FnScope ["reader", "c"] ["reader", "c"] (defScope s_take_zero) := ⟨rfl, rfl, rfl, by decide +kernel, rfl, by decide +kernel, by decide +kernel⟩
abbrev s_take_whole : Stmt := top 68
theorem sc_take_whole : FnScope ["reader", "c"] ["reader", "c"] (defScope s_take_whole) := ⟨rfl, rfl, rfl, by decide +kernel, rfl, by decide +kernel, by decide +kernel⟩
abbrev s_take_point : Stmt := top 69
theorem sc_take_point : FnScope ["reader", "c"] ["reader", "c"] (defScope s_take_point) := ⟨rfl, rfl, rfl, by decide +kernel, rfl, by decide +kernel, by decide +kernel⟩
abbrev s_take_fraction : Stmt := top 70
theorem sc_take_fraction : FnScope ["reader", "c"] ["reader", "c"] (defScope s_take_fraction) := ⟨rfl, rfl, rfl, by decide +kernel, rfl, by decide +kernel, by decide +kernel⟩
abbrev s_take_mark_or_end : Stmt := top 71
theorem sc_take_mark_or_end : FnScope ["reader", "c"] ["reader", "c"] (defScope s_take_mark_or_end) := ⟨rfl, rfl, rfl, by decide +kernel, rfl, by decide +kernel, by decide +kernel⟩
abbrev s_take_e : Stmt := top 72
theorem sc_take_e : FnScope ["reader", "c"] ["reader", "c"] (defScope s_take_e) := ⟨rfl, rfl, rfl, by decide +kernel, rfl, by decide +kernel, by decide +kernel⟩
abbrev s_take_sign : Stmt := top 73
theorem sc_take_sign : FnScope ["reader", "c"] ["reader", "c"] (defScope s_take_sign) := ⟨rfl, rfl, rfl, by decide +kernel, rfl, by decide +kernel, by decide +kernel⟩
abbrev s_take_exponent : Stmt := top 74
theorem sc_take_exponent : FnScope ["reader", "c"] ["reader", "c"] (defScope s_take_exponent) := ⟨rfl, rfl, rfl, by decide +kernel, rfl, by decide +kernel, by decide +kernel⟩
abbrev s_end_number : Stmt := top 75
theorem sc_end_number : FnScope ["reader", "c"] ["reader", "c"] (defScope s_end_number) := ⟨rfl, rfl, rfl, by decide +kernel, rfl, by decide +kernel, by decide +kernel⟩
abbrev s_take_word : Stmt := top 76
theorem sc_take_word : FnScope ["reader", "c"] ["reader", "c"] (defScope s_take_word) := ⟨rfl, rfl, rfl, by decide +kernel, rfl, by decide +kernel, by decide +kernel⟩
abbrev s_take_bad : Stmt := top 77
theorem sc_take_bad : FnScope ["reader", "c"] ["reader", "c"] (defScope s_take_bad) := ⟨rfl, rfl, rfl, by decide +kernel, rfl, by decide +kernel, by decide +kernel⟩
abbrev s_step : Stmt := top 79
theorem sc_step : FnScope ["reader", "c", "take_byte"] ["reader", "c"] (defScope s_step) := ⟨rfl, rfl, rfl, by decide +kernel, rfl, by decide +kernel, by decide +kernel⟩
abbrev s_clear : Stmt := top 80
theorem sc_clear : FnScope ["reader"] ["reader"] (defScope s_clear) := ⟨rfl, rfl, rfl, by decide +kernel, rfl, by decide +kernel, by decide +kernel⟩
abbrev s_take : Stmt := top 81
theorem sc_take : FnScope ["reader", "c"] ["reader", "c"] (defScope s_take) := ⟨rfl, rfl, rfl, by decide +kernel, rfl, by decide +kernel, by decide +kernel⟩
abbrev s_run : Stmt := top 82
theorem sc_run : FnScope ["reader", "data", "c"] ["reader", "data"] (defScope s_run) := ⟨rfl, rfl, rfl, by decide +kernel, rfl, by decide +kernel, by decide +kernel⟩
abbrev s_state_of : Stmt := top 83
theorem sc_state_of : FnScope ["k"] ["k"] (defScope s_state_of) := ⟨rfl, rfl, rfl, by decide +kernel, rfl, by decide +kernel, by decide +kernel⟩
abbrev s_table : Stmt := top 84
theorem sc_table : FnScope [] [] (defScope s_table) := ⟨rfl, rfl, rfl, by decide +kernel, rfl, by decide +kernel, by decide +kernel⟩
abbrev s_ends : Stmt := top 85
theorem sc_ends : FnScope ["reader"] ["reader"] (defScope s_ends) := ⟨rfl, rfl, rfl, by decide +kernel, rfl, by decide +kernel, by decide +kernel⟩
abbrev s_depth : Stmt := top 86
theorem sc_depth : FnScope ["reader"] ["reader"] (defScope s_depth) := ⟨rfl, rfl, rfl, by decide +kernel, rfl, by decide +kernel, by decide +kernel⟩
abbrev s_seen : Stmt := top 87
theorem sc_seen : FnScope ["reader", "kind"] ["reader", "kind"] (defScope s_seen) := ⟨rfl, rfl, rfl, by decide +kernel, rfl, by decide +kernel, by decide +kernel⟩
abbrev s_call_length : Stmt := top 88
theorem sc_call_length : FnScope ["calls", "at"] ["calls", "at"] (defScope s_call_length) := ⟨rfl, rfl, rfl, by decide +kernel, rfl, by decide +kernel, by decide +kernel⟩
abbrev s_answer : Stmt := top 89
theorem sc_answer : FnScope ["reader", "call"] ["reader", "call"] (defScope s_answer) := ⟨rfl, rfl, rfl, by decide +kernel, rfl, by decide +kernel, by decide +kernel⟩
abbrev s_answers : Stmt := top 90
theorem sc_answers : FnScope ["calls", "reader", "told", "at", "length", "numbers"] ["calls"] (defScope s_answers) := ⟨rfl, rfl, rfl, by decide +kernel, rfl, by decide +kernel, by decide +kernel⟩
theorem lk_hit {f : Str} {v : V} {r : List (Str × V)} : List.lookup f ((f, v) :: r) = some v := by
  show (match f == f with | true => some v | false => List.lookup f r) = some v
  rw [beq_self_eq_true]
theorem lk_miss {f g : Str} {v : V} {r : List (Str × V)} (h : ¬ f = g) : List.lookup f ((g, v) :: r) = List.lookup f r := by
  show (match f == g with | true => some v | false => List.lookup f r) = List.lookup f r
  rw [beq_eq_false_iff_ne.mpr h]
theorem pf_nil {f : Str} {v : V} : putF f v [] = [(f, v)] := rfl
theorem pf_hit {f : Str} {v x : V} {r : List (Str × V)} : putF f v ((f, x) :: r) = (f, v) :: r := by
  show (if f = f then (f, v) :: r else (f, x) :: putF f v r) = _
  rw [if_pos rfl]
theorem pf_miss {f g : Str} {v x : V} {r : List (Str × V)} (h : ¬ g = f) : putF f v ((g, x) :: r) = (g, x) :: putF f v r := by
  show (if g = f then (g, v) :: r else (g, x) :: putF f v r) = _
  rw [if_neg h]
def fl (v0 v1 v2 v3 v4 v5 v6 : V) : List (Str × V) := [("state", v0), ("nested", v1), ("counts", v2), ("in_key", v3), ("digits_left", v4), ("word_rest", v5), ("word_kind", v6)]
theorem n_state_nested : ¬ (("state" : Str) = "nested") := by decide +kernel
theorem n_nested_state : ¬ (("nested" : Str) = "state") := by decide +kernel
theorem n_state_counts : ¬ (("state" : Str) = "counts") := by decide +kernel
theorem n_counts_state : ¬ (("counts" : Str) = "state") := by decide +kernel
theorem n_state_in_key : ¬ (("state" : Str) = "in_key") := by decide +kernel
theorem n_in_key_state : ¬ (("in_key" : Str) = "state") := by decide +kernel
theorem n_state_digits_left : ¬ (("state" : Str) = "digits_left") := by decide +kernel
theorem n_digits_left_state : ¬ (("digits_left" : Str) = "state") := by decide +kernel
theorem n_state_word_rest : ¬ (("state" : Str) = "word_rest") := by decide +kernel
theorem n_word_rest_state : ¬ (("word_rest" : Str) = "state") := by decide +kernel
theorem n_state_word_kind : ¬ (("state" : Str) = "word_kind") := by decide +kernel
theorem n_word_kind_state : ¬ (("word_kind" : Str) = "state") := by decide +kernel
theorem n_nested_counts : ¬ (("nested" : Str) = "counts") := by decide +kernel
theorem n_counts_nested : ¬ (("counts" : Str) = "nested") := by decide +kernel
theorem n_nested_in_key : ¬ (("nested" : Str) = "in_key") := by decide +kernel
theorem n_in_key_nested : ¬ (("in_key" : Str) = "nested") := by decide +kernel
theorem n_nested_digits_left : ¬ (("nested" : Str) = "digits_left") := by decide +kernel
theorem n_digits_left_nested : ¬ (("digits_left" : Str) = "nested") := by decide +kernel
theorem n_nested_word_rest : ¬ (("nested" : Str) = "word_rest") := by decide +kernel
theorem n_word_rest_nested : ¬ (("word_rest" : Str) = "nested") := by decide +kernel
theorem n_nested_word_kind : ¬ (("nested" : Str) = "word_kind") := by decide +kernel
theorem n_word_kind_nested : ¬ (("word_kind" : Str) = "nested") := by decide +kernel
theorem n_counts_in_key : ¬ (("counts" : Str) = "in_key") := by decide +kernel
theorem n_in_key_counts : ¬ (("in_key" : Str) = "counts") := by decide +kernel
theorem n_counts_digits_left : ¬ (("counts" : Str) = "digits_left") := by decide +kernel
theorem n_digits_left_counts : ¬ (("digits_left" : Str) = "counts") := by decide +kernel
theorem n_counts_word_rest : ¬ (("counts" : Str) = "word_rest") := by decide +kernel
theorem n_word_rest_counts : ¬ (("word_rest" : Str) = "counts") := by decide +kernel
theorem n_counts_word_kind : ¬ (("counts" : Str) = "word_kind") := by decide +kernel
theorem n_word_kind_counts : ¬ (("word_kind" : Str) = "counts") := by decide +kernel
theorem n_in_key_digits_left : ¬ (("in_key" : Str) = "digits_left") := by decide +kernel
theorem n_digits_left_in_key : ¬ (("digits_left" : Str) = "in_key") := by decide +kernel
theorem n_in_key_word_rest : ¬ (("in_key" : Str) = "word_rest") := by decide +kernel
theorem n_word_rest_in_key : ¬ (("word_rest" : Str) = "in_key") := by decide +kernel
theorem n_in_key_word_kind : ¬ (("in_key" : Str) = "word_kind") := by decide +kernel
theorem n_word_kind_in_key : ¬ (("word_kind" : Str) = "in_key") := by decide +kernel
theorem n_digits_left_word_rest : ¬ (("digits_left" : Str) = "word_rest") := by decide +kernel
theorem n_word_rest_digits_left : ¬ (("word_rest" : Str) = "digits_left") := by decide +kernel
theorem n_digits_left_word_kind : ¬ (("digits_left" : Str) = "word_kind") := by decide +kernel
theorem n_word_kind_digits_left : ¬ (("word_kind" : Str) = "digits_left") := by decide +kernel
theorem n_word_rest_word_kind : ¬ (("word_rest" : Str) = "word_kind") := by decide +kernel
theorem n_word_kind_word_rest : ¬ (("word_kind" : Str) = "word_rest") := by decide +kernel
theorem lk_state {v0 v1 v2 v3 v4 v5 v6 : V} : List.lookup ("state" : Str) (fl v0 v1 v2 v3 v4 v5 v6) = some v0 := by unfold fl; rw [lk_hit]
theorem pf_state {v0 v1 v2 v3 v4 v5 v6 x : V} : putF ("state" : Str) x (fl v0 v1 v2 v3 v4 v5 v6) = fl x v1 v2 v3 v4 v5 v6 := by unfold fl; rw [pf_hit]
theorem lk_nested {v0 v1 v2 v3 v4 v5 v6 : V} : List.lookup ("nested" : Str) (fl v0 v1 v2 v3 v4 v5 v6) = some v1 := by unfold fl; rw [lk_miss n_nested_state, lk_hit]
theorem pf_nested {v0 v1 v2 v3 v4 v5 v6 x : V} : putF ("nested" : Str) x (fl v0 v1 v2 v3 v4 v5 v6) = fl v0 x v2 v3 v4 v5 v6 := by unfold fl; rw [pf_miss n_state_nested, pf_hit]
theorem lk_counts {v0 v1 v2 v3 v4 v5 v6 : V} : List.lookup ("counts" : Str) (fl v0 v1 v2 v3 v4 v5 v6) = some v2 := by unfold fl; rw [lk_miss n_counts_state, lk_miss n_counts_nested, lk_hit]
theorem pf_counts {v0 v1 v2 v3 v4 v5 v6 x : V} : putF ("counts" : Str) x (fl v0 v1 v2 v3 v4 v5 v6) = fl v0 v1 x v3 v4 v5 v6 := by unfold fl; rw [pf_miss n_state_counts, pf_miss n_nested_counts, pf_hit]
theorem lk_in_key {v0 v1 v2 v3 v4 v5 v6 : V} : List.lookup ("in_key" : Str) (fl v0 v1 v2 v3 v4 v5 v6) = some v3 := by unfold fl; rw [lk_miss n_in_key_state, lk_miss n_in_key_nested, lk_miss n_in_key_counts, lk_hit]
theorem pf_in_key {v0 v1 v2 v3 v4 v5 v6 x : V} : putF ("in_key" : Str) x (fl v0 v1 v2 v3 v4 v5 v6) = fl v0 v1 v2 x v4 v5 v6 := by unfold fl; rw [pf_miss n_state_in_key, pf_miss n_nested_in_key, pf_miss n_counts_in_key, pf_hit]
theorem lk_digits_left {v0 v1 v2 v3 v4 v5 v6 : V} : List.lookup ("digits_left" : Str) (fl v0 v1 v2 v3 v4 v5 v6) = some v4 := by unfold fl; rw [lk_miss n_digits_left_state, lk_miss n_digits_left_nested, lk_miss n_digits_left_counts, lk_miss n_digits_left_in_key, lk_hit]
theorem pf_digits_left {v0 v1 v2 v3 v4 v5 v6 x : V} : putF ("digits_left" : Str) x (fl v0 v1 v2 v3 v4 v5 v6) = fl v0 v1 v2 v3 x v5 v6 := by unfold fl; rw [pf_miss n_state_digits_left, pf_miss n_nested_digits_left, pf_miss n_counts_digits_left, pf_miss n_in_key_digits_left, pf_hit]
theorem lk_word_rest {v0 v1 v2 v3 v4 v5 v6 : V} : List.lookup ("word_rest" : Str) (fl v0 v1 v2 v3 v4 v5 v6) = some v5 := by unfold fl; rw [lk_miss n_word_rest_state, lk_miss n_word_rest_nested, lk_miss n_word_rest_counts, lk_miss n_word_rest_in_key, lk_miss n_word_rest_digits_left, lk_hit]
theorem pf_word_rest {v0 v1 v2 v3 v4 v5 v6 x : V} : putF ("word_rest" : Str) x (fl v0 v1 v2 v3 v4 v5 v6) = fl v0 v1 v2 v3 v4 x v6 := by unfold fl; rw [pf_miss n_state_word_rest, pf_miss n_nested_word_rest, pf_miss n_counts_word_rest, pf_miss n_in_key_word_rest, pf_miss n_digits_left_word_rest, pf_hit]
theorem lk_word_kind {v0 v1 v2 v3 v4 v5 v6 : V} : List.lookup ("word_kind" : Str) (fl v0 v1 v2 v3 v4 v5 v6) = some v6 := by unfold fl; rw [lk_miss n_word_kind_state, lk_miss n_word_kind_nested, lk_miss n_word_kind_counts, lk_miss n_word_kind_in_key, lk_miss n_word_kind_digits_left, lk_miss n_word_kind_word_rest, lk_hit]
theorem pf_word_kind {v0 v1 v2 v3 v4 v5 v6 x : V} : putF ("word_kind" : Str) x (fl v0 v1 v2 v3 v4 v5 v6) = fl v0 v1 v2 v3 v4 v5 x := by unfold fl; rw [pf_miss n_state_word_kind, pf_miss n_nested_word_kind, pf_miss n_counts_word_kind, pf_miss n_in_key_word_kind, pf_miss n_digits_left_word_kind, pf_miss n_word_rest_word_kind, pf_hit]
theorem fl_new {v0 v1 v2 v3 v4 v5 v6 : V} : putF ("word_kind" : Str) v6 (putF ("word_rest" : Str) v5 (putF ("digits_left" : Str) v4 (putF ("in_key" : Str) v3 (putF ("counts" : Str) v2 (putF ("nested" : Str) v1 (putF ("state" : Str) v0 ([]))))))) = fl v0 v1 v2 v3 v4 v5 v6 := by unfold fl; rw [pf_nil, pf_miss n_state_nested, pf_nil, pf_miss n_state_counts, pf_miss n_nested_counts, pf_nil, pf_miss n_state_in_key, pf_miss n_nested_in_key, pf_miss n_counts_in_key, pf_nil, pf_miss n_state_digits_left, pf_miss n_nested_digits_left, pf_miss n_counts_digits_left, pf_miss n_in_key_digits_left, pf_nil, pf_miss n_state_word_rest, pf_miss n_nested_word_rest, pf_miss n_counts_word_rest, pf_miss n_in_key_word_rest, pf_miss n_digits_left_word_rest, pf_nil, pf_miss n_state_word_kind, pf_miss n_nested_word_kind, pf_miss n_counts_word_kind, pf_miss n_in_key_word_kind, pf_miss n_digits_left_word_kind, pf_miss n_word_rest_word_kind, pf_nil]
theorem fl_len {v0 v1 v2 v3 v4 v5 v6 : V} : (fl v0 v1 v2 v3 v4 v5 v6).length < 1000 := by show 7 < 1000; decide
def txt (r : List Nat) : Str := ⟨r.toArray⟩
abbrev rf (m : Int) (ln lc : Addr) (s : RS) : List (Str × V) := fl (.int m) (.ref ln) (.ref lc) (.bl s.key) (.int s.left) (.str (txt s.rest)) (.int s.kind)
/-- a reader stands at r, its lists at ln and lc -/
structure RdAt (C : Addr) (H : Hp) (r ln lc : Addr) (m : Int) (s : RS) : Prop where
  ob : ∃ dx, H r = some (.ins C dx (rf m ln lc s))
  nst : H ln = some (.lst (s.nested.map V.int))
  cnt : H lc = some (.lst (s.counts.map V.int))
  ne : ln ≠ lc
/-- all else stays -/
def Kp (H H' : Hp) (r ln lc : Addr) : Prop := ∀ b o, H b = some o → b ≠ r → b ≠ ln → b ≠ lc → H' b = some o
theorem Kp.refl {H : Hp} {r ln lc : Addr} : Kp H H r ln lc := fun _ _ h _ _ _ => h
theorem Kp.trans {H H1 H2 : Hp} {r ln lc : Addr} (a : Kp H H1 r ln lc) (b : Kp H1 H2 r ln lc) : Kp H H2 r ln lc := fun c o h n1 n2 n3 => b c o (a c o h n1 n2 n3) n1 n2 n3
theorem Kp.same {H H1 : Hp} {r ln lc : Addr} (a : Same H H1) : Kp H H1 r ln lc := fun c o h _ _ _ => a c o h
section
variable {C : Addr} {H H1 : Hp} {r ln lc : Addr} {m : Int} {s : RS}
theorem RdAt.same (R : RdAt C H r ln lc m s) (a : Same H H1) : RdAt C H1 r ln lc m s := by
  obtain ⟨⟨dx, h1⟩, h2, h3, h4⟩ := R
  exact ⟨⟨dx, a _ _ h1⟩, a _ _ h2, a _ _ h3, h4⟩
theorem RdAt.rn (R : RdAt C H r ln lc m s) : r ≠ ln := by
  obtain ⟨⟨dx, h1⟩, h2, _⟩ := R
  exact ne_of h1 h2 (by intro q; cases q)
theorem RdAt.rc (R : RdAt C H r ln lc m s) : r ≠ lc := by
  obtain ⟨⟨dx, h1⟩, _, h2, _⟩ := R
  exact ne_of h1 h2 (by intro q; cases q)
/-- an attribute is stored -/
theorem RdAt.setR (R : RdAt C H r ln lc m s) {dx : Addr} {m' : Int} {s' : RS} {fs : List (Str × V)} (e : fs = rf m' ln lc s') (hn : s'.nested = s.nested) (hc : s'.counts = s.counts) : RdAt C (upd H r (.ins C dx fs)) r ln lc m' s' := by
  subst e
  exact ⟨⟨dx, upd_same⟩, by rw [upd_ne R.rn.symm, hn]; exact R.nst, by rw [upd_ne R.rc.symm, hc]; exact R.cnt, R.ne⟩
theorem RdAt.setN (R : RdAt C H r ln lc m s) (xs : List Int) : RdAt C (upd H ln (.lst (xs.map V.int))) r ln lc m { s with nested := xs } := by
  obtain ⟨dx, h⟩ := R.ob
  exact ⟨⟨dx, by rw [upd_ne R.rn]; exact h⟩, upd_same, by rw [upd_ne R.ne.symm]; exact R.cnt, R.ne⟩
theorem RdAt.setC (R : RdAt C H r ln lc m s) (xs : List Int) : RdAt C (upd H lc (.lst (xs.map V.int))) r ln lc m { s with counts := xs } := by
  obtain ⟨dx, h⟩ := R.ob
  exact ⟨⟨dx, by rw [upd_ne R.rc]; exact h⟩, by rw [upd_ne R.ne]; exact R.nst, upd_same, R.ne⟩
theorem kp_r {o : HO} : Kp H (upd H r o) r ln lc := fun b o h n1 _ _ => by rw [upd_ne n1]; exact h
theorem kp_n {o : HO} : Kp H (upd H ln o) r ln lc := fun b o h _ n2 _ => by rw [upd_ne n2]; exact h
theorem kp_c {o : HO} : Kp H (upd H lc o) r ln lc := fun b o h _ _ n3 => by rw [upd_ne n3]; exact h
end
/-- what a caller needs not show but of the reader's own data -/
structure WF (s : RS) : Prop where
  cl : s.counts.length = 8
  nl : s.nested.length ≤ 1000
  nk : ∀ x ∈ s.nested, 0 ≤ x ∧ x < 8
  k0 : 0 ≤ s.kind
  k8 : s.kind < 8
  rl : s.rest.length ≤ 4
def Post (C : Addr) (H : Hp) (r ln lc : Addr) (m : Int) (p : RS × Int) (Q : VK) : Prop := ∀ H', RdAt C H' r ln lc m p.1 → Kp H H' r ln lc → Q (.int p.2) H'
theorem Post.kp {C : Addr} {H H1 : Hp} {r ln lc : Addr} {m : Int} {p : RS × Int} {Q : VK} (h : Post C H r ln lc m p Q) (a : Kp H H1 r ln lc) : Post C H1 r ln lc m p Q := fun H' R k => h H' R (a.trans k)
/-- a def of (reader, c) -/
def spRd (C : Addr) (pre : RS → Prop) (f : RS → Int → RS × Int) : Sp := fun vs H Q _ => ∃ (r ln lc : Addr) (m : Int) (s : RS) (c : Int), vs = [.ref r, .int c] ∧ RdAt C H r ln lc m s ∧ pre s ∧ Post C H r ln lc m (f s c) Q
def spEnd (C : Addr) : Sp := fun vs H Q _ => ∃ (r ln lc : Addr) (m : Int) (s : RS) (k : Int), vs = [.ref r, .int k] ∧ RdAt C H r ln lc m s ∧ s.counts.length = 8 ∧ 0 ≤ k ∧ k < 8 ∧ Post C H r ln lc m (endValue s k) Q
def spGo (C : Addr) : Sp := fun vs H Q _ => ∃ (r ln lc : Addr) (m : Int) (s : RS) (k i : Int), vs = [.ref r, .int k, .int i] ∧ RdAt C H r ln lc m s ∧ s.nested.length ≤ 1000 ∧ Post C H r ln lc m (goInto s k i) Q
def spClose (C : Addr) : Sp := fun vs H Q _ => ∃ (r ln lc : Addr) (m : Int) (s : RS), vs = [.ref r] ∧ RdAt C H r ln lc m s ∧ WF s ∧ s.nested ≠ [] ∧ Post C H r ln lc m (closeInner s) Q
def spStr (C : Addr) : Sp := fun vs H Q _ => ∃ (r ln lc : Addr) (m : Int) (s : RS) (b : Bool), vs = [.ref r, .bl b] ∧ RdAt C H r ln lc m s ∧ Post C H r ln lc m (beginString s b) Q
def spWord (C : Addr) : Sp := fun vs H Q _ => ∃ (r ln lc : Addr) (m : Int) (s : RS) (w : List Nat) (k : Int), vs = [.ref r, .str (txt w), .int k] ∧ RdAt C H r ln lc m s ∧ Post C H r ln lc m (beginWord s w k) Q
def spEndStr (C : Addr) : Sp := fun vs H Q _ => ∃ (r ln lc : Addr) (m : Int) (s : RS), vs = [.ref r] ∧ RdAt C H r ln lc m s ∧ WF s ∧ Post C H r ln lc m (endString s) Q
def spBool (f : Int → Bool) : Sp := fun vs H Q _ => ∃ c : Int, vs = [.int c] ∧ Q (.bl (f c)) H
def spInt (f : Int → Int) : Sp := fun vs H Q _ => ∃ c : Int, vs = [.int c] ∧ Q (.int (f c)) H
def spOne : Sp := fun vs H Q _ => ∃ (c : Int) (w : List Nat), vs = [.int c, .str (txt w)] ∧ w.length ≤ 100 ∧ ∀ H', Same H H' → Q (.bl (decide (c ∈ w.map num))) H'
structure Txt (K : PySem.W.Frag) (mg : Str → Option Value) (C aSp aSt fB : Addr) (fs : List Addr) : Prop where
  g_VALUE : ∃ t, mg "VALUE" = some (.int 0 t)
  g_FIRST : ∃ t, mg "FIRST" = some (.int 1 t)
  g_MEMBER : ∃ t, mg "MEMBER" = some (.int 2 t)
  g_KEY : ∃ t, mg "KEY" = some (.int 3 t)
  g_COLON : ∃ t, mg "COLON" = some (.int 4 t)
  g_AFTER : ∃ t, mg "AFTER" = some (.int 5 t)
  g_STRING : ∃ t, mg "STRING" = some (.int 6 t)
  g_ESCAPE : ∃ t, mg "ESCAPE" = some (.int 7 t)
  g_HEX : ∃ t, mg "HEX" = some (.int 8 t)
  g_MINUS : ∃ t, mg "MINUS" = some (.int 9 t)
  g_ZERO : ∃ t, mg "ZERO" = some (.int 10 t)
  g_WHOLE : ∃ t, mg "WHOLE" = some (.int 11 t)
  g_POINT : ∃ t, mg "POINT" = some (.int 12 t)
  g_FRACTION : ∃ t, mg "FRACTION" = some (.int 13 t)
  g_E : ∃ t, mg "E" = some (.int 14 t)
  g_SIGN : ∃ t, mg "SIGN" = some (.int 15 t)
  g_EXPONENT : ∃ t, mg "EXPONENT" = some (.int 16 t)
  g_WORD : ∃ t, mg "WORD" = some (.int 17 t)
  g_BAD : ∃ t, mg "BAD" = some (.int 18 t)
  g_KIND_NULL : ∃ t, mg "KIND_NULL" = some (.int 0 t)
  g_KIND_FALSE : ∃ t, mg "KIND_FALSE" = some (.int 1 t)
  g_KIND_TRUE : ∃ t, mg "KIND_TRUE" = some (.int 2 t)
  g_KIND_NUMBER : ∃ t, mg "KIND_NUMBER" = some (.int 3 t)
  g_KIND_STRING : ∃ t, mg "KIND_STRING" = some (.int 4 t)
  g_KIND_ARRAY : ∃ t, mg "KIND_ARRAY" = some (.int 5 t)
  g_KIND_OBJECT : ∃ t, mg "KIND_OBJECT" = some (.int 6 t)
  g_KIND_KEY : ∃ t, mg "KIND_KEY" = some (.int 7 t)
  g_KINDS : ∃ t, mg "KINDS" = some (.int 8 t)
  g_CALL_CLEAR : ∃ t, mg "CALL_CLEAR" = some (.int 1 t)
  g_CALL_TAKE : ∃ t, mg "CALL_TAKE" = some (.int 2 t)
  g_CALL_RUN : ∃ t, mg "CALL_RUN" = some (.int 3 t)
  g_CALL_OF : ∃ t, mg "CALL_OF" = some (.int 4 t)
  g_CALL_TABLE : ∃ t, mg "CALL_TABLE" = some (.int 5 t)
  g_CALL_ENDS : ∃ t, mg "CALL_ENDS" = some (.int 6 t)
  g_CALL_DEPTH : ∃ t, mg "CALL_DEPTH" = some (.int 7 t)
  g_CALL_SEEN : ∃ t, mg "CALL_SEEN" = some (.int 8 t)
  g_REFUSED : ∃ t, mg "REFUSED" = some (.int (-1) t)
  g_MOST_NESTED : ∃ t, mg "MOST_NESTED" = some (.int 1000 t)
  g_MOST_BYTES : ∃ t, mg "MOST_BYTES" = some (.int 65536 t)
  g_HIGHEST_BYTE : ∃ t, mg "HIGHEST_BYTE" = some (.int 255 t)
  g_HEX_DIGITS : ∃ t, mg "HEX_DIGITS" = some (.int 4 t)
  g_COUNTS_TOLD : ∃ t, mg "COUNTS_TOLD" = some (.int 4294967296 t)
  r_SPACES : mg "SPACES" = some (.ref aSp)
  r_STEPS : mg "STEPS" = some (.ref aSt)
  spaces : ∀ H, SqT K H aSp (JS.spaces.map V.int)
  steps : ∀ H, SqT K H aSt (fs.map V.ref)
  b_ord : mg "ord" = none
  b_len : mg "len" = none
  b_list : mg "list" = none
  b_range : mg "range" = none
  clC : Cls K C
  mC : mg "Reader" = some (.ref C)
  m_begin : Meth K C "begin" fB
  n_state : NoAttr K C "state"
  n_nested : NoAttr K C "nested"
  n_counts : NoAttr K C "counts"
  n_in_key : NoAttr K C "in_key"
  n_digits_left : NoAttr K C "digits_left"
  n_word_rest : NoAttr K C "word_rest"
  n_word_kind : NoAttr K C "word_kind"
section
variable {P : Program} {w : World} {K : PySem.W.Frag} {mg : Str → Option Value} {base : Heap} {C aSp aSt fB : Addr} {fs : List Addr}
theorem ok_is_digit {f : Addr} (D : Df K mg "is_digit" s_is_digit ["c"] f) (T : Txt K mg C aSp aSt fB fs) : Fn P w K mg base 1 "is_digit" ["c"] f (spBool isDigit) := by
  refine D.fn sc_is_digit (fun vs H Q E h => ?_) (fun cdv A outer s H vs Q E hr h => ?_)
  · obtain ⟨c, rfl, _⟩ := h; rfl
  · obtain ⟨c, rfl, k⟩ := h
    refine ⟨_, (pss_one (ps_ret (pe_chain op_le op_le (pe_ordc 48 T.b_ord (by decide +kernel) (by decide +kernel)) (pv 0) (pe_ordc 57 T.b_ord (by decide +kernel) (by decide +kernel))))), ?_⟩
    refine ⟨_, rfl, _, _, rfl, rfl, _, rfl, ?_⟩
    unfold isDigit at k
    by_cases e : (48 : Int) ≤ c
    · rw [if_pos (decide_eq_true e)]
      rw [decide_eq_true e, Bool.true_and] at k
      exact ⟨_, _, rfl, rfl, k⟩
    · rw [if_neg (by rw [decide_eq_false e]; exact Bool.false_ne_true)]
      rw [decide_eq_false e, Bool.false_and] at k
      exact k
theorem ok_is_hex_digit {f f1 : Addr} (D : Df K mg "is_hex_digit" s_is_hex_digit ["c"] f) (T : Txt K mg C aSp aSt fB fs) (g_is_digit : Fn P w K mg base 1 "is_digit" ["c"] f1 (spBool isDigit)) : Fn P w K mg base 2 "is_hex_digit" ["c"] f (spBool isHex) := by
  refine D.fn sc_is_hex_digit (fun vs H Q E h => ?_) (fun cdv A outer s H vs Q E hr h => ?_)
  · obtain ⟨c, rfl, _⟩ := h; rfl
  · obtain ⟨c, rfl, k⟩ := h
    refine ⟨_, (pss_one (ps_ret (pe_or (pe_callF g_is_digit (hr.mono (by decide)) (pa_cons (pv 0) pa_nil)) (pe_or (pe_chain op_le op_le (pe_ordc 97 T.b_ord (by decide +kernel) (by decide +kernel)) (pv 0) (pe_ordc 102 T.b_ord (by decide +kernel) (by decide +kernel))) (pe_one (pe_chain op_le op_le (pe_ordc 65 T.b_ord (by decide +kernel) (by decide +kernel)) (pv 0) (pe_ordc 70 T.b_ord (by decide +kernel) (by decide +kernel)))))))), ?_⟩
    refine ⟨_, rfl, c, rfl, _, rfl, ?_⟩
    unfold isHex at k
    cases e0 : isDigit c
    · rw [e0, Bool.false_or] at k
      refine iteF ⟨_, rfl, _, _, rfl, rfl, _, rfl, ?_⟩
      by_cases e1 : (97 : Int) ≤ c
      · rw [decide_eq_true e1, Bool.true_and] at k
        refine ite2 (fun _ => ⟨_, _, rfl, rfl, _, rfl, ?_⟩) (fun z => absurd (decide_eq_true e1) z)
        by_cases e2 : c ≤ (102 : Int)
        · rw [decide_eq_true e2, Bool.true_or] at k
          exact ite2 (fun _ => k) (fun z => absurd (decide_eq_true e2) z)
        · rw [decide_eq_false e2, Bool.false_or] at k
          refine ite2 (fun z => absurd (of_decide_eq_true z) e2) fun _ => ⟨_, rfl, _, _, rfl, rfl, _, rfl, ?_⟩
          by_cases e3 : (65 : Int) ≤ c
          · rw [decide_eq_true e3, Bool.true_and] at k
            exact ite2 (fun _ => ⟨_, _, rfl, rfl, k⟩) (fun z => absurd (decide_eq_true e3) z)
          · rw [decide_eq_false e3, Bool.false_and] at k
            exact ite2 (fun z => absurd (of_decide_eq_true z) e3) fun _ => k
      · rw [decide_eq_false e1, Bool.false_and, Bool.false_or] at k
        refine ite2 (fun z => absurd (of_decide_eq_true z) e1) fun _ => ⟨_, rfl, iteF ⟨_, rfl, _, _, rfl, rfl, _, rfl, ?_⟩⟩
        by_cases e3 : (65 : Int) ≤ c
        · rw [decide_eq_true e3, Bool.true_and] at k
          exact ite2 (fun _ => ⟨_, _, rfl, rfl, k⟩) (fun z => absurd (decide_eq_true e3) z)
        · rw [decide_eq_false e3, Bool.false_and] at k
          exact ite2 (fun z => absurd (of_decide_eq_true z) e3) fun _ => k
    · rw [e0, Bool.true_or] at k
      exact iteT k
theorem ok_begin_digits {f f1 : Addr} (D : Df K mg "begin_digits" s_begin_digits ["c"] f) (T : Txt K mg C aSp aSt fB fs) (g_is_digit : Fn P w K mg base 1 "is_digit" ["c"] f1 (spBool isDigit)) : Fn P w K mg base 2 "begin_digits" ["c"] f (spInt beginDigits) := by
  refine D.fn sc_begin_digits (fun vs H Q E h => ?_) (fun cdv A outer s H vs Q E hr h => ?_)
  · obtain ⟨c, rfl, _⟩ := h; rfl
  · obtain ⟨c, rfl, k⟩ := h
    refine ⟨_, (pss_cons (ps_if (pt_cmpR op_eq (pv 0) (pe_ordc 48 T.b_ord (by decide +kernel) (by decide +kernel)) (nomark _)) (pss_one (ps_ret (pe_gi T.g_ZERO))) pss_nil)
      (pss_cons (ps_if (pt_val (pe_callF g_is_digit (hr.mono (by decide)) (pa_cons (pv 0) pa_nil))) (pss_one (ps_ret (pe_gi T.g_WHOLE))) pss_nil)
      (pss_one (ps_ret (pe_gi T.g_BAD))))), ?_⟩
    unfold beginDigits at k
    refine rd_eq rfl (fun e => ?_) (fun e => ?_)
    · rw [if_pos e] at k; exact k
    rw [if_neg e] at k
    refine ⟨_, rfl, c, rfl, _, rfl, ite2 (fun e => ?_) (fun e => ?_)⟩
    · rw [if_pos e] at k; exact k
    · rw [if_neg e] at k; exact k
theorem ok_is_one_of {f : Addr} (D : Df K mg "is_one_of" s_is_one_of ["c", "signs"] f) (T : Txt K mg C aSp aSt fB fs) : Fn P w K mg base 1 "is_one_of" ["c", "signs"] f spOne := by
  refine D.fn sc_is_one_of (fun vs H Q E h => ?_) (fun cdv A outer s H vs Q E hr h => ?_)
  · obtain ⟨c, z, rfl, _⟩ := h; rfl
  · obtain ⟨c, z, rfl, hz, k⟩ := h
    refine ⟨_, (pss_one (ps_ret (pe_cmpR op_in_seq (pv 0) (pe_lc (own := [("sign", 2)]) rfl sc_is_one_of.nd (pi_str (pv 1)) (blkOk_by (by show blkC ["c", "signs", "sign"] (defScope s_is_one_of) _ _ = true; decide +kernel)) (fun _ _ _ _ _ => pg_name (i := 2) sc_is_one_of.nd rfl (Or.inl rfl)) (fun _ _ _ _ _ => pts_nil) (fun _ _ _ _ _ => (pe_callB call_ord rfl T.b_ord PyProof.Rows.boot_ord (pa_cons (pv 2) pa_nil)))) (by with_unfolding_all rfl)))), ?_⟩
    refine ⟨_, rfl, _, rfl, txt z, rfl, fun Dl hD => ?_⟩
    refine lc_str (x := txt z) (fun i H' => H' = upd H Dl (.lst (((z.take i).map num).map V.int))) rfl (fun i n H' hi e => ?_) (fun H' e => ?_)
    · subst e
      have hi' : z[i]? = some n := by simpa [txt] using hi
      have hlt : i < z.length := (List.getElem?_eq_some_iff.mp hi').1
      refine ⟨rfl, ?_⟩
      unfold tYes
      dsimp only
      rw [if_pos rfl]
      refine ⟨_, rfl, _, rfl, rfl, _, upd_same, ?_, ?_⟩
      · have : ((z.take i).map num).length ≤ 100 := by simp; omega
        rw [List.length_map]
        exact Nat.lt_of_le_of_lt this (by decide)
      · rw [upd_upd]
        congr 2
        rw [List.take_add_one, hi']
        simp [num]
    · subst e
      have ez : z.take (txt z).cps.size = z := by simp [txt]
      refine ⟨Dl, _, rfl, .inl (SqL.of upd_same), rfl, flat_ints _, ?_⟩
      rw [if_neg (by decide), inV_ints, ez]
      exact k _ fun b o hb => by rw [upd_ne (ne_of_none hb hD)]; exact hb
theorem at_count {s : RS} {k : Int} (hl : s.counts.length = 8) (h0 : 0 ≤ k) (h8 : k < 8) : atI (s.counts.map V.int) k = some (V.int (s.counts.getD k.toNat 0)) ∧ ixN (s.counts.map V.int).length k = some k.toNat := by
  have hk : k.toNat < s.counts.length := by omega
  refine ⟨at_of (j := k.toNat) (by omega) ?_, ?_⟩
  · rw [List.getElem?_map, List.getD_eq_getElem?_getD, List.getElem?_eq_getElem hk]
    rfl
  · unfold ixN
    rw [if_pos h0, if_pos (by rw [List.length_map]; omega)]
theorem ok_end_value {f : Addr} (D : Df K mg "end_value" s_end_value ["reader", "kind"] f) (T : Txt K mg C aSp aSt fB fs) : Fn P w K mg base 1 "end_value" ["reader", "kind"] f (spEnd C) := by
  refine D.fn sc_end_value (fun vs H Q E h => ?_) (fun cdv A outer sh H vs Q E hr h => ?_)
  · obtain ⟨r, ln, lc, m, s, c, rfl, _⟩ := h; rfl
  · obtain ⟨r, ln, lc, m, s, c, rfl, R, hl, h0, h8, k⟩ := h
    obtain ⟨dx, hO⟩ := R.ob
    obtain ⟨ha, hi⟩ := at_count hl h0 h8
    refine ⟨_, (pss_cons (ps_augS (pe_fld (pv 0) rfl) (pv 1) get_list pe_int ip_add set_list)
      (pss_one (ps_ret (pe_gi T.g_AFTER)))), ?_⟩
    refine ⟨_, rfl, r, C, dx, _, _, rfl, hO, T.clC, T.n_counts, lk_counts, _, rfl, lc, _, _, _, rfl, rfl, SqL.of R.cnt, ha, _, _, rfl, rfl, lc, _, _, _, rfl, rfl, R.cnt, hi, ?_⟩
    have e := R.setC (s.counts.set c.toNat (s.counts.getD c.toNat 0 + 1))
    rw [List.map_set] at e
    exact k _ e kp_c
theorem ok_go_into {f : Addr} (D : Df K mg "go_into" s_go_into ["reader", "kind", "inside"] f) (T : Txt K mg C aSp aSt fB fs) : Fn P w K mg base 1 "go_into" ["reader", "kind", "inside"] f (spGo C) := by
  refine D.fn sc_go_into (fun vs H Q E h => ?_) (fun cdv A outer sh H vs Q E hr h => ?_)
  · obtain ⟨r, ln, lc, m, s, c, i, rfl, _⟩ := h; rfl
  · obtain ⟨r, ln, lc, m, s, c, i, rfl, R, hl, k⟩ := h
    obtain ⟨dx, hO⟩ := R.ob
    refine ⟨_, (pss_cons (ps_if (pt_cmpR op_eq (pe_callB call_len_seq rfl T.b_len PySem.boot_len (pa_cons (pe_fld (pv 0) rfl) pa_nil)) (pe_gi T.g_MOST_NESTED) (nomark _)) (pss_one (ps_ret (pe_gi T.g_BAD))) pss_nil)
      (pss_cons (ps_expr (pe_bm PySem.F.plainAttrs_list PySem.F.slot_list_append PySem.F.type_list_append mt_append (pe_fld (pv 0) rfl) (pa_cons (pv 1) pa_nil)))
      (pss_one (ps_ret (pv 2))))), ?_⟩
    refine ⟨_, rfl, r, C, dx, _, _, rfl, hO, T.clC, T.n_nested, lk_nested, ln, _, rfl, .inl (SqL.of R.nst), rfl, _, rfl, if_eq (H := H) (fun e => ?_) (fun e => ?_)⟩
    · rw [List.length_map] at e
      unfold goInto at k
      rw [if_pos (by omega)] at k
      exact k _ R Kp.refl
    · rw [List.length_map] at e
      unfold goInto at k
      rw [if_neg (by omega)] at k
      refine ⟨_, rfl, r, C, dx, _, _, rfl, hO, T.clC, T.n_nested, lk_nested, .inl ⟨rfl, _, SqL.of R.nst⟩, _, rfl, ln, _, _, rfl, rfl, R.nst, ?_, ?_⟩
      · rw [List.length_map]
        exact small1000 hl
      · have e := R.setN (s.nested ++ [c])
        rw [List.map_append] at e
        exact ⟨_, rfl, k _ e kp_n⟩
theorem ok_close_innermost {f f1 : Addr} (D : Df K mg "close_innermost" s_close_innermost ["reader"] f) (T : Txt K mg C aSp aSt fB fs) (g_end_value : Fn P w K mg base 1 "end_value" ["reader", "kind"] f1 (spEnd C)) :
    Fn P w K mg base 2 "close_innermost" ["reader"] f (spClose C) := by
  refine D.fn sc_close_innermost (fun vs H Q E h => ?_) (fun cdv A outer sh H vs Q E hr h => ?_)
  · obtain ⟨r, ln, lc, m, s, rfl, _⟩ := h; rfl
  · obtain ⟨r, ln, lc, m, s, rfl, R, wf, hne, k⟩ := h
    obtain ⟨dx, hO⟩ := R.ob
    have hl1 : s.nested.getLast? = some (s.nested.getLast hne) := List.getLast?_eq_some_getLast hne
    have hl2 : s.nested.getLastD 0 = s.nested.getLast hne := by rw [List.getLastD_eq_getLast?, hl1]; rfl
    have hlast : (s.nested.map V.int)[(s.nested.map V.int).length - 1]? = some (V.int (s.nested.getLastD 0)) := by
      rw [List.length_map, List.getElem?_map, ← List.getLast?_eq_getElem?, hl1, hl2]
      rfl
    have hmem : s.nested.getLastD 0 ∈ s.nested := by rw [hl2]; exact List.getLast_mem hne
    refine ⟨_, (pss_one (ps_ret (pe_callF g_end_value (hr.mono (by decide)) (pa_cons (pv 0) (pa_cons (pe_bm0 PySem.F.plainAttrs_list PySem.F.slot_list_pop PySem.F.type_list_pop mt_pop (pe_fld (pv 0) rfl)) pa_nil))))), ?_⟩
    have e := R.setN s.nested.dropLast
    rw [List.map_dropLast] at e
    exact ⟨_, rfl, _, rfl, r, C, dx, _, _, rfl, hO, T.clC, T.n_nested, lk_nested, .inl ⟨rfl, _, SqL.of R.nst⟩, ln, _, _, rfl, rfl, R.nst, hlast, r, ln, lc, m, _, _, rfl, e, wf.cl, (wf.nk _ hmem).1, (wf.nk _ hmem).2, Post.kp k kp_n⟩
theorem ok_begin_string {f : Addr} (D : Df K mg "begin_string" s_begin_string ["reader", "in_key"] f) (T : Txt K mg C aSp aSt fB fs) : Fn P w K mg base 1 "begin_string" ["reader", "in_key"] f (spStr C) := by
  refine D.fn sc_begin_string (fun vs H Q E h => ?_) (fun cdv A outer sh H vs Q E hr h => ?_)
  · obtain ⟨r, ln, lc, m, s, b, rfl, _⟩ := h; rfl
  · obtain ⟨r, ln, lc, m, s, b, rfl, R, k⟩ := h
    obtain ⟨dx, hO⟩ := R.ob
    refine ⟨_, (pss_cons (ps_fld (pv 0) (pv 1) rfl)
      (pss_one (ps_ret (pe_gi T.g_STRING)))), ?_⟩
    exact ⟨_, rfl, _, rfl, r, C, dx, _, rfl, hO, T.clC, T.n_in_key, fl_len, k _ (R.setR (s' := { s with key := b }) pf_in_key rfl rfl) kp_r⟩
theorem ok_begin_word {f : Addr} (D : Df K mg "begin_word" s_begin_word ["reader", "rest", "kind"] f) (T : Txt K mg C aSp aSt fB fs) : Fn P w K mg base 1 "begin_word" ["reader", "rest", "kind"] f (spWord C) := by
  refine D.fn sc_begin_word (fun vs H Q E h => ?_) (fun cdv A outer sh H vs Q E hr h => ?_)
  · obtain ⟨r, ln, lc, m, s, z, c, rfl, _⟩ := h; rfl
  · obtain ⟨r, ln, lc, m, s, z, c, rfl, R, k⟩ := h
    obtain ⟨dx, hO⟩ := R.ob
    refine ⟨_, (pss_cons (ps_fld (pv 0) (pv 1) rfl)
      (pss_cons (ps_fld (pv 0) (pv 2) rfl)
      (pss_one (ps_ret (pe_gi T.g_WORD))))), ?_⟩
    have hf : putF ("word_rest" : Str) (V.str (txt z)) (rf m ln lc s) = rf m ln lc { s with rest := z } := pf_word_rest
    have hf2 : putF ("word_kind" : Str) (V.int c) (putF ("word_rest" : Str) (V.str (txt z)) (rf m ln lc s)) = rf m ln lc { s with rest := z, kind := c } := by rw [hf]; exact pf_word_kind
    have R1 := R.setR (dx := dx) hf rfl rfl
    exact ⟨_, rfl, _, rfl, r, C, dx, _, rfl, hO, T.clC, T.n_word_rest, fl_len, _, rfl, _, rfl, r, C, dx, _, rfl, upd_same, T.clC, T.n_word_kind, (by rw [hf]; exact fl_len),
      k _ (R1.setR (s' := { s with rest := z, kind := c }) hf2 rfl rfl) (kp_r.trans kp_r)⟩
end
end JS
set_option maxHeartbeats 4000000
namespace JS
open PySem L2
theorem wf_end {s : RS} (h : WF s) (k : Int) : WF (endValue s k).1 := ⟨by show (s.counts.set _ _).length = 8; rw [List.length_set]; exact h.cl, h.nl, h.nk, h.k0, h.k8, h.rl⟩
def PN (s : RS) : Prop := WF s ∧ s.nested ≠ []
def PR (s : RS) : Prop := WF s ∧ s.rest ≠ []
theorem t_rue : ("rue" : Str) = txt [114, 117, 101] := by decide +kernel
theorem t_alse : ("alse" : Str) = txt [97, 108, 115, 101] := by decide +kernel
theorem t_ull : ("ull" : Str) = txt [117, 108, 108] := by decide +kernel
theorem t_esc : ("\"\\/bfnrt" : Str) = txt [34, 92, 47, 98, 102, 110, 114, 116] := by decide +kernel
theorem t_marks : ("eE" : Str) = txt [101, 69] := by decide +kernel
theorem t_signs : ("+-" : Str) = txt [43, 45] := by decide +kernel
theorem t_none : ("" : Str) = txt [] := by decide +kernel
theorem txt_inj {a b : List Nat} (h : txt a = txt b) : a = b := by
  unfold txt at h
  injection h with h
  have := congrArg Array.toList h
  simpa using this
theorem cut_tail (r : List Nat) : cutS (txt r) (some 1) none = txt r.tail := by
  unfold cutS txt
  have e : HT.sIx (⟨r.toArray⟩ : Str).length 0 (some ((1 : Nat) : Int)) = min 1 (⟨r.toArray⟩ : Str).length := HT.sIx_nat _ _ 1
  have e' : HT.sIx (⟨r.toArray⟩ : Str).length 0 (some 1) = min 1 (⟨r.toArray⟩ : Str).length := e
  rw [e', HT.sIx_none]
  congr 1
  have hl : (⟨r.toArray⟩ : Str).length = r.length := by simp [Str.length]
  rw [hl]
  cases r with
  | nil => rfl
  | cons a t => simp
theorem txt_len {r : List Nat} (h : r.length ≤ 4) : (txt r).length ≤ sizeLine := by
  have hl : (txt r).length = r.length := by simp [txt, Str.length]
  rw [hl]
  exact Nat.le_trans h (by decide)
theorem last_at {xs : List Int} (h : xs ≠ []) : atI (xs.map V.int) (-1) = some (V.int (xs.getLastD 0)) := by
  have e : xs = xs.dropLast ++ [xs.getLastD 0] := by
    cases xs with
    | nil => exact absurd rfl h
    | cons a t => simp only [List.getLastD]; exact (List.dropLast_concat_getLast _).symm
  have e2 : xs.map V.int = xs.dropLast.map V.int ++ [V.int (xs.getLastD 0)] := by
    conv => lhs; rw [e]
    rw [List.map_append]
    rfl
  rw [e2]
  exact atI_last _ _
section
variable {P : Program} {w : World} {K : PySem.W.Frag} {mg : Str → Option Value} {base : Heap} {C aSp aSt fB : Addr} {fs : List Addr}
theorem ok_take_value {f f1 f2 f3 f4 : Addr} (D : Df K mg "take_value" s_take_value ["reader", "c"] f) (T : Txt K mg C aSp aSt fB fs) (g_go_into : Fn P w K mg base 1 "go_into" ["reader", "kind", "inside"] f1 (spGo C))
    (g_begin_string : Fn P w K mg base 1 "begin_string" ["reader", "in_key"] f2 (spStr C)) (g_begin_word : Fn P w K mg base 1 "begin_word" ["reader", "rest", "kind"] f3 (spWord C)) (g_begin_digits : Fn P w K mg base 2 "begin_digits" ["c"] f4 (spInt beginDigits)) :
    Fn P w K mg base 3 "take_value" ["reader", "c"] f (spRd C WF takeValue) := by
  refine D.fn sc_take_value (fun vs H Q E h => ?_) (fun cdv A outer sh H vs Q E hr h => ?_)
  · obtain ⟨r, ln, lc, m, s, c, rfl, _⟩ := h; rfl
  · obtain ⟨r, ln, lc, m, s, c, rfl, R, wf, k⟩ := h
    refine ⟨_, (pss_cons (ps_if (pt_cmpR op_in_seq (pv 1) (pe_gr T.r_SPACES) (by with_unfolding_all rfl)) (pss_one (ps_ret (pe_gi T.g_VALUE))) pss_nil)
      (pss_cons (ps_if (pt_cmpR op_eq (pv 1) (pe_ordc 123 T.b_ord (by decide +kernel) (by decide +kernel)) (nomark _)) (pss_one (ps_ret (pe_callF g_go_into (hr.mono (by decide)) (pa_cons (pv 0) (pa_cons (pe_gi T.g_KIND_OBJECT) (pa_cons (pe_gi T.g_MEMBER) pa_nil)))))) pss_nil)
      (pss_cons (ps_if (pt_cmpR op_eq (pv 1) (pe_ordc 91 T.b_ord (by decide +kernel) (by decide +kernel)) (nomark _)) (pss_one (ps_ret (pe_callF g_go_into (hr.mono (by decide)) (pa_cons (pv 0) (pa_cons (pe_gi T.g_KIND_ARRAY) (pa_cons (pe_gi T.g_FIRST) pa_nil)))))) pss_nil)
      (pss_cons (ps_if (pt_cmpR op_eq (pv 1) (pe_ordc 34 T.b_ord (by decide +kernel) (by decide +kernel)) (nomark _)) (pss_one (ps_ret (pe_callF g_begin_string (hr.mono (by decide)) (pa_cons (pv 0) (pa_cons pe_bl pa_nil))))) pss_nil)
      (pss_cons (ps_if (pt_cmpR op_eq (pv 1) (pe_ordc 116 T.b_ord (by decide +kernel) (by decide +kernel)) (nomark _)) (pss_one (ps_ret (pe_callF g_begin_word (hr.mono (by decide)) (pa_cons (pv 0) (pa_cons pe_str (pa_cons (pe_gi T.g_KIND_TRUE) pa_nil)))))) pss_nil)
      (pss_cons (ps_if (pt_cmpR op_eq (pv 1) (pe_ordc 102 T.b_ord (by decide +kernel) (by decide +kernel)) (nomark _)) (pss_one (ps_ret (pe_callF g_begin_word (hr.mono (by decide)) (pa_cons (pv 0) (pa_cons pe_str (pa_cons (pe_gi T.g_KIND_FALSE) pa_nil)))))) pss_nil)
      (pss_cons (ps_if (pt_cmpR op_eq (pv 1) (pe_ordc 110 T.b_ord (by decide +kernel) (by decide +kernel)) (nomark _)) (pss_one (ps_ret (pe_callF g_begin_word (hr.mono (by decide)) (pa_cons (pv 0) (pa_cons pe_str (pa_cons (pe_gi T.g_KIND_NULL) pa_nil)))))) pss_nil)
      (pss_cons (ps_if (pt_cmpR op_eq (pv 1) (pe_ordc 45 T.b_ord (by decide +kernel) (by decide +kernel)) (nomark _)) (pss_one (ps_ret (pe_gi T.g_MINUS))) pss_nil)
      (pss_one (ps_ret (pe_callF g_begin_digits (hr.mono (by decide)) (pa_cons (pv 1) pa_nil)))))))))))), ?_⟩
    unfold takeValue at k
    refine rd_in (T.spaces H) rfl (fun e => ?_) (fun e => ?_)
    · rw [if_pos e] at k; exact k _ R Kp.refl
    rw [if_neg e] at k
    refine rd_eq rfl (fun e => ?_) (fun e => ?_)
    · rw [if_pos e] at k; exact ⟨_, rfl, r, ln, lc, m, s, 6, 2, rfl, R, wf.nl, k⟩
    rw [if_neg e] at k
    refine rd_eq rfl (fun e => ?_) (fun e => ?_)
    · rw [if_pos e] at k; exact ⟨_, rfl, r, ln, lc, m, s, 5, 1, rfl, R, wf.nl, k⟩
    rw [if_neg e] at k
    refine rd_eq rfl (fun e => ?_) (fun e => ?_)
    · rw [if_pos e] at k; exact ⟨_, rfl, r, ln, lc, m, s, false, rfl, R, k⟩
    rw [if_neg e] at k
    refine rd_eq rfl (fun e => ?_) (fun e => ?_)
    · rw [if_pos e] at k; exact ⟨_, rfl, r, ln, lc, m, s, _, 2, congrArg (fun z => [V.ref r, V.str z, V.int 2]) t_rue, R, k⟩
    rw [if_neg e] at k
    refine rd_eq rfl (fun e => ?_) (fun e => ?_)
    · rw [if_pos e] at k; exact ⟨_, rfl, r, ln, lc, m, s, _, 1, congrArg (fun z => [V.ref r, V.str z, V.int 1]) t_alse, R, k⟩
    rw [if_neg e] at k
    refine rd_eq rfl (fun e => ?_) (fun e => ?_)
    · rw [if_pos e] at k; exact ⟨_, rfl, r, ln, lc, m, s, _, 0, congrArg (fun z => [V.ref r, V.str z, V.int 0]) t_ull, R, k⟩
    rw [if_neg e] at k
    refine rd_eq rfl (fun e => ?_) (fun e => ?_)
    · rw [if_pos e] at k; exact k _ R Kp.refl
    rw [if_neg e] at k
    exact ⟨_, rfl, c, rfl, k _ R Kp.refl⟩
theorem ok_take_first {f f1 f2 : Addr} (D : Df K mg "take_first" s_take_first ["reader", "c"] f) (T : Txt K mg C aSp aSt fB fs) (g_close_innermost : Fn P w K mg base 2 "close_innermost" ["reader"] f1 (spClose C)) (g_take_value : Fn P w K mg base 3 "take_value" ["reader", "c"] f2 (spRd C WF takeValue)) :
    Fn P w K mg base 4 "take_first" ["reader", "c"] f (spRd C PN takeFirst) := by
  refine D.fn sc_take_first (fun vs H Q E h => ?_) (fun cdv A outer sh H vs Q E hr h => ?_)
  · obtain ⟨r, ln, lc, m, s, c, rfl, _⟩ := h; rfl
  · obtain ⟨r, ln, lc, m, s, c, rfl, R, wf, k⟩ := h
    refine ⟨_, (pss_cons (ps_if (pt_cmpR op_in_seq (pv 1) (pe_gr T.r_SPACES) (by with_unfolding_all rfl)) (pss_one (ps_ret (pe_gi T.g_FIRST))) pss_nil)
      (pss_cons (ps_if (pt_cmpR op_eq (pv 1) (pe_ordc 93 T.b_ord (by decide +kernel) (by decide +kernel)) (nomark _)) (pss_one (ps_ret (pe_callF g_close_innermost (hr.mono (by decide)) (pa_cons (pv 0) pa_nil)))) pss_nil)
      (pss_one (ps_ret (pe_callF g_take_value (hr.mono (by decide)) (pa_cons (pv 0) (pa_cons (pv 1) pa_nil))))))), ?_⟩
    unfold takeFirst at k
    refine rd_in (T.spaces H) rfl (fun e => ?_) (fun e => ?_)
    · rw [if_pos e] at k; exact k _ R Kp.refl
    rw [if_neg e] at k
    refine rd_eq rfl (fun e => ?_) (fun e => ?_)
    · rw [if_pos e] at k; exact ⟨_, rfl, r, ln, lc, m, s, rfl, R, wf.1, wf.2, k⟩
    rw [if_neg e] at k
    exact ⟨_, rfl, _, rfl, r, ln, lc, m, s, c, rfl, R, wf.1, k⟩
theorem ok_take_key {f f1 : Addr} (D : Df K mg "take_key" s_take_key ["reader", "c"] f) (T : Txt K mg C aSp aSt fB fs) (g_begin_string : Fn P w K mg base 1 "begin_string" ["reader", "in_key"] f1 (spStr C)) :
    Fn P w K mg base 2 "take_key" ["reader", "c"] f (spRd C WF takeKey) := by
  refine D.fn sc_take_key (fun vs H Q E h => ?_) (fun cdv A outer sh H vs Q E hr h => ?_)
  · obtain ⟨r, ln, lc, m, s, c, rfl, _⟩ := h; rfl
  · obtain ⟨r, ln, lc, m, s, c, rfl, R, wf, k⟩ := h
    refine ⟨_, (pss_cons (ps_if (pt_cmpR op_in_seq (pv 1) (pe_gr T.r_SPACES) (by with_unfolding_all rfl)) (pss_one (ps_ret (pe_gi T.g_KEY))) pss_nil)
      (pss_cons (ps_if (pt_cmpR op_eq (pv 1) (pe_ordc 34 T.b_ord (by decide +kernel) (by decide +kernel)) (nomark _)) (pss_one (ps_ret (pe_callF g_begin_string (hr.mono (by decide)) (pa_cons (pv 0) (pa_cons pe_bl pa_nil))))) pss_nil)
      (pss_one (ps_ret (pe_gi T.g_BAD))))), ?_⟩
    unfold takeKey at k
    refine rd_in (T.spaces H) rfl (fun e => ?_) (fun e => ?_)
    · rw [if_pos e] at k; exact k _ R Kp.refl
    rw [if_neg e] at k
    refine rd_eq rfl (fun e => ?_) (fun e => ?_)
    · rw [if_pos e] at k; exact ⟨_, rfl, r, ln, lc, m, s, true, rfl, R, k⟩
    rw [if_neg e] at k; exact k _ R Kp.refl
theorem ok_take_member {f f1 f2 : Addr} (D : Df K mg "take_member" s_take_member ["reader", "c"] f) (T : Txt K mg C aSp aSt fB fs) (g_close_innermost : Fn P w K mg base 2 "close_innermost" ["reader"] f1 (spClose C)) (g_take_key : Fn P w K mg base 2 "take_key" ["reader", "c"] f2 (spRd C WF takeKey)) :
    Fn P w K mg base 3 "take_member" ["reader", "c"] f (spRd C PN takeMember) := by
  refine D.fn sc_take_member (fun vs H Q E h => ?_) (fun cdv A outer sh H vs Q E hr h => ?_)
  · obtain ⟨r, ln, lc, m, s, c, rfl, _⟩ := h; rfl
  · obtain ⟨r, ln, lc, m, s, c, rfl, R, wf, k⟩ := h
    refine ⟨_, (pss_cons (ps_if (pt_cmpR op_in_seq (pv 1) (pe_gr T.r_SPACES) (by with_unfolding_all rfl)) (pss_one (ps_ret (pe_gi T.g_MEMBER))) pss_nil)
      (pss_cons (ps_if (pt_cmpR op_eq (pv 1) (pe_ordc 125 T.b_ord (by decide +kernel) (by decide +kernel)) (nomark _)) (pss_one (ps_ret (pe_callF g_close_innermost (hr.mono (by decide)) (pa_cons (pv 0) pa_nil)))) pss_nil)
      (pss_one (ps_ret (pe_callF g_take_key (hr.mono (by decide)) (pa_cons (pv 0) (pa_cons (pv 1) pa_nil))))))), ?_⟩
    unfold takeMember at k
    refine rd_in (T.spaces H) rfl (fun e => ?_) (fun e => ?_)
    · rw [if_pos e] at k; exact k _ R Kp.refl
    rw [if_neg e] at k
    refine rd_eq rfl (fun e => ?_) (fun e => ?_)
    · rw [if_pos e] at k; exact ⟨_, rfl, r, ln, lc, m, s, rfl, R, wf.1, wf.2, k⟩
    rw [if_neg e] at k
    exact ⟨_, rfl, _, rfl, r, ln, lc, m, s, c, rfl, R, wf.1, k⟩
theorem ok_take_colon {f : Addr} (D : Df K mg "take_colon" s_take_colon ["reader", "c"] f) (T : Txt K mg C aSp aSt fB fs) : Fn P w K mg base 1 "take_colon" ["reader", "c"] f (spRd C WF takeColon) := by
  refine D.fn sc_take_colon (fun vs H Q E h => ?_) (fun cdv A outer sh H vs Q E hr h => ?_)
  · obtain ⟨r, ln, lc, m, s, c, rfl, _⟩ := h; rfl
  · obtain ⟨r, ln, lc, m, s, c, rfl, R, wf, k⟩ := h
    refine ⟨_, (pss_cons (ps_if (pt_cmpR op_in_seq (pv 1) (pe_gr T.r_SPACES) (by with_unfolding_all rfl)) (pss_one (ps_ret (pe_gi T.g_COLON))) pss_nil)
      (pss_cons (ps_if (pt_cmpR op_eq (pv 1) (pe_ordc 58 T.b_ord (by decide +kernel) (by decide +kernel)) (nomark _)) (pss_one (ps_ret (pe_gi T.g_VALUE))) pss_nil)
      (pss_one (ps_ret (pe_gi T.g_BAD))))), ?_⟩
    unfold takeColon at k
    refine rd_in (T.spaces H) rfl (fun e => ?_) (fun e => ?_)
    · rw [if_pos e] at k; exact k _ R Kp.refl
    rw [if_neg e] at k
    refine rd_eq rfl (fun e => ?_) (fun e => ?_)
    · rw [if_pos e] at k; exact k _ R Kp.refl
    rw [if_neg e] at k; exact k _ R Kp.refl
theorem ok_take_after_item {f f1 : Addr} (D : Df K mg "take_after_item" s_take_after_item ["reader", "c"] f) (T : Txt K mg C aSp aSt fB fs) (g_close_innermost : Fn P w K mg base 2 "close_innermost" ["reader"] f1 (spClose C)) :
    Fn P w K mg base 3 "take_after_item" ["reader", "c"] f (spRd C PN takeAfterItem) := by
  refine D.fn sc_take_after_item (fun vs H Q E h => ?_) (fun cdv A outer sh H vs Q E hr h => ?_)
  · obtain ⟨r, ln, lc, m, s, c, rfl, _⟩ := h; rfl
  · obtain ⟨r, ln, lc, m, s, c, rfl, R, wf, k⟩ := h
    refine ⟨_, (pss_cons (ps_if (pt_cmpR op_eq (pv 1) (pe_ordc 44 T.b_ord (by decide +kernel) (by decide +kernel)) (nomark _)) (pss_one (ps_ret (pe_gi T.g_VALUE))) pss_nil)
      (pss_cons (ps_if (pt_cmpR op_eq (pv 1) (pe_ordc 93 T.b_ord (by decide +kernel) (by decide +kernel)) (nomark _)) (pss_one (ps_ret (pe_callF g_close_innermost (hr.mono (by decide)) (pa_cons (pv 0) pa_nil)))) pss_nil)
      (pss_one (ps_ret (pe_gi T.g_BAD))))), ?_⟩
    unfold takeAfterItem at k
    refine rd_eq rfl (fun e => ?_) (fun e => ?_)
    · rw [if_pos e] at k; exact k _ R Kp.refl
    rw [if_neg e] at k
    refine rd_eq rfl (fun e => ?_) (fun e => ?_)
    · rw [if_pos e] at k; exact ⟨_, rfl, r, ln, lc, m, s, rfl, R, wf.1, wf.2, k⟩
    rw [if_neg e] at k; exact k _ R Kp.refl
theorem ok_take_after_member {f f1 : Addr} (D : Df K mg "take_after_member" s_take_after_member ["reader", "c"] f) (T : Txt K mg C aSp aSt fB fs) (g_close_innermost : Fn P w K mg base 2 "close_innermost" ["reader"] f1 (spClose C)) :
    Fn P w K mg base 3 "take_after_member" ["reader", "c"] f (spRd C PN takeAfterMember) := by
  refine D.fn sc_take_after_member (fun vs H Q E h => ?_) (fun cdv A outer sh H vs Q E hr h => ?_)
  · obtain ⟨r, ln, lc, m, s, c, rfl, _⟩ := h; rfl
  · obtain ⟨r, ln, lc, m, s, c, rfl, R, wf, k⟩ := h
    refine ⟨_, (pss_cons (ps_if (pt_cmpR op_eq (pv 1) (pe_ordc 44 T.b_ord (by decide +kernel) (by decide +kernel)) (nomark _)) (pss_one (ps_ret (pe_gi T.g_KEY))) pss_nil)
      (pss_cons (ps_if (pt_cmpR op_eq (pv 1) (pe_ordc 125 T.b_ord (by decide +kernel) (by decide +kernel)) (nomark _)) (pss_one (ps_ret (pe_callF g_close_innermost (hr.mono (by decide)) (pa_cons (pv 0) pa_nil)))) pss_nil)
      (pss_one (ps_ret (pe_gi T.g_BAD))))), ?_⟩
    unfold takeAfterMember at k
    refine rd_eq rfl (fun e => ?_) (fun e => ?_)
    · rw [if_pos e] at k; exact k _ R Kp.refl
    rw [if_neg e] at k
    refine rd_eq rfl (fun e => ?_) (fun e => ?_)
    · rw [if_pos e] at k; exact ⟨_, rfl, r, ln, lc, m, s, rfl, R, wf.1, wf.2, k⟩
    rw [if_neg e] at k; exact k _ R Kp.refl
theorem ok_take_after {f f1 f2 : Addr} (D : Df K mg "take_after" s_take_after ["reader", "c"] f) (T : Txt K mg C aSp aSt fB fs) (g_take_after_item : Fn P w K mg base 3 "take_after_item" ["reader", "c"] f1 (spRd C PN takeAfterItem))
    (g_take_after_member : Fn P w K mg base 3 "take_after_member" ["reader", "c"] f2 (spRd C PN takeAfterMember)) : Fn P w K mg base 4 "take_after" ["reader", "c"] f (spRd C WF takeAfter) := by
  refine D.fn sc_take_after (fun vs H Q E h => ?_) (fun cdv A outer sh H vs Q E hr h => ?_)
  · obtain ⟨r, ln, lc, m, s, c, rfl, _⟩ := h; rfl
  · obtain ⟨r, ln, lc, m, s, c, rfl, R, wf, k⟩ := h
    obtain ⟨dx, hO⟩ := R.ob
    refine ⟨_, (pss_cons (ps_if (pt_cmpR op_in_seq (pv 1) (pe_gr T.r_SPACES) (by with_unfolding_all rfl)) (pss_one (ps_ret (pe_gi T.g_AFTER))) pss_nil)
      (pss_cons (ps_if (pt_cmpR op_eq (pe_callB call_len_seq rfl T.b_len PySem.boot_len (pa_cons (pe_fld (pv 0) rfl) pa_nil)) pe_int (nomark _)) (pss_one (ps_ret (pe_gi T.g_BAD))) pss_nil)
      (pss_cons (ps_if (pt_cmpR op_eq (pe_ix ix_list (pe_fld (pv 0) rfl) (pe_un un_neg pe_int) (fun _ _ => rfl)) (pe_gi T.g_KIND_ARRAY) (nomark _)) (pss_one (ps_ret (pe_callF g_take_after_item (hr.mono (by decide)) (pa_cons (pv 0) (pa_cons (pv 1) pa_nil))))) pss_nil)
      (pss_one (ps_ret (pe_callF g_take_after_member (hr.mono (by decide)) (pa_cons (pv 0) (pa_cons (pv 1) pa_nil)))))))), ?_⟩
    unfold takeAfter at k
    refine rd_in (T.spaces H) rfl (fun e => ?_) (fun e => ?_)
    · rw [if_pos e] at k; exact k _ R Kp.refl
    rw [if_neg e] at k
    refine ⟨_, rfl, r, C, dx, _, _, rfl, hO, T.clC, T.n_nested, lk_nested, ln, _, rfl, .inl (SqL.of R.nst), rfl, _, rfl, if_eq (H := H) (fun e => ?_) (fun e => ?_)⟩
    · rw [List.length_map] at e
      rw [if_pos (by omega)] at k; exact k _ R Kp.refl
    rw [List.length_map] at e
    rw [if_neg (by omega)] at k
    have hne : s.nested ≠ [] := fun q => e (by rw [q]; rfl)
    refine ⟨_, rfl, r, C, dx, _, _, rfl, hO, T.clC, T.n_nested, lk_nested, _, rfl, ln, _, _, _, rfl, rfl, SqL.of R.nst, last_at hne, rfl, _, rfl, if_eq (H := H) (fun e => ?_) (fun e => ?_)⟩
    · rw [if_pos e] at k; exact ⟨_, rfl, _, rfl, r, ln, lc, m, s, c, rfl, R, ⟨wf, hne⟩, k⟩
    · rw [if_neg e] at k; exact ⟨_, rfl, _, rfl, r, ln, lc, m, s, c, rfl, R, ⟨wf, hne⟩, k⟩
theorem ok_end_string {f f1 : Addr} (D : Df K mg "end_string" s_end_string ["reader"] f) (T : Txt K mg C aSp aSt fB fs) (g_end_value : Fn P w K mg base 1 "end_value" ["reader", "kind"] f1 (spEnd C)) : Fn P w K mg base 2 "end_string" ["reader"] f (spEndStr C) := by
  refine D.fn sc_end_string (fun vs H Q E h => ?_) (fun cdv A outer sh H vs Q E hr h => ?_)
  · obtain ⟨r, ln, lc, m, s, rfl, _⟩ := h; rfl
  · obtain ⟨r, ln, lc, m, s, rfl, R, wf, k⟩ := h
    obtain ⟨dx, hO⟩ := R.ob
    obtain ⟨ha, hi⟩ := at_count (k := 7) wf.cl (by decide) (by decide)
    refine ⟨_, (pss_cons (ps_if (pt_val (pe_fld (pv 0) rfl)) (pss_cons (ps_augS (pe_fld (pv 0) rfl) (pe_gi T.g_KIND_KEY) get_list pe_int ip_add set_list)
      (pss_one (ps_ret (pe_gi T.g_COLON)))) pss_nil)
      (pss_one (ps_ret (pe_callF g_end_value (hr.mono (by decide)) (pa_cons (pv 0) (pa_cons (pe_gi T.g_KIND_STRING) pa_nil)))))), ?_⟩
    unfold endString at k
    refine ⟨_, rfl, r, C, dx, _, _, rfl, hO, T.clC, T.n_in_key, lk_in_key, _, rfl, ite2 (fun e => ?_) (fun e => ?_)⟩
    · rw [if_pos e] at k
      refine ⟨_, rfl, r, C, dx, _, _, rfl, hO, T.clC, T.n_counts, lk_counts, lc, _, _, _, rfl, rfl, SqL.of R.cnt, ha, _, _, rfl, rfl, lc, _, _, _, rfl, rfl, R.cnt, hi, ?_⟩
      have e := R.setC (s.counts.set (7 : Int).toNat (s.counts.getD (7 : Int).toNat 0 + 1))
      rw [List.map_set] at e
      exact k _ e kp_c
    · rw [if_neg e] at k
      exact ⟨_, rfl, r, ln, lc, m, s, 4, rfl, R, wf.cl, by decide, by decide, k⟩
theorem ok_take_string {f f1 : Addr} (D : Df K mg "take_string" s_take_string ["reader", "c"] f) (T : Txt K mg C aSp aSt fB fs) (g_end_string : Fn P w K mg base 2 "end_string" ["reader"] f1 (spEndStr C)) : Fn P w K mg base 3 "take_string" ["reader", "c"] f (spRd C WF takeString) := by
  refine D.fn sc_take_string (fun vs H Q E h => ?_) (fun cdv A outer sh H vs Q E hr h => ?_)
  · obtain ⟨r, ln, lc, m, s, c, rfl, _⟩ := h; rfl
  · obtain ⟨r, ln, lc, m, s, c, rfl, R, wf, k⟩ := h
    refine ⟨_, (pss_cons (ps_if (pt_cmpR op_eq (pv 1) (pe_ordc 34 T.b_ord (by decide +kernel) (by decide +kernel)) (nomark _)) (pss_one (ps_ret (pe_callF g_end_string (hr.mono (by decide)) (pa_cons (pv 0) pa_nil)))) pss_nil)
      (pss_cons (ps_if (pt_cmpR op_eq (pv 1) (pe_ordc 92 T.b_ord (by decide +kernel) (by decide +kernel)) (nomark _)) (pss_one (ps_ret (pe_gi T.g_ESCAPE))) pss_nil)
      (pss_cons (ps_if (pt_cmpR op_ge (pv 1) (pe_ordc 32 T.b_ord (by decide +kernel) (by decide +kernel)) (nomark _)) (pss_one (ps_ret (pe_gi T.g_STRING))) pss_nil)
      (pss_one (ps_ret (pe_gi T.g_BAD)))))), ?_⟩
    unfold takeString at k
    refine rd_eq rfl (fun e => ?_) (fun e => ?_)
    · rw [if_pos e] at k; exact ⟨_, rfl, r, ln, lc, m, s, rfl, R, wf, k⟩
    rw [if_neg e] at k
    refine rd_eq rfl (fun e => ?_) (fun e => ?_)
    · rw [if_pos e] at k; exact k _ R Kp.refl
    rw [if_neg e] at k
    refine ⟨_, rfl, _, _, rfl, rfl, _, rfl, ite2 (fun e => ?_) (fun e => ?_)⟩
    · rw [if_pos (of_decide_eq_true e)] at k; exact k _ R Kp.refl
    · rw [if_neg (fun q => e (decide_eq_true q))] at k; exact k _ R Kp.refl
theorem ok_take_escape {f f1 : Addr} (D : Df K mg "take_escape" s_take_escape ["reader", "c"] f) (T : Txt K mg C aSp aSt fB fs) (g_is_one_of : Fn P w K mg base 1 "is_one_of" ["c", "signs"] f1 spOne) : Fn P w K mg base 2 "take_escape" ["reader", "c"] f (spRd C WF takeEscape) := by
  refine D.fn sc_take_escape (fun vs H Q E h => ?_) (fun cdv A outer sh H vs Q E hr h => ?_)
  · obtain ⟨r, ln, lc, m, s, c, rfl, _⟩ := h; rfl
  · obtain ⟨r, ln, lc, m, s, c, rfl, R, wf, k⟩ := h
    refine ⟨_, (pss_cons (ps_if (pt_val (pe_callF g_is_one_of (hr.mono (by decide)) (pa_cons (pv 1) (pa_cons pe_str pa_nil)))) (pss_one (ps_ret (pe_gi T.g_STRING))) pss_nil)
      (pss_cons (ps_if (pt_cmpR op_eq (pv 1) (pe_ordc 117 T.b_ord (by decide +kernel) (by decide +kernel)) (nomark _)) (pss_cons (ps_fld (pv 0) (pe_gi T.g_HEX_DIGITS) rfl)
      (pss_one (ps_ret (pe_gi T.g_HEX)))) pss_nil)
      (pss_one (ps_ret (pe_gi T.g_BAD))))), ?_⟩
    unfold takeEscape at k
    refine ⟨_, rfl, c, _, congrArg (fun z => [V.int c, V.str z]) t_esc, by decide, fun H1 sa => ⟨_, rfl, ite2 (fun e => ?_) (fun e => ?_)⟩⟩
    · rw [if_pos (show c ∈ escapes from of_decide_eq_true e)] at k; exact k _ (R.same sa) (Kp.same sa)
    rw [if_neg (show ¬ c ∈ escapes from fun q => e (decide_eq_true q))] at k
    have R1 := R.same sa
    obtain ⟨dx, hO⟩ := R1.ob
    refine rd_eq rfl (fun e => ?_) (fun e => ?_)
    · rw [if_pos e] at k
      exact ⟨_, rfl, r, C, dx, _, rfl, hO, T.clC, T.n_digits_left, fl_len, k _ (R1.setR (s' := { s with left := 4 }) pf_digits_left rfl rfl) ((Kp.same sa).trans kp_r)⟩
    · rw [if_neg e] at k; exact k _ R1 (Kp.same sa)
theorem ok_take_hex {f f1 : Addr} (D : Df K mg "take_hex" s_take_hex ["reader", "c"] f) (T : Txt K mg C aSp aSt fB fs) (g_is_hex_digit : Fn P w K mg base 2 "is_hex_digit" ["c"] f1 (spBool isHex)) : Fn P w K mg base 3 "take_hex" ["reader", "c"] f (spRd C WF takeHex) := by
  refine D.fn sc_take_hex (fun vs H Q E h => ?_) (fun cdv A outer sh H vs Q E hr h => ?_)
  · obtain ⟨r, ln, lc, m, s, c, rfl, _⟩ := h; rfl
  · obtain ⟨r, ln, lc, m, s, c, rfl, R, wf, k⟩ := h
    obtain ⟨dx, hO⟩ := R.ob
    refine ⟨_, (pss_cons (ps_if (pt_not (pt_val (pe_callF g_is_hex_digit (hr.mono (by decide)) (pa_cons (pv 1) pa_nil)))) (pss_one (ps_ret (pe_gi T.g_BAD))) pss_nil)
      (pss_cons (ps_fldaug (pv 0) pe_int in_sub)
      (pss_one (ps_ret (pe_ifExp (pt_cmpR op_gt (pe_fld (pv 0) rfl) pe_int (nomark _)) (pe_gi T.g_HEX) (pe_gi T.g_STRING)))))), ?_⟩
    unfold takeHex at k
    refine ⟨_, rfl, c, rfl, _, rfl, ite2 (fun e => ?_) (fun e => ?_)⟩
    · rw [if_neg (by intro q; rw [q] at e; exact absurd e (by decide))] at k; exact k _ R Kp.refl
    · have hx : isHex c = true := by
        cases q : isHex c
        · exact absurd (by rw [q]; rfl) e
        · rfl
      rw [if_pos hx] at k
      have hf : putF ("digits_left" : Str) (V.int (s.left - 1)) (rf m ln lc s) = rf m ln lc { s with left := s.left - 1 } := pf_digits_left
      have R1 := R.setR (dx := dx) hf rfl rfl
      refine ⟨_, rfl, r, C, dx, _, _, rfl, hO, T.clC, T.n_digits_left, lk_digits_left, _, _, rfl, rfl, dx, _, hO, fl_len, ?_⟩
      refine ⟨_, rfl, r, C, dx, _, _, rfl, upd_same, T.clC, T.n_digits_left, (by rw [hf]; exact lk_digits_left), _, _, rfl, rfl, _, rfl, ite2 (fun e => ?_) (fun e => ?_)⟩
      · have e' : 0 < s.left - 1 := of_decide_eq_true e
        rw [if_pos e'] at k; exact k _ R1 kp_r
      · have e' : ¬ 0 < s.left - 1 := fun q => e (decide_eq_true q)
        rw [if_neg e'] at k; exact k _ R1 kp_r
theorem ok_take_minus {f f1 : Addr} (D : Df K mg "take_minus" s_take_minus ["reader", "c"] f) (T : Txt K mg C aSp aSt fB fs) (g_begin_digits : Fn P w K mg base 2 "begin_digits" ["c"] f1 (spInt beginDigits)) : Fn P w K mg base 3 "take_minus" ["reader", "c"] f (spRd C WF fun s c => (s, beginDigits c)) := by
  refine D.fn sc_take_minus (fun vs H Q E h => ?_) (fun cdv A outer sh H vs Q E hr h => ?_)
  · obtain ⟨r, ln, lc, m, s, c, rfl, _⟩ := h; rfl
  · obtain ⟨r, ln, lc, m, s, c, rfl, R, wf, k⟩ := h
    exact ⟨_, (pss_one (ps_ret (pe_callF g_begin_digits (hr.mono (by decide)) (pa_cons (pv 1) pa_nil)))), ⟨_, rfl, c, rfl, k _ R Kp.refl⟩⟩
theorem ok_end_number {f f1 f2 : Addr} (D : Df K mg "end_number" s_end_number ["reader", "c"] f) (T : Txt K mg C aSp aSt fB fs) (g_end_value : Fn P w K mg base 1 "end_value" ["reader", "kind"] f1 (spEnd C)) (g_take_after : Fn P w K mg base 4 "take_after" ["reader", "c"] f2 (spRd C WF takeAfter)) :
    Fn P w K mg base 5 "end_number" ["reader", "c"] f (spRd C WF endNumber) := by
  refine D.fn sc_end_number (fun vs H Q E h => ?_) (fun cdv A outer sh H vs Q E hr h => ?_)
  · obtain ⟨r, ln, lc, m, s, c, rfl, _⟩ := h; rfl
  · obtain ⟨r, ln, lc, m, s, c, rfl, R, wf, k⟩ := h
    refine ⟨_, (pss_cons (ps_expr (pe_callF g_end_value (hr.mono (by decide)) (pa_cons (pv 0) (pa_cons (pe_gi T.g_KIND_NUMBER) pa_nil))))
      (pss_one (ps_ret (pe_callF g_take_after (hr.mono (by decide)) (pa_cons (pv 0) (pa_cons (pv 1) pa_nil)))))), ?_⟩
    exact ⟨_, rfl, r, ln, lc, m, s, 3, rfl, R, wf.cl, by decide, by decide, fun H1 R1 k1 => ⟨_, rfl, _, rfl, r, ln, lc, m, _, c, rfl, R1, wf_end wf 3, Post.kp k k1⟩⟩
theorem ok_take_mark_or_end {f f1 f2 : Addr} (D : Df K mg "take_mark_or_end" s_take_mark_or_end ["reader", "c"] f) (T : Txt K mg C aSp aSt fB fs) (g_is_one_of : Fn P w K mg base 1 "is_one_of" ["c", "signs"] f1 spOne) (g_end_number : Fn P w K mg base 5 "end_number" ["reader", "c"] f2 (spRd C WF endNumber)) :
    Fn P w K mg base 6 "take_mark_or_end" ["reader", "c"] f (spRd C WF takeMark) := by
  refine D.fn sc_take_mark_or_end (fun vs H Q E h => ?_) (fun cdv A outer sh H vs Q E hr h => ?_)
  · obtain ⟨r, ln, lc, m, s, c, rfl, _⟩ := h; rfl
  · obtain ⟨r, ln, lc, m, s, c, rfl, R, wf, k⟩ := h
    refine ⟨_, (pss_cons (ps_if (pt_val (pe_callF g_is_one_of (hr.mono (by decide)) (pa_cons (pv 1) (pa_cons pe_str pa_nil)))) (pss_one (ps_ret (pe_gi T.g_E))) pss_nil)
      (pss_one (ps_ret (pe_callF g_end_number (hr.mono (by decide)) (pa_cons (pv 0) (pa_cons (pv 1) pa_nil)))))), ?_⟩
    unfold takeMark at k
    refine ⟨_, rfl, c, _, congrArg (fun z => [V.int c, V.str z]) t_marks, by decide, fun H1 sa => ⟨_, rfl, ite2 (fun e => ?_) (fun e => ?_)⟩⟩
    · rw [if_pos (show c ∈ marks from of_decide_eq_true e)] at k; exact k _ (R.same sa) (Kp.same sa)
    · rw [if_neg (show ¬ c ∈ marks from fun q => e (decide_eq_true q))] at k
      exact ⟨_, rfl, _, rfl, r, ln, lc, m, s, c, rfl, R.same sa, wf, Post.kp k (Kp.same sa)⟩
theorem ok_take_zero {f f1 : Addr} (D : Df K mg "take_zero" s_take_zero ["reader", "c"] f) (T : Txt K mg C aSp aSt fB fs) (g_take_mark_or_end : Fn P w K mg base 6 "take_mark_or_end" ["reader", "c"] f1 (spRd C WF takeMark)) : Fn P w K mg base 7 "take_zero" ["reader", "c"] f (spRd C WF takeZero) := by
  refine D.fn sc_take_zero (fun vs H Q E h => ?_) (fun cdv A outer sh H vs Q E hr h => ?_)
  · obtain ⟨r, ln, lc, m, s, c, rfl, _⟩ := h; rfl
  · obtain ⟨r, ln, lc, m, s, c, rfl, R, wf, k⟩ := h
    refine ⟨_, (pss_cons (ps_if (pt_cmpR op_eq (pv 1) (pe_ordc 46 T.b_ord (by decide +kernel) (by decide +kernel)) (nomark _)) (pss_one (ps_ret (pe_gi T.g_POINT))) pss_nil)
      (pss_one (ps_ret (pe_callF g_take_mark_or_end (hr.mono (by decide)) (pa_cons (pv 0) (pa_cons (pv 1) pa_nil)))))), ?_⟩
    unfold takeZero at k
    refine rd_eq rfl (fun e => ?_) (fun e => ?_)
    · rw [if_pos e] at k; exact k _ R Kp.refl
    · rw [if_neg e] at k; exact ⟨_, rfl, _, rfl, r, ln, lc, m, s, c, rfl, R, wf, k⟩
theorem ok_take_whole {f f1 f2 : Addr} (D : Df K mg "take_whole" s_take_whole ["reader", "c"] f) (T : Txt K mg C aSp aSt fB fs) (g_is_digit : Fn P w K mg base 1 "is_digit" ["c"] f1 (spBool isDigit)) (g_take_zero : Fn P w K mg base 7 "take_zero" ["reader", "c"] f2 (spRd C WF takeZero)) :
    Fn P w K mg base 8 "take_whole" ["reader", "c"] f (spRd C WF takeWhole) := by
  refine D.fn sc_take_whole (fun vs H Q E h => ?_) (fun cdv A outer sh H vs Q E hr h => ?_)
  · obtain ⟨r, ln, lc, m, s, c, rfl, _⟩ := h; rfl
  · obtain ⟨r, ln, lc, m, s, c, rfl, R, wf, k⟩ := h
    refine ⟨_, (pss_cons (ps_if (pt_val (pe_callF g_is_digit (hr.mono (by decide)) (pa_cons (pv 1) pa_nil))) (pss_one (ps_ret (pe_gi T.g_WHOLE))) pss_nil)
      (pss_one (ps_ret (pe_callF g_take_zero (hr.mono (by decide)) (pa_cons (pv 0) (pa_cons (pv 1) pa_nil)))))), ?_⟩
    unfold takeWhole at k
    refine ⟨_, rfl, c, rfl, _, rfl, ite2 (fun e => ?_) (fun e => ?_)⟩
    · rw [if_pos e] at k; exact k _ R Kp.refl
    · rw [if_neg e] at k; exact ⟨_, rfl, _, rfl, r, ln, lc, m, s, c, rfl, R, wf, k⟩
theorem ok_take_point {f f1 : Addr} (D : Df K mg "take_point" s_take_point ["reader", "c"] f) (T : Txt K mg C aSp aSt fB fs) (g_is_digit : Fn P w K mg base 1 "is_digit" ["c"] f1 (spBool isDigit)) : Fn P w K mg base 2 "take_point" ["reader", "c"] f (spRd C WF takePoint) := by
  refine D.fn sc_take_point (fun vs H Q E h => ?_) (fun cdv A outer sh H vs Q E hr h => ?_)
  · obtain ⟨r, ln, lc, m, s, c, rfl, _⟩ := h; rfl
  · obtain ⟨r, ln, lc, m, s, c, rfl, R, wf, k⟩ := h
    refine ⟨_, (pss_one (ps_ret (pe_ifExp (pt_val (pe_callF g_is_digit (hr.mono (by decide)) (pa_cons (pv 1) pa_nil))) (pe_gi T.g_FRACTION) (pe_gi T.g_BAD)))), ?_⟩
    unfold takePoint at k
    refine ⟨_, rfl, c, rfl, _, rfl, ite2 (fun e => ?_) (fun e => ?_)⟩
    · rw [if_pos e] at k; exact k _ R Kp.refl
    · rw [if_neg e] at k; exact k _ R Kp.refl
theorem ok_take_fraction {f f1 f2 : Addr} (D : Df K mg "take_fraction" s_take_fraction ["reader", "c"] f) (T : Txt K mg C aSp aSt fB fs) (g_is_digit : Fn P w K mg base 1 "is_digit" ["c"] f1 (spBool isDigit)) (g_take_mark_or_end : Fn P w K mg base 6 "take_mark_or_end" ["reader", "c"] f2 (spRd C WF takeMark)) :
    Fn P w K mg base 7 "take_fraction" ["reader", "c"] f (spRd C WF takeFraction) := by
  refine D.fn sc_take_fraction (fun vs H Q E h => ?_) (fun cdv A outer sh H vs Q E hr h => ?_)
  · obtain ⟨r, ln, lc, m, s, c, rfl, _⟩ := h; rfl
  · obtain ⟨r, ln, lc, m, s, c, rfl, R, wf, k⟩ := h
    refine ⟨_, (pss_cons (ps_if (pt_val (pe_callF g_is_digit (hr.mono (by decide)) (pa_cons (pv 1) pa_nil))) (pss_one (ps_ret (pe_gi T.g_FRACTION))) pss_nil)
      (pss_one (ps_ret (pe_callF g_take_mark_or_end (hr.mono (by decide)) (pa_cons (pv 0) (pa_cons (pv 1) pa_nil)))))), ?_⟩
    unfold takeFraction at k
    refine ⟨_, rfl, c, rfl, _, rfl, ite2 (fun e => ?_) (fun e => ?_)⟩
    · rw [if_pos e] at k; exact k _ R Kp.refl
    · rw [if_neg e] at k; exact ⟨_, rfl, _, rfl, r, ln, lc, m, s, c, rfl, R, wf, k⟩
theorem ok_take_sign {f f1 : Addr} (D : Df K mg "take_sign" s_take_sign ["reader", "c"] f) (T : Txt K mg C aSp aSt fB fs) (g_is_digit : Fn P w K mg base 1 "is_digit" ["c"] f1 (spBool isDigit)) : Fn P w K mg base 2 "take_sign" ["reader", "c"] f (spRd C WF takeSign) := by
  refine D.fn sc_take_sign (fun vs H Q E h => ?_) (fun cdv A outer sh H vs Q E hr h => ?_)
  · obtain ⟨r, ln, lc, m, s, c, rfl, _⟩ := h; rfl
  · obtain ⟨r, ln, lc, m, s, c, rfl, R, wf, k⟩ := h
    refine ⟨_, (pss_one (ps_ret (pe_ifExp (pt_val (pe_callF g_is_digit (hr.mono (by decide)) (pa_cons (pv 1) pa_nil))) (pe_gi T.g_EXPONENT) (pe_gi T.g_BAD)))), ?_⟩
    unfold takeSign at k
    refine ⟨_, rfl, c, rfl, _, rfl, ite2 (fun e => ?_) (fun e => ?_)⟩
    · rw [if_pos e] at k; exact k _ R Kp.refl
    · rw [if_neg e] at k; exact k _ R Kp.refl
theorem ok_take_e {f f1 f2 : Addr} (D : Df K mg "take_e" s_take_e ["reader", "c"] f) (T : Txt K mg C aSp aSt fB fs) (g_is_one_of : Fn P w K mg base 1 "is_one_of" ["c", "signs"] f1 spOne) (g_take_sign : Fn P w K mg base 2 "take_sign" ["reader", "c"] f2 (spRd C WF takeSign)) :
    Fn P w K mg base 3 "take_e" ["reader", "c"] f (spRd C WF takeE) := by
  refine D.fn sc_take_e (fun vs H Q E h => ?_) (fun cdv A outer sh H vs Q E hr h => ?_)
  · obtain ⟨r, ln, lc, m, s, c, rfl, _⟩ := h; rfl
  · obtain ⟨r, ln, lc, m, s, c, rfl, R, wf, k⟩ := h
    refine ⟨_, (pss_cons (ps_if (pt_val (pe_callF g_is_one_of (hr.mono (by decide)) (pa_cons (pv 1) (pa_cons pe_str pa_nil)))) (pss_one (ps_ret (pe_gi T.g_SIGN))) pss_nil)
      (pss_one (ps_ret (pe_callF g_take_sign (hr.mono (by decide)) (pa_cons (pv 0) (pa_cons (pv 1) pa_nil)))))), ?_⟩
    unfold takeE at k
    refine ⟨_, rfl, c, _, congrArg (fun z => [V.int c, V.str z]) t_signs, by decide, fun H1 sa => ⟨_, rfl, ite2 (fun e => ?_) (fun e => ?_)⟩⟩
    · rw [if_pos (show c ∈ signs from of_decide_eq_true e)] at k; exact k _ (R.same sa) (Kp.same sa)
    · rw [if_neg (show ¬ c ∈ signs from fun q => e (decide_eq_true q))] at k
      exact ⟨_, rfl, _, rfl, r, ln, lc, m, s, c, rfl, R.same sa, wf, Post.kp k (Kp.same sa)⟩
theorem ok_take_exponent {f f1 f2 : Addr} (D : Df K mg "take_exponent" s_take_exponent ["reader", "c"] f) (T : Txt K mg C aSp aSt fB fs) (g_is_digit : Fn P w K mg base 1 "is_digit" ["c"] f1 (spBool isDigit)) (g_end_number : Fn P w K mg base 5 "end_number" ["reader", "c"] f2 (spRd C WF endNumber)) :
    Fn P w K mg base 6 "take_exponent" ["reader", "c"] f (spRd C WF takeExponent) := by
  refine D.fn sc_take_exponent (fun vs H Q E h => ?_) (fun cdv A outer sh H vs Q E hr h => ?_)
  · obtain ⟨r, ln, lc, m, s, c, rfl, _⟩ := h; rfl
  · obtain ⟨r, ln, lc, m, s, c, rfl, R, wf, k⟩ := h
    refine ⟨_, (pss_cons (ps_if (pt_val (pe_callF g_is_digit (hr.mono (by decide)) (pa_cons (pv 1) pa_nil))) (pss_one (ps_ret (pe_gi T.g_EXPONENT))) pss_nil)
      (pss_one (ps_ret (pe_callF g_end_number (hr.mono (by decide)) (pa_cons (pv 0) (pa_cons (pv 1) pa_nil)))))), ?_⟩
    unfold takeExponent at k
    refine ⟨_, rfl, c, rfl, _, rfl, ite2 (fun e => ?_) (fun e => ?_)⟩
    · rw [if_pos e] at k; exact k _ R Kp.refl
    · rw [if_neg e] at k; exact ⟨_, rfl, _, rfl, r, ln, lc, m, s, c, rfl, R, wf, k⟩
theorem ok_take_bad {f : Addr} (D : Df K mg "take_bad" s_take_bad ["reader", "c"] f) (T : Txt K mg C aSp aSt fB fs) : Fn P w K mg base 1 "take_bad" ["reader", "c"] f (spRd C WF fun s _ => (s, 18)) := by
  refine D.fn sc_take_bad (fun vs H Q E h => ?_) (fun cdv A outer sh H vs Q E hr h => ?_)
  · obtain ⟨r, ln, lc, m, s, c, rfl, _⟩ := h; rfl
  · obtain ⟨r, ln, lc, m, s, c, rfl, R, wf, k⟩ := h
    exact ⟨_, (pss_one (ps_ret (pe_gi T.g_BAD))), k _ R Kp.refl⟩
theorem ok_take_word {f f1 : Addr} (D : Df K mg "take_word" s_take_word ["reader", "c"] f) (T : Txt K mg C aSp aSt fB fs) (g_end_value : Fn P w K mg base 1 "end_value" ["reader", "kind"] f1 (spEnd C)) : Fn P w K mg base 2 "take_word" ["reader", "c"] f (spRd C PR takeWord) := by
  refine D.fn sc_take_word (fun vs H Q E h => ?_) (fun cdv A outer sh H vs Q E hr h => ?_)
  · obtain ⟨r, ln, lc, m, s, c, rfl, _⟩ := h; rfl
  · obtain ⟨r, ln, lc, m, s, c, rfl, R, ⟨wf, hne⟩, k⟩ := h
    obtain ⟨dx, hO⟩ := R.ob
    have hat : atI (txt s.rest).cps.toList 0 = some (s.rest.headD 0) := by
      show atI s.rest.toArray.toList ((0 : Nat) : Int) = _
      refine atI_nat ?_
      cases e : s.rest with
      | nil => exact absurd e hne
      | cons a t => rfl
    have hf : putF ("word_rest" : Str) (V.str (cutS (txt s.rest) (some 1) none)) (rf m ln lc s) = rf m ln lc { s with rest := s.rest.tail } := by
      rw [cut_tail]; exact pf_word_rest
    have R1 := R.setR (dx := dx) hf rfl rfl
    refine ⟨_, (pss_cons (ps_if (pt_cmpR op_ne (pv 1) (pe_callB call_ord rfl T.b_ord PyProof.Rows.boot_ord (pa_cons (pe_ix ix_str (pe_fld (pv 0) rfl) pe_int (fun _ _ => rfl)) pa_nil)) (nomark _)) (pss_one (ps_ret (pe_gi T.g_BAD))) pss_nil)
      (pss_cons (ps_fld (pv 0) (pe_slice sl_str (pe_fld (pv 0) rfl) (po_some pe_int) po_none) rfl)
      (pss_cons (ps_if (pt_cmpR op_eq (pe_fld (pv 0) rfl) pe_str (nomark _)) (pss_one (ps_ret (pe_callF g_end_value (hr.mono (by decide)) (pa_cons (pv 0) (pa_cons (pe_fld (pv 0) rfl) pa_nil))))) pss_nil)
      (pss_one (ps_ret (pe_gi T.g_WORD)))))), ?_⟩
    unfold takeWord at k
    refine ⟨_, rfl, _, rfl, r, C, dx, _, _, rfl, hO, T.clC, T.n_word_rest, lk_word_rest, _, _, _, rfl, rfl, txt_len wf.rl, hat, _, rfl, rfl, rfl, _, rfl, ?_⟩
    by_cases e : c = ((s.rest.headD 0 : Nat) : Int)
    · rw [if_neg (fun q => q e)] at k
      refine iteNS (congrArg V.int e) ?_
      refine ⟨_, rfl, r, C, dx, _, _, rfl, hO, T.clC, T.n_word_rest, lk_word_rest, _, rfl, _, rfl, txt_len wf.rl, _, rfl, r, C, dx, _, rfl, hO, T.clC, T.n_word_rest, fl_len, ?_⟩
      refine ⟨_, rfl, r, C, dx, _, _, rfl, upd_same, T.clC, T.n_word_rest, (by rw [hf]; exact lk_word_rest), rfl, _, rfl, ite2 (fun e => ?_) (fun e => ?_)⟩
      · have e1 : s.rest.tail = [] := by
          have q := V.str.inj (of_decide_eq_true e)
          exact txt_inj (q.trans t_none)
        rw [if_pos e1] at k
        exact ⟨_, rfl, _, rfl, r, C, dx, _, _, rfl, upd_same, T.clC, T.n_word_kind, (by rw [hf]; exact lk_word_kind), r, ln, lc, m, _, s.kind, rfl, R1, wf.cl, wf.k0, wf.k8, Post.kp k kp_r⟩
      · have e1 : ¬ s.rest.tail = [] := fun q => e (decide_eq_true (by rw [q, t_none]))
        rw [if_neg e1] at k
        exact k _ R1 kp_r
    · rw [if_pos e] at k
      have q : (!decide (V.int c = V.int ((s.rest.headD 0 : Nat) : Int))) = true := by
        rw [decide_eq_false (fun z => e (V.int.inj z))]; rfl
      exact ite2 (fun _ => k _ R Kp.refl) (fun z => absurd q z)
end
end JS
set_option maxHeartbeats 4000000
namespace JS
open PySem L2
def preM (i : Nat) (s : RS) : Prop := match i with
  | 1 => PN s
  | 2 => PN s
  | 17 => PR s
  | _ => WF s
def spT (C : Addr) (i : Nat) : Sp := spRd C (preM i) (stepM i)
theorem rel_wf {m : Int} {s : RS} {a : Sf08.Abs} (h : Rel m s a) : WF s := by
  refine ⟨by rw [h.seen, List.length_map]; exact h.slen, by rw [nlen h.toCore]; exact h.deep, fun x hx => ?_, by rw [h.kind]; omega, by rw [h.kind]; have := h.klt; omega, h.rlen⟩
  rw [h.stack] at hx
  simp only [List.mem_reverse, List.mem_map] at hx
  obtain ⟨b, _, rfl⟩ := hx
  cases b <;> (unfold code; simp)
theorem rel_pre {m : Int} {s : RS} {a : Sf08.Abs} (h : Rel m s a) : 0 ≤ m ∧ m ≤ 18 ∧ preM m.toNat s := by
  have hm := h.mode
  have hl := h.le
  refine ⟨by omega, by omega, ?_⟩
  have e : m.toNat = a.mode := by rw [hm, Int.toNat_natCast]
  rw [e]
  have wf := rel_wf h
  have ne : ∀ (b : Bool) (t : List Bool), a.stack = b :: t → s.nested ≠ [] := fun b t q z => by
    have := nlen h.toCore
    rw [q, z] at this
    simp at this
  unfold preM
  split
  · rename_i q
    obtain ⟨t, z⟩ := h.arr q
    exact ⟨wf, ne _ _ z⟩
  · rename_i q
    obtain ⟨t, z⟩ := h.obj q
    exact ⟨wf, ne _ _ z⟩
  · rename_i q
    obtain ⟨z, y⟩ := h.rest q
    exact ⟨wf, by rw [z]; exact y⟩
  · exact wf
def spStep (C : Addr) : Sp := fun vs H Q _ => ∃ (r ln lc : Addr) (m : Int) (s : RS) (c : Int), vs = [.ref r, .int c] ∧ RdAt C H r ln lc m s ∧ (∃ a, Rel m s a) ∧
  ∀ H', RdAt C H' r ln lc (stepM m.toNat s c).2 (stepM m.toNat s c).1 → Kp H H' r ln lc → Q .non H'
def spTake (C : Addr) : Sp := fun vs H Q _ => ∃ (r ln lc : Addr) (m : Int) (s : RS) (c : Int), vs = [.ref r, .int c] ∧ RdAt C H r ln lc m s ∧ (∃ a, Rel m s a) ∧
  (0 ≤ c ∧ c ≤ 255 → ∀ H', RdAt C H' r ln lc (stepM m.toNat s c).2 (stepM m.toNat s c).1 → Kp H H' r ln lc → Q (.int (stepM m.toNat s c).2) H') ∧ (¬ (0 ≤ c ∧ c ≤ 255) → Q (.int (-1)) H)
def spRun (C : Addr) : Sp := fun vs H Q _ => ∃ (r ln lc d : Addr) (m : Int) (s : RS) (bs : List Int), vs = [.ref r, .ref d] ∧ RdAt C H r ln lc m s ∧ (∃ a, Rel m s a) ∧ H d = some (.lst (bs.map V.int)) ∧ d ≠ ln ∧ d ≠ lc ∧ (∀ z ∈ bs, 0 ≤ z ∧ z ≤ 255) ∧ bs.length ≤ 65536 ∧
  ∀ H', RdAt C H' r ln lc (runM m s bs).2 (runM m s bs).1 → Kp H H' r ln lc → Q (.int (runM m s bs).2) H'
def spBegin (C : Addr) : Sp := fun vs H Q _ => ∃ (p dx : Addr) (fl' : List (Str × V)), vs = [.ref p] ∧ H p = some (.ins C dx fl') ∧ (fl' = [] ∨ ∃ v0 v1 v2 v3 v4 v5 v6, fl' = fl v0 v1 v2 v3 v4 v5 v6) ∧
  ∀ (H' : Hp) (ln lc : Addr), RdAt C H' p ln lc 0 start → H ln = none → H lc = none → (∀ b o, H b = some o → b ≠ p → H' b = some o) → Q .non H'
def spInit (C : Addr) : Sp := fun vs H Q _ => ∃ (p dx : Addr), vs = [.ref p] ∧ H p = some (.ins C dx []) ∧
  ∀ (H' : Hp) (ln lc : Addr), RdAt C H' p ln lc 0 start → H ln = none → H lc = none → (∀ b o, H b = some o → b ≠ p → H' b = some o) → Q .non H'
def spClear (C : Addr) : Sp := fun vs H Q _ => ∃ (r ln lc : Addr) (m : Int) (s : RS), vs = [.ref r] ∧ RdAt C H r ln lc m s ∧
  ∀ (H' : Hp) (ln' lc' : Addr), RdAt C H' r ln' lc' 0 start → H ln' = none → H lc' = none → (∀ b o, H b = some o → b ≠ r → H' b = some o) → Q (.int 0) H'
theorem nb_state : ¬ (("begin" : Str) = "state") := by decide +kernel
theorem nb_nested : ¬ (("begin" : Str) = "nested") := by decide +kernel
theorem nb_counts : ¬ (("begin" : Str) = "counts") := by decide +kernel
theorem nb_in_key : ¬ (("begin" : Str) = "in_key") := by decide +kernel
theorem nb_digits_left : ¬ (("begin" : Str) = "digits_left") := by decide +kernel
theorem nb_word_rest : ¬ (("begin" : Str) = "word_rest") := by decide +kernel
theorem nb_word_kind : ¬ (("begin" : Str) = "word_kind") := by decide +kernel
theorem lk_begin {v0 v1 v2 v3 v4 v5 v6 : V} : List.lookup ("begin" : Str) (fl v0 v1 v2 v3 v4 v5 v6) = none := by
  unfold fl
  rw [lk_miss nb_state, lk_miss nb_nested, lk_miss nb_counts, lk_miss nb_in_key, lk_miss nb_digits_left, lk_miss nb_word_rest, lk_miss nb_word_kind]
  rfl
section
variable {P : Program} {w : World} {K : PySem.W.Frag} {mg : Str → Option Value} {base : Heap} {C aSp aSt fB : Addr} {fs : List Addr}
theorem ok_step {f : Addr} (D : Df K mg "step" s_step ["reader", "c"] f) (T : Txt K mg C aSp aSt fB fs) (hfs : fs.length = 19) (hL : ∀ f sp, (∃ i, fs[i]? = some f ∧ sp = spT C i) → ∃ y ps, Fn P w K mg base 8 y ps f sp) :
    Fn P w K mg base 9 "step" ["reader", "c"] f (spStep C) := by
  refine D.fn sc_step (fun vs H Q E h => ?_) (fun cdv A outer sh H vs Q E hr h => ?_)
  · obtain ⟨r, ln, lc, m, s, c, rfl, _⟩ := h; rfl
  · obtain ⟨r, ln, lc, m, s, c, rfl, R, ⟨a, hR⟩, k⟩ := h
    obtain ⟨dx, hO⟩ := R.ob
    obtain ⟨m0, m18, hp⟩ := rel_pre hR
    have hlt : m.toNat < fs.length := by omega
    have hi : fs[m.toNat]? = some fs[m.toNat] := List.getElem?_eq_getElem hlt
    refine ⟨_, (pss_cons (ps_set (i := 2) sc_step.nd rfl (Or.inl rfl) (pe_ix ix_tup (pe_gr T.r_STEPS) (pe_fld (pv 0) rfl) (fun _ _ => rfl)))
      (pss_one (ps_fld (pv 0) (pe_callL (i := 2) hL (hr.mono (by decide)) rfl (Or.inl rfl) (pa_cons (pv 0) (pa_cons (pv 1) pa_nil))) rfl))), ?_⟩
    refine ⟨_, rfl, r, C, dx, _, _, rfl, hO, T.clC, T.n_state, lk_state, aSt, _, _, _, rfl, rfl, T.steps H, at_of (j := m.toNat) (v := V.ref fs[m.toNat]) (by omega) (by rw [List.getElem?_map, hi]; rfl), ?_⟩
    refine ⟨fs[m.toNat], spT C m.toNat, rfl, ⟨m.toNat, hi, rfl⟩, _, rfl, _, rfl, r, ln, lc, m, s, c, rfl, R, hp, fun H1 R1 k1 => ?_⟩
    obtain ⟨dx1, hO1⟩ := R1.ob
    exact ⟨_, rfl, r, C, dx1, _, rfl, hO1, T.clC, T.n_state, fl_len, k _ (R1.setR pf_state rfl rfl) (k1.trans kp_r)⟩
theorem ok_take {f f1 : Addr} (D : Df K mg "take" s_take ["reader", "c"] f) (T : Txt K mg C aSp aSt fB fs) (g_step : Fn P w K mg base 9 "step" ["reader", "c"] f1 (spStep C)) : Fn P w K mg base 10 "take" ["reader", "c"] f (spTake C) := by
  refine D.fn sc_take (fun vs H Q E h => ?_) (fun cdv A outer sh H vs Q E hr h => ?_)
  · obtain ⟨r, ln, lc, m, s, c, rfl, _⟩ := h; rfl
  · obtain ⟨r, ln, lc, m, s, c, rfl, R, hR, k, k'⟩ := h
    refine ⟨_, (pss_cons (ps_if (PW.pt (pw_or (pt_cmpR op_lt (pv 1) pe_int (nomark _)) (pw_or1 (pt_cmpR op_gt (pv 1) (pe_gi T.g_HIGHEST_BYTE) (nomark _))))) (pss_one (ps_ret (pe_gi T.g_REFUSED))) pss_nil)
      (pss_cons (ps_expr (pe_callF g_step (hr.mono (by decide)) (pa_cons (pv 0) (pa_cons (pv 1) pa_nil))))
      (pss_one (ps_ret (pe_fld (pv 0) rfl))))), ?_⟩
    refine ⟨_, rfl, _, _, rfl, rfl, _, rfl, ite2 (fun e => ?_) (fun e => ?_)⟩
    · have e' : c < 0 := of_decide_eq_true e
      exact iteT (k' (by omega))
    have e' : ¬ c < 0 := fun q => e (decide_eq_true q)
    refine ⟨_, rfl, _, _, rfl, rfl, _, rfl, ite2 (fun e => ?_) (fun e => ?_)⟩
    · have e2 : 255 < c := of_decide_eq_true e
      exact k' (by omega)
    have e2 : ¬ 255 < c := fun q => e (decide_eq_true q)
    refine ⟨_, rfl, _, rfl, r, ln, lc, m, s, c, rfl, R, hR, fun H1 R1 k1 => ?_⟩
    obtain ⟨dx1, hO1⟩ := R1.ob
    exact ⟨_, rfl, r, C, dx1, _, _, rfl, hO1, T.clC, T.n_state, lk_state, k (by omega) _ R1 k1⟩
theorem rel_run {m : Int} {s : RS} {bs : List Int} (h : ∃ a, Rel m s a) (hb : ∀ z ∈ bs, 0 ≤ z ∧ z ≤ 255) : ∃ a, Rel (runM m s bs).2 (runM m s bs).1 a := by
  obtain ⟨a, hR⟩ := h
  exact ⟨_, sim_run bs hR hb⟩
theorem ok_run {f f1 : Addr} (D : Df K mg "run" s_run ["reader", "data"] f) (T : Txt K mg C aSp aSt fB fs) (g_step : Fn P w K mg base 9 "step" ["reader", "c"] f1 (spStep C)) : Fn P w K mg base 10 "run" ["reader", "data"] f (spRun C) := by
  refine D.fn sc_run (fun vs H Q E h => ?_) (fun cdv A outer sh H vs Q E hr h => ?_)
  · obtain ⟨r, ln, lc, d, m, s, bs, rfl, _⟩ := h; rfl
  · obtain ⟨r, ln, lc, d, m, s, bs, rfl, R, hR, hd, dn, dc, hb, hl, k⟩ := h
    have dr : d ≠ r := by
      obtain ⟨dx, hO⟩ := R.ob
      exact ne_of hd hO (by intro q; cases q)
    refine ⟨_, (pss_cons (ps_if (pt_cmpR op_gt (pe_callB call_len_seq rfl T.b_len PySem.boot_len (pa_cons (pv 1) pa_nil)) (pe_gi T.g_MOST_BYTES) (nomark _)) (pss_one (ps_ret (pe_gi T.g_REFUSED))) pss_nil)
      (pss_cons (ps_for PassesOwn.never rfl (pi_list (pv 1)) (pg_name (i := 2) sc_run.nd rfl (Or.inl rfl)) (pss_one (ps_expr (pe_callF g_step (hr.mono (by decide)) (pa_cons (pv 0) (pa_cons (pv 2) pa_nil))))))
      (pss_one (ps_ret (pe_fld (pv 0) rfl))))), ?_⟩
    refine ⟨_, rfl, d, _, rfl, .inl (SqL.of hd), _, _, rfl, rfl, _, rfl, ite2 (fun e => ?_) (fun e => ?_)⟩
    · have e' := of_decide_eq_true e
      rw [List.length_map] at e'
      omega
    refine ⟨_, rfl, d, rfl, ⟨_, SqL.of hd⟩, for_list (K := K) (a := d) (xs := bs.map V.int) (fun i σ H2 => ∃ v : Option V, σ = [some (.ref r), some (.ref d), v] ∧ RdAt C H2 r ln lc (runM m s (bs.take i)).2 (runM m s (bs.take i)).1 ∧ Kp H H2 r ln lc)
      ⟨none, rfl, R, Kp.refl⟩ (fun i σ H2 _ ⟨_, _, _, kp⟩ => SqL.of (kp d _ hd dr dn dc)) ?_ ?_⟩
    · rintro i y σ H2 hi ⟨v, rfl, R2, kp⟩
      have hi' : ∃ c, bs[i]? = some c ∧ y = V.int c := by
        rw [List.getElem?_map] at hi
        cases e : bs[i]? with
        | none => rw [e] at hi; cases hi
        | some c => rw [e] at hi; exact ⟨c, rfl, (Option.some.inj hi).symm⟩
      obtain ⟨c, hc, rfl⟩ := hi'
      refine ⟨_, rfl, _, rfl, r, ln, lc, _, _, c, rfl, R2, rel_run hR (fun z hz => hb z (List.mem_of_mem_take hz)), fun H3 R3 k3 => ?_⟩
      refine ⟨some (V.int c), rfl, ?_, kp.trans k3⟩
      have e : bs.take (i + 1) = bs.take i ++ [c] := by rw [List.take_add_one, hc]; rfl
      rw [e, runM_snoc]
      exact R3
    · rintro σ H2 ⟨v, rfl, R2, kp⟩
      rw [List.length_map, List.take_of_length_le (Nat.le_refl _)] at R2
      obtain ⟨dx2, hO2⟩ := R2.ob
      exact ⟨_, rfl, r, C, dx2, _, _, rfl, hO2, T.clC, T.n_state, lk_state, k _ R2 kp⟩
theorem ok_state_of {f : Addr} (D : Df K mg "state_of" s_state_of ["k"] f) (T : Txt K mg C aSp aSt fB fs) : Fn P w K mg base 1 "state_of" ["k"] f (spInt ofM) := by
  refine D.fn sc_state_of (fun vs H Q E h => ?_) (fun cdv A outer sh H vs Q E hr h => ?_)
  · obtain ⟨c, rfl, _⟩ := h; rfl
  · obtain ⟨c, rfl, k⟩ := h
    refine ⟨_, (pss_one (ps_ret (pe_ifExp (pt_chain op_le op_le (pe_gi T.g_VALUE) (pv 0) (pe_gi T.g_BAD)) (pv 0) (pe_gi T.g_REFUSED)))), ?_⟩
    unfold ofM at k
    refine ⟨_, rfl, _, _, rfl, rfl, _, rfl, ite2 (fun e => ?_) (fun e => ?_)⟩
    · have e1 : 0 ≤ c := of_decide_eq_true e
      refine ⟨_, _, rfl, rfl, _, rfl, ite2 (fun e => ?_) (fun e => ?_)⟩
      · have e2 : c ≤ 18 := of_decide_eq_true e
        rw [if_pos ⟨e1, e2⟩] at k
        exact ⟨_, rfl, k⟩
      · have e2 : ¬ c ≤ 18 := fun q => e (decide_eq_true q)
        rw [if_neg (fun q => e2 q.2)] at k
        exact k
    · have e1 : ¬ 0 ≤ c := fun q => e (decide_eq_true q)
      rw [if_neg (fun q => e1 q.1)] at k
      exact ⟨_, rfl, iteF k⟩
theorem put_len {f : Str} {v : V} {l : List (Str × V)} {n : Nat} (h : l.length ≤ n) : (putF f v l).length ≤ n + 1 := Nat.le_trans (length_putF f v l) (by omega)
theorem begin_fs {l : List (Str × V)} (h : l = [] ∨ ∃ v0 v1 v2 v3 v4 v5 v6, l = fl v0 v1 v2 v3 v4 v5 v6) (ln lc : Addr) :
    putF ("word_kind" : Str) (.int 0) (putF ("word_rest" : Str) (.str "") (putF ("digits_left" : Str) (.int 0) (putF ("in_key" : Str) (.bl false) (putF ("counts" : Str) (.ref lc) (putF ("nested" : Str) (.ref ln) (putF ("state" : Str) (.int 0) l)))))) = rf 0 ln lc start := by
  have e : rf 0 ln lc start = fl (.int 0) (.ref ln) (.ref lc) (.bl false) (.int 0) (.str "") (.int 0) := by
    show fl (.int 0) (.ref ln) (.ref lc) (.bl false) (.int 0) (.str (txt [])) (.int 0) = _
    rw [← t_none]
  rw [e]
  rcases h with rfl | ⟨v0, v1, v2, v3, v4, v5, v6, rfl⟩
  · exact fl_new
  · rw [pf_state, pf_nested, pf_counts, pf_in_key, pf_digits_left, pf_word_rest, pf_word_kind]
theorem ok_begin {fdB : FuncData} (F : Fun K "begin" "Reader.begin" s_Reader_begin fB fdB) (T : Txt K mg C aSp aSt fB fs) : FnOk P w K mg base CX0 1 fB fdB ["self"] (spBegin C) := by
  refine F.ok sc_Reader_begin (fun vs H Q E h => ?_) (fun cdv A outer sh H vs Q E hr h => ?_)
  · obtain ⟨p, dx, l, rfl, _⟩ := h; rfl
  · obtain ⟨p, dx, l, rfl, hp, hl, k⟩ := h
    have hlen : l.length ≤ 7 := by
      rcases hl with rfl | ⟨v0, v1, v2, v3, v4, v5, v6, rfl⟩
      · exact Nat.zero_le _
      · exact Nat.le_refl 7
    refine ⟨_, (pss_cons (ps_fld (pv 0) (pe_gi T.g_VALUE) rfl)
      (pss_cons (ps_fld (pv 0) (pe_lst pa_nil) rfl)
      (pss_cons (ps_fld (pv 0) (pe_op op_rep (pe_lst (pa_cons pe_int pa_nil)) (pe_gi T.g_KINDS)) rfl)
      (pss_cons (ps_fld (pv 0) pe_bl rfl)
      (pss_cons (ps_fld (pv 0) pe_int rfl)
      (pss_cons (ps_fld (pv 0) pe_str rfl)
      (pss_one (ps_fld (pv 0) (pe_gi T.g_KIND_NULL) rfl)))))))), ?_⟩
    refine ⟨_, rfl, p, C, dx, l, rfl, hp, T.clC, T.n_state, by omega, ?_⟩
    refine ⟨by decide, fun l1 h1 => ?_⟩
    have n1 : p ≠ l1 := ne_of_none upd_same h1
    have f1 : H l1 = none := by rw [upd_ne n1.symm] at h1; exact h1
    refine ⟨_, rfl, p, C, dx, _, rfl, (by rw [upd_ne n1]; exact upd_same), T.clC, T.n_nested, Nat.lt_of_le_of_lt (put_len hlen) (by decide), ?_⟩
    refine ⟨by decide, fun l2 h2 => ?_⟩
    have n2 : p ≠ l2 := ne_of_none upd_same h2
    have m2 : l1 ≠ l2 := ne_of_none (by rw [upd_ne n1.symm]; exact upd_same) h2
    refine ⟨l2, 8, _, rfl, rfl, upd_same, by decide, by decide, by decide, fun l3 h3 => ?_⟩
    have n3 : p ≠ l3 := ne_of_none (by rw [upd_ne n2]; exact upd_same) h3
    have m3 : l1 ≠ l3 := ne_of_none (by rw [upd_ne m2, upd_ne n1.symm]; exact upd_same) h3
    have o3 : l2 ≠ l3 := ne_of_none upd_same h3
    have f3 : H l3 = none := by
      rw [upd_ne o3.symm, upd_ne n3.symm, upd_ne m3.symm, upd_ne n3.symm] at h3
      exact h3
    have f2 : H l2 = none := by
      rw [upd_ne n2.symm, upd_ne m2.symm, upd_ne n2.symm] at h2
      exact h2
    refine ⟨_, rfl, p, C, dx, _, rfl, (by rw [upd_ne n3, upd_ne n2]; exact upd_same), T.clC, T.n_counts, Nat.lt_of_le_of_lt (put_len (put_len hlen)) (by decide), ?_⟩
    refine ⟨_, rfl, p, C, dx, _, rfl, upd_same, T.clC, T.n_in_key, Nat.lt_of_le_of_lt (put_len (put_len (put_len hlen))) (by decide), ?_⟩
    refine ⟨_, rfl, p, C, dx, _, rfl, upd_same, T.clC, T.n_digits_left, Nat.lt_of_le_of_lt (put_len (put_len (put_len (put_len hlen)))) (by decide), ?_⟩
    refine ⟨_, rfl, p, C, dx, _, rfl, upd_same, T.clC, T.n_word_rest, Nat.lt_of_le_of_lt (put_len (put_len (put_len (put_len (put_len hlen))))) (by decide), ?_⟩
    refine ⟨_, rfl, p, C, dx, _, rfl, upd_same, T.clC, T.n_word_kind, Nat.lt_of_le_of_lt (put_len (put_len (put_len (put_len (put_len (put_len hlen)))))) (by decide), ?_⟩
    refine k _ l1 l3 ⟨⟨dx, Eq.trans upd_same (congrArg (fun q => some (HO.ins C dx q)) (begin_fs hl l1 l3))⟩, ?_, ?_, m3⟩ f1 f3 fun b o hb hbp => ?_
    · rw [upd_ne n1.symm, upd_ne n1.symm, upd_ne n1.symm, upd_ne n1.symm, upd_ne n1.symm, upd_ne m3, upd_ne m2, upd_ne n1.symm]
      exact upd_same
    · rw [upd_ne n3.symm, upd_ne n3.symm, upd_ne n3.symm, upd_ne n3.symm, upd_ne n3.symm]
      exact upd_same
    · rw [upd_ne hbp, upd_ne hbp, upd_ne hbp, upd_ne hbp, upd_ne hbp, upd_ne (ne_of_none hb f3), upd_ne (ne_of_none hb f2), upd_ne hbp, upd_ne (ne_of_none hb f1), upd_ne hbp]
      exact hb
theorem ok_init {fI : Addr} {fdI fdB : FuncData} (F : Fun K "__init__" "Reader.__init__" s_Reader_init fI fdI) (T : Txt K mg C aSp aSt fB fs) (g_begin : FnOk P w K mg base CX0 1 fB fdB ["self"] (spBegin C)) (b_begin : Binds K fdB ["self"] []) :
    FnOk P w K mg base CX0 2 fI fdI ["self"] (spInit C) := by
  refine F.ok sc_Reader_init (fun vs H Q E h => ?_) (fun cdv A outer sh H vs Q E hr h => ?_)
  · obtain ⟨p, dx, rfl, _⟩ := h; rfl
  · obtain ⟨p, dx, rfl, hp, k⟩ := h
    refine ⟨_, (pss_one (ps_expr (pe_meth0 (pv 0) T.clC T.m_begin g_begin (hr.mono (by decide)) b_begin .nil pass0))), ?_⟩
    exact ⟨_, rfl, p, dx, _, rfl, hp, rfl, p, dx, _, rfl, hp, .inl rfl, k⟩
theorem ok_clear {f : Addr} {fdB : FuncData} (D : Df K mg "clear" s_clear ["reader"] f) (T : Txt K mg C aSp aSt fB fs) (g_begin : FnOk P w K mg base CX0 1 fB fdB ["self"] (spBegin C)) (b_begin : Binds K fdB ["self"] []) :
    Fn P w K mg base 2 "clear" ["reader"] f (spClear C) := by
  refine D.fn sc_clear (fun vs H Q E h => ?_) (fun cdv A outer sh H vs Q E hr h => ?_)
  · obtain ⟨r, ln, lc, m, s, rfl, _⟩ := h; rfl
  · obtain ⟨r, ln, lc, m, s, rfl, R, k⟩ := h
    obtain ⟨dx, hO⟩ := R.ob
    refine ⟨_, (pss_cons (ps_expr (pe_meth0 (pv 0) T.clC T.m_begin g_begin (hr.mono (by decide)) b_begin .nil pass0))
      (pss_one (ps_ret (pe_fld (pv 0) rfl)))), ?_⟩
    refine ⟨_, rfl, r, dx, _, rfl, hO, lk_begin, r, dx, _, rfl, hO, .inr ⟨_, _, _, _, _, _, _, rfl⟩, fun H1 ln1 lc1 R1 f1 f2 kp => ?_⟩
    obtain ⟨dx1, hO1⟩ := R1.ob
    exact ⟨_, rfl, r, C, dx1, _, _, rfl, hO1, T.clC, T.n_state, lk_state, k _ _ _ R1 f1 f2 kp⟩
end
end JS
set_option maxHeartbeats 4000000
namespace JS
open PySem L2
/-- how many numbers the next call has -/
def spLen (K : PySem.W.Frag) : Sp := fun vs H Q _ => ∃ (a : Addr) (l : List Int) (n : Nat), vs = [.ref a, .int (n : Int)] ∧ SqL K H a (l.map V.int) ∧ (∃ call : List Int, l.drop n = call ++ l.drop (n + call.length) ∧ CallOk call) ∧ ∀ H', Same H H' → Q (.int (callLen (l.drop n))) H'
/-- a call's own numbers in, a new list of what is answered out -/
def spAns (C : Addr) : Sp := fun vs H Q _ => ∃ (r ln lc d : Addr) (m : Int) (s : RS) (call : List Int), vs = [.ref r, .ref d] ∧ RdAt C H r ln lc m s ∧ (∃ a, Rel m s a) ∧ H d = some (.lst (call.map V.int)) ∧ d ≠ ln ∧ d ≠ lc ∧ CallOk call ∧
  ∀ (H' : Hp) (ln' lc' nl : Addr), RdAt C H' r ln' lc' (answerM m s call).1.2 (answerM m s call).1.1 → H' nl = some (.lst ((answerM m s call).2.map V.int)) → nl ≠ ln' → nl ≠ lc' → H nl = none → (ln' = ln ∨ H ln' = none) → (lc' = lc ∨ H lc' = none) → Kp H H' r ln lc → Q (.ref nl) H'
def spAnswers (K : PySem.W.Frag) : Sp := fun vs H Q _ => ∃ (a : Addr) (l : List Int), vs = [.ref a] ∧ SqL K H a (l.map V.int) ∧ l.length ≤ 30000 ∧ PySf08.answers_asked l = true ∧ ∀ (H' : Hp) (p : Addr), H' p = some (.lst ((PySf08.answers l).map V.int)) → Q (.ref p) H'
theorem cut_call {l call : List Int} {n : Nat} (e : l.drop n = call ++ l.drop (n + call.length)) (h : n + call.length ≤ l.length) : cutV (l.map V.int) (some (n : Int)) (some ((n : Int) + (call.length : Int))) = call.map V.int := by
  unfold cutV
  have e2 : ((n : Int) + (call.length : Int)) = ((n + call.length : Nat) : Int) := by omega
  rw [e2, HT.sIx_nat, HT.sIx_nat, List.length_map, Nat.min_eq_left h, Nat.min_eq_left (show n ≤ l.length by omega)]
  have e3 : n + call.length - n = call.length := by omega
  rw [e3, ← List.map_drop, ← List.map_take, e, List.take_left']
  rfl
theorem ans_len {m : Int} {s : RS} {call : List Int} (h : CallOk call) : (answerM m s call).2.length ≤ 20 := by
  cases h with
  | clear => exact Nat.le_of_ble_eq_true rfl
  | take k c =>
    show (if 0 ≤ c ∧ c ≤ 255 then (stepM m.toNat s c, [(stepM m.toNat s c).2]) else ((s, m), [-1])).2.length ≤ 20
    split <;> exact Nat.le_of_ble_eq_true rfl
  | run d _ _ => exact Nat.le_of_ble_eq_true rfl
  | of k => exact Nat.le_of_ble_eq_true rfl
  | table => exact Nat.le_of_ble_eq_true rfl
  | ends => exact Nat.le_of_ble_eq_true rfl
  | depth => exact Nat.le_of_ble_eq_true rfl
  | seen k => exact Nat.le_of_ble_eq_true rfl
section
variable {P : Program} {w : World} {K : PySem.W.Frag} {mg : Str → Option Value} {base : Heap} {C aSp aSt fB : Addr} {fs : List Addr}
/-- between two calls -/
structure Loop (K : PySem.W.Frag) (C : Addr) (H0 : Hp) (l : List Int) (r tl ln lc : Addr) (n : Nat) (told : List Int) (m : Int) (s : RS) (H : Hp) : Prop where
  at_ : At l n told m s
  rd : RdAt C H r ln lc m s
  tl_ : H tl = some (.lst (told.map V.int))
  tn : tl ≠ ln
  tc : tl ≠ lc
  same : Same H0 H
  fr : H0 r = none
  fn : H0 ln = none
  fc : H0 lc = none
  ft : H0 tl = none
theorem Loop.to {H0 : Hp} {l : List Int} {r tl ln lc : Addr} {n : Nat} {told : List Int} {m : Int} {s : RS} {H H' : Hp} (L : Loop K C H0 l r tl ln lc n told m s H) (a : Same H H') : Loop K C H0 l r tl ln lc n told m s H' :=
  ⟨L.at_, L.rd.same a, a _ _ L.tl_, L.tn, L.tc, L.same.trans a, L.fr, L.fn, L.fc, L.ft⟩
def lenOf (l : List Int) (σ : St) : Nat := match σ[3]? with
  | some (some (V.int n)) => l.length - n.toNat
  | _ => 0
theorem ok_answers {f fI f1 f2 : Addr} {fd fdI : FuncData} (F : Fun K "answers" "answers" s_answers f fd) (T : Txt K mg C aSp aSt fB fs) (MC : Mk K C fI) (gI : FnOk P w K mg base CX0 2 fI fdI ["self"] (spInit C)) (bI : Binds K fdI ["self"] [])
    (g_call_length : Fn P w K mg base 2 "call_length" ["calls", "at"] f1 (spLen K)) (g_answer : Fn P w K mg base 12 "answer" ["reader", "call"] f2 (spAns C)) : FnOk P w K mg base CX0 13 f fd ["calls"] (spAnswers K) := by
  refine F.ok sc_answers (fun vs H Q E h => ?_) (fun cdv A outer sh H vs Q E hr h => ?_)
  · obtain ⟨a, l, rfl, _⟩ := h; rfl
  · obtain ⟨a, l, rfl, hS, hl, hq, k⟩ := h
    refine ⟨_, (pss_cons (ps_set (i := 1) sc_answers.nd rfl (Or.inl rfl) (pe_make0 MC gI (hr.mono (by decide)) rfl T.mC bI .nil pass0))
      (pss_cons (ps_set (i := 2) sc_answers.nd rfl (Or.inl rfl) (pe_lst pa_nil))
      (pss_cons (ps_set (i := 3) sc_answers.nd rfl (Or.inl rfl) pe_int)
      (pss_cons (ps_while PassesOwn.never (pt_cmpR op_lt (pv 3) (pe_callB call_len_seq rfl T.b_len PySem.boot_len (pa_cons (pv 0) pa_nil)) (nomark _)) (pss_cons (ps_set (i := 4) sc_answers.nd rfl (Or.inl rfl) (pe_callF g_call_length (hr.mono (by decide)) (pa_cons (pv 0) (pa_cons (pv 3) pa_nil))))
      (pss_cons (ps_set (i := 5) sc_answers.nd rfl (Or.inl rfl) (pe_callF g_answer (hr.mono (by decide)) (pa_cons (pv 1) (pa_cons (pe_slice sl_list (pv 0) (po_some (pv 3)) (po_some (pe_op op_add (pv 3) (pv 4)))) pa_nil))))
      (pss_cons (ps_expr (pe_bm PySem.F.plainAttrs_list PySem.F.slot_list_append PySem.F.type_list_append mt_append (pv 2) (pa_cons (pe_callB call_len_seq rfl T.b_len PySem.boot_len (pa_cons (pv 5) pa_nil)) pa_nil)))
      (pss_cons (ps_expr (pe_bm PySem.F.plainAttrs_list PySem.F.slot_list_extend PySem.F.type_list_extend mt_extend (pv 2) (pa_cons (pv 5) pa_nil)))
      (pss_one (ps_aug (i := 3) sc_answers.nd rfl (Or.inl rfl) (pv 4) ip_add)))))))
      (pss_one (ps_ret (pv 2))))))), ?_⟩
    intro x dx nx ndx nex
    refine ⟨x, dx, rfl, upd_same, fun H1 ln lc R1 f1 f2 kp => ⟨rfl, ?_⟩⟩
    have s0 : Same H (upd (upd H dx (.own x)) x (.ins C dx [])) := fun b o e => by
      rw [upd_ne (ne_of_none e nx), upd_ne (ne_of_none e ndx)]
      exact e
    have s1 : Same H H1 := Same.made nx ndx kp
    refine ⟨by decide, fun tl htl => ?_⟩
    have t1 : tl ≠ ln := (ne_of_none R1.nst htl).symm
    have t2 : tl ≠ lc := (ne_of_none R1.cnt htl).symm
    have s2 : Same H1 (upd H1 tl (.lst [])) := fun b o e => by rw [upd_ne (ne_of_none e htl)]; exact e
    refine while_by (fun σ H2 => ∃ (ln lc : Addr) (n : Nat) (told : List Int) (m : Int) (s : RS) (v4 v5 : Option V), σ = [some (.ref a), some (.ref x), some (.ref tl), some (.int (n : Int)), v4, v5] ∧ Loop K C H l x tl ln lc n told m s H2) (fun σ _ => lenOf l σ)
      ⟨ln, lc, 0, [], 0, start, none, none, rfl, at_start hq, R1.same s2, upd_same, t1, t2, s1.trans s2, nx, s0.free f1, s0.free f2, s1.free htl⟩ ?_
      (fun σ H Q Q' hm h => by
        obtain ⟨v, h1, w, h2, p, ys, h3, h4, i, j, h5, h6, k, h7, h8⟩ := h
        exact ⟨v, h1, w, h2, p, ys, h3, h4, i, j, h5, h6, k, h7, hm _ _ h8⟩)
    rintro σ H2 ⟨ln, lc, n, told, m, s, v4, v5, rfl, L⟩
    have hS2 : SqL K H2 a (l.map V.int) := L.same.seq hS
    refine ⟨_, rfl, _, rfl, a, _, rfl, .inl hS2, _, _, rfl, rfl, _, rfl, ite2 (fun e => ?_) (fun e => ?_)⟩
    · have e' : (n : Int) < ((l.map V.int).length : Int) := of_decide_eq_true e
      rw [List.length_map] at e'
      have hn : n < l.length := by omega
      obtain ⟨call, hd, ok, hlen, hle, h1, hat⟩ := turn_call L.at_ hn hl
      obtain ⟨hb1, _⟩ := at_len L.at_
      have h20 : (answerM m s call).2.length ≤ 20 := ans_len ok
      -- length = call_length(calls, at)
      refine ⟨_, rfl, _, rfl, a, l, n, rfl, hS2, ⟨call, hd, ok⟩, fun H2' sm => ?_⟩
      rw [hlen]
      replace L := L.to sm
      clear hS2 sm
      clear H2
      rename Hp => H2
      have hS2 : SqL K H2 a (l.map V.int) := L.same.seq hS
      -- numbers = answer(reader, calls[at:at + length])
      refine ⟨_, rfl, _, rfl, _, rfl, _, rfl, _, rfl, _, rfl, _, _, rfl, rfl, _, rfl, a, _, rfl, hS2, fun d hdn => ?_⟩
      have s3 : Same H2 (upd H2 d (.lst (cutV (l.map V.int) (some (n : Int)) (some ((n : Int) + (call.length : Int)))))) := fun b o e => by rw [upd_ne (ne_of_none e hdn)]; exact e
      have dn : d ≠ ln := (ne_of_none L.rd.nst hdn).symm
      have dc : d ≠ lc := (ne_of_none L.rd.cnt hdn).symm
      refine ⟨x, ln, lc, d, m, s, call, rfl, L.rd.same s3, at_rel L.at_, by rw [upd_same, cut_call hd hle], dn, dc, ok, fun H3 ln3 lc3 nl R3 hnl nn nc fnl hln hlc kp3 => ?_⟩
      have fnl2 : H2 nl = none := s3.free fnl
      have t3 : H3 tl = some (.lst (told.map V.int)) := by
        obtain ⟨dx2, hO2⟩ := L.rd.ob
        exact kp3 tl _ (s3 _ _ L.tl_) (ne_of L.tl_ hO2 (by intro q; cases q)) L.tn L.tc
      have tnl : tl ≠ nl := ne_of_none L.tl_ fnl2
      have tn3 : tl ≠ ln3 := by
        rcases hln with q | q
        · rw [q]; exact L.tn
        · exact ne_of_none L.tl_ (s3.free q)
      have tc3 : tl ≠ lc3 := by
        rcases hlc with q | q
        · rw [q]; exact L.tc
        · exact ne_of_none L.tl_ (s3.free q)
      have txr : tl ≠ x := by
        obtain ⟨dx2, hO2⟩ := R3.ob
        exact ne_of t3 hO2 (by intro q; cases q)
      have sm3 : Same H H3 := fun b o e => kp3 b o (s3 _ _ (L.same _ _ e)) (ne_of_none e L.fr) (ne_of_none e L.fn) (ne_of_none e L.fc)
      have fn3 : H ln3 = none := by
        rcases hln with q | q
        · rw [q]; exact L.fn
        · exact L.same.free (s3.free q)
      have fc3 : H lc3 = none := by
        rcases hlc with q | q
        · rw [q]; exact L.fc
        · exact L.same.free (s3.free q)
      -- told.append(len(numbers))
      refine ⟨_, rfl, .inl ⟨rfl, _, SqL.of t3⟩, _, rfl, nl, _, rfl, .inl (SqL.of hnl), tl, _, _, rfl, rfl, t3, ?_, ?_⟩
      · rw [List.length_map]
        exact Nat.lt_of_le_of_lt hb1 (by decide)
      -- told.extend(numbers)
      refine ⟨_, rfl, .inl ⟨rfl, _, SqL.of upd_same⟩, _, rfl, tl, nl, _, _, rfl, rfl, upd_same, by rw [upd_ne tnl.symm]; exact hnl, ?_, ?_⟩
      · rw [List.length_append, List.length_map, List.length_map, List.length_cons, List.length_nil]
        exact Nat.le_trans (show told.length + (0 + 1) + (answerM m s call).2.length ≤ 105021 by omega) (by decide)
      -- at += length
      refine ⟨_, rfl, _, rfl, _, _, rfl, rfl, ?_⟩
      rw [upd_upd]
      refine ⟨⟨ln3, lc3, n + call.length, _, _, _, some (V.int (call.length : Int)), some (V.ref nl), ?_, hat, ?_, ?_, tn3, tc3, ?_, L.fr, fn3, fc3, L.ft⟩, ?_⟩
      · have e2 : ((n : Int) + (call.length : Int)) = ((n + call.length : Nat) : Int) := by omega
        show [some (V.ref a), some (V.ref x), some (V.ref tl), some (V.int ((n : Int) + (call.length : Int))), some (V.int (call.length : Int)), some (V.ref nl)] = _
        rw [e2]
      · obtain ⟨dx3, hO3⟩ := R3.ob
        exact ⟨⟨dx3, by rw [upd_ne txr.symm]; exact hO3⟩, by rw [upd_ne tn3.symm]; exact R3.nst, by rw [upd_ne tc3.symm]; exact R3.cnt, R3.ne⟩
      · rw [upd_same, List.length_map, List.map_append, List.map_cons, List.append_assoc]
        rfl
      · exact fun b o e => by rw [upd_ne (ne_of_none e L.ft)]; exact sm3 b o e
      · show l.length - ((n : Int) + (call.length : Int)).toNat < l.length - ((n : Int)).toNat
        omega
    · have e' : ¬ (n : Int) < ((l.map V.int).length : Int) := fun q => e (decide_eq_true q)
      rw [List.length_map] at e'
      have et : told = PySf08.answers l := at_end L.at_ (by omega)
      exact ⟨_, rfl, k _ _ (by rw [← et]; exact L.tl_)⟩
end
end JS
set_option maxHeartbeats 4000000
namespace JS
open PySem L2
def spTable : Sp := fun vs H Q _ => vs = [] ∧ ∀ (H' : Hp) (nl : Addr), Same H H' → H nl = none → H' nl = some (.lst (tableM.map V.int)) → Q (.ref nl) H'
def spEnds (C : Addr) : Sp := fun vs H Q _ => ∃ (r ln lc : Addr) (m : Int) (s : RS), vs = [.ref r] ∧ RdAt C H r ln lc m s ∧ ∀ H', Same H H' → Q (.int (if endsM m s = true then 1 else 0)) H'
def spDepth (C : Addr) : Sp := fun vs H Q _ => ∃ (r ln lc : Addr) (m : Int) (s : RS), vs = [.ref r] ∧ RdAt C H r ln lc m s ∧ Q (.int (s.nested.length : Int)) H
def spSeen (C : Addr) : Sp := fun vs H Q _ => ∃ (r ln lc : Addr) (m : Int) (s : RS) (k : Int), vs = [.ref r, .int k] ∧ RdAt C H r ln lc m s ∧ s.counts.length = 8 ∧ Q (.int (seenM s k)) H
theorem one_fits (v : V) : [v].length ≤ sizeLine := (by decide : 1 ≤ sizeLine)
theorem same_new {H : Hp} {a : Addr} {o : HO} (h : H a = none) : Same H (upd H a o) := fun b u e => by rw [upd_ne (ne_of_none e h)]; exact e
section
variable {P : Program} {w : World} {K : PySem.W.Frag} {mg : Str → Option Value} {base : Heap} {C aSp aSt fB : Addr} {fs : List Addr}
theorem ok_table {f : Addr} (D : Df K mg "table" s_table [] f) (T : Txt K mg C aSp aSt fB fs) : Fn P w K mg base 1 "table" [] f spTable := by
  refine D.fn sc_table (fun vs H Q E h => ?_) (fun cdv A outer sh H vs Q E hr h => ?_)
  · obtain ⟨rfl, _⟩ := h; rfl
  · obtain ⟨rfl, k⟩ := h
    refine ⟨_, (pss_one (ps_ret (pe_op op_cat (pe_lst (pa_cons pe_int pa_nil)) (pe_callTy (call_list_rng rfl) rfl T.b_list PyProof.Rows.boot_list (pa_cons (pe_callTy call_rng2 rfl T.b_range PyProof.Rows.boot_range (pa_cons (pe_gi T.g_VALUE) (pa_cons (pe_op op_add (pe_gi T.g_BAD) pe_int) pa_nil))) pa_nil))))), ?_⟩
    refine ⟨by decide, fun l0 h0 => ?_⟩
    refine ⟨_, _, rfl, rfl, _, _, rfl, fun p hp => ?_⟩
    refine ⟨p, _, _, rfl, upd_same, ⟨by decide, by decide, by decide, by decide⟩, by decide, fun l hl => ?_⟩
    have n1 : l0 ≠ p := ne_of_none upd_same hp
    have n2 : l0 ≠ l := ne_of_none (by rw [upd_ne n1]; exact upd_same) hl
    refine ⟨l0, l, _, _, rfl, rfl, by rw [upd_ne n2, upd_ne n1]; exact upd_same, upd_same, by decide, fun nl hnl => ?_⟩
    have sm := (same_new (o := .lst [V.int 0]) h0).trans ((same_new (o := .rng 0 (18 + 1)) hp).trans (same_new (o := .lst ((rngV 0 ((18 : Int) + 1 - 0).toNat).map V.int)) hl))
    exact k _ nl (sm.trans (same_new hnl)) (sm.free hnl) upd_same
theorem ok_ends {f : Addr} (D : Df K mg "ends" s_ends ["reader"] f) (T : Txt K mg C aSp aSt fB fs) : Fn P w K mg base 1 "ends" ["reader"] f (spEnds C) := by
  refine D.fn sc_ends (fun vs H Q E h => ?_) (fun cdv A outer sh H vs Q E hr h => ?_)
  · obtain ⟨r, ln, lc, m, s, rfl, _⟩ := h; rfl
  · obtain ⟨r, ln, lc, m, s, rfl, R, k⟩ := h
    obtain ⟨dx, hO⟩ := R.ob
    refine ⟨_, (pss_cons (ps_if (pt_cmpR op_gt (pe_callB call_len_seq rfl T.b_len PySem.boot_len (pa_cons (pe_fld (pv 0) rfl) pa_nil)) pe_int (nomark _)) (pss_one (ps_ret pe_int)) pss_nil)
      (pss_one (ps_ret (pe_ifExp (pt_cmpR op_in_seq (pe_fld (pv 0) rfl) (pe_tup (pa_cons (pe_gi T.g_AFTER) (pa_cons (pe_gi T.g_ZERO) (pa_cons (pe_gi T.g_WHOLE) (pa_cons (pe_gi T.g_FRACTION) (pa_cons (pe_gi T.g_EXPONENT) pa_nil)))))) (by with_unfolding_all rfl)) pe_int pe_int)))), ?_⟩
    unfold endsM at k
    refine ⟨_, rfl, r, C, dx, _, _, rfl, hO, T.clC, T.n_nested, lk_nested, ln, _, rfl, .inl (SqL.of R.nst), _, _, rfl, rfl, _, rfl, ite2 (fun e => ?_) (fun e => ?_)⟩
    · have e' := of_decide_eq_true e
      rw [List.length_map] at e'
      rw [decide_eq_false (show ¬ s.nested.length = 0 by omega), Bool.false_and, if_neg Bool.false_ne_true] at k
      exact k _ (Same.refl H)
    · have e' : ¬ ((s.nested.map V.int).length : Int) > 0 := fun q => e (decide_eq_true q)
      rw [List.length_map] at e'
      rw [decide_eq_true (show s.nested.length = 0 by omega), Bool.true_and] at k
      refine ⟨_, rfl, r, C, dx, _, _, rfl, hO, T.clC, T.n_state, lk_state, by decide, fun t ht => ?_⟩
      refine ⟨t, _, rfl, .inr (SqT.of upd_same), rfl, flat_ints [5, 10, 11, 13, 16], _, rfl, if_in (ns := [5, 10, 11, 13, 16]) (fun e => ?_) (fun e => ?_)⟩
      · rw [if_pos (decide_eq_true e)] at k
        exact k _ (same_new ht)
      · rw [if_neg (fun q => e (of_decide_eq_true q))] at k
        exact k _ (same_new ht)
theorem ok_depth {f : Addr} (D : Df K mg "depth" s_depth ["reader"] f) (T : Txt K mg C aSp aSt fB fs) : Fn P w K mg base 1 "depth" ["reader"] f (spDepth C) := by
  refine D.fn sc_depth (fun vs H Q E h => ?_) (fun cdv A outer sh H vs Q E hr h => ?_)
  · obtain ⟨r, ln, lc, m, s, rfl, _⟩ := h; rfl
  · obtain ⟨r, ln, lc, m, s, rfl, R, k⟩ := h
    obtain ⟨dx, hO⟩ := R.ob
    refine ⟨_, (pss_one (ps_ret (pe_callB call_len_seq rfl T.b_len PySem.boot_len (pa_cons (pe_fld (pv 0) rfl) pa_nil)))), ?_⟩
    refine ⟨_, rfl, r, C, dx, _, _, rfl, hO, T.clC, T.n_nested, lk_nested, ln, _, rfl, .inl (SqL.of R.nst), ?_⟩
    rw [List.length_map]
    exact k
theorem ok_seen {f : Addr} (D : Df K mg "seen" s_seen ["reader", "kind"] f) (T : Txt K mg C aSp aSt fB fs) : Fn P w K mg base 1 "seen" ["reader", "kind"] f (spSeen C) := by
  refine D.fn sc_seen (fun vs H Q E h => ?_) (fun cdv A outer sh H vs Q E hr h => ?_)
  · obtain ⟨r, ln, lc, m, s, c, rfl, _⟩ := h; rfl
  · obtain ⟨r, ln, lc, m, s, c, rfl, R, hl, k⟩ := h
    obtain ⟨dx, hO⟩ := R.ob
    refine ⟨_, (pss_cons (ps_if (PW.pt (pw_or (pt_cmpR op_lt (pv 1) pe_int (nomark _)) (pw_or1 (pt_cmpR op_ge (pv 1) (pe_gi T.g_KINDS) (nomark _))))) (pss_one (ps_ret (pe_gi T.g_REFUSED))) pss_nil)
      (pss_one (ps_ret (pe_op op_mod (pe_ix ix_list (pe_fld (pv 0) rfl) (pv 1) (fun _ _ => rfl)) (pe_gi T.g_COUNTS_TOLD))))), ?_⟩
    unfold seenM at k
    refine ⟨_, rfl, _, _, rfl, rfl, _, rfl, ite2 (fun e => ?_) (fun e => ?_)⟩
    · have e' : c < 0 := of_decide_eq_true e
      rw [if_neg (by omega)] at k
      exact iteT k
    have e1 : ¬ c < 0 := fun q => e (decide_eq_true q)
    refine ⟨_, rfl, _, _, rfl, rfl, _, rfl, ite2 (fun e => ?_) (fun e => ?_)⟩
    · have e2 : 8 ≤ c := of_decide_eq_true e
      rw [if_neg (by omega)] at k
      exact k
    have e2 : ¬ 8 ≤ c := fun q => e (decide_eq_true q)
    rw [if_pos (by omega)] at k
    exact ⟨_, rfl, r, C, dx, _, _, rfl, hO, T.clC, T.n_counts, lk_counts, _, rfl, lc, _, _, _, rfl, rfl, SqL.of R.cnt, (at_count hl (by omega) (by omega)).1, _, _, rfl, rfl, (by show (0 : Int) < 4294967296; decide), k⟩
theorem get_drop {l r : List Int} {n : Nat} {x : Int} (e : l.drop n = x :: r) : (l.map V.int)[n]? = some (V.int x) := by
  have q : (l.drop n)[0]? = some x := by rw [e]; rfl
  rw [List.getElem?_drop, Nat.add_zero] at q
  rw [List.getElem?_map, q]; rfl
theorem get_drop1 {l r : List Int} {n : Nat} {x y : Int} (e : l.drop n = x :: y :: r) : (l.map V.int)[n + 1]? = some (V.int y) := by
  have q : (l.drop n)[1]? = some y := by rw [e]; rfl
  rw [List.getElem?_drop] at q
  rw [List.getElem?_map, q]; rfl
theorem len_cases {l call : List Int} {n : Nat} (e : l.drop n = call ++ l.drop (n + call.length)) (h : CallOk call) :
    ∃ x : Int, (l.map V.int)[n]? = some (V.int x) ∧ (x = 2 → callLen (l.drop n) = 3) ∧ (x = 3 → ∃ d : Int, (l.map V.int)[n + 1]? = some (V.int d) ∧ callLen (l.drop n) = 2 + d) ∧ (x ∈ ([4, 8] : List Int) → callLen (l.drop n) = 2) ∧
      (¬ x = 2 → ¬ x = 3 → ¬ x ∈ ([4, 8] : List Int) → callLen (l.drop n) = 1) := by
  cases h with
  | clear => exact ⟨1, get_drop e, fun z => absurd z (by decide), fun z => absurd z (by decide), fun z => absurd z (by decide), fun _ _ _ => by rw [e]; rfl⟩
  | take k c => exact ⟨2, get_drop e, fun _ => by rw [e]; rfl, fun z => absurd z (by decide), fun z => absurd z (by decide), fun z => absurd rfl z⟩
  | run d h1 h2 => exact ⟨3, get_drop e, fun z => absurd z (by decide), fun _ => ⟨_, get_drop1 e, by rw [e]; rfl⟩, fun z => absurd z (by decide), fun _ z => absurd rfl z⟩
  | of k => exact ⟨4, get_drop e, fun z => absurd z (by decide), fun z => absurd z (by decide), fun _ => by rw [e]; rfl, fun _ _ z => absurd (by decide) z⟩
  | table => exact ⟨5, get_drop e, fun z => absurd z (by decide), fun z => absurd z (by decide), fun z => absurd z (by decide), fun _ _ _ => by rw [e]; rfl⟩
  | ends => exact ⟨6, get_drop e, fun z => absurd z (by decide), fun z => absurd z (by decide), fun z => absurd z (by decide), fun _ _ _ => by rw [e]; rfl⟩
  | depth => exact ⟨7, get_drop e, fun z => absurd z (by decide), fun z => absurd z (by decide), fun z => absurd z (by decide), fun _ _ _ => by rw [e]; rfl⟩
  | seen k => exact ⟨8, get_drop e, fun z => absurd z (by decide), fun z => absurd z (by decide), fun _ => by rw [e]; rfl, fun _ _ z => absurd (by decide) z⟩
theorem ok_call_length {f : Addr} (D : Df K mg "call_length" s_call_length ["calls", "at"] f) (T : Txt K mg C aSp aSt fB fs) : Fn P w K mg base 2 "call_length" ["calls", "at"] f (spLen K) := by
  refine D.fn sc_call_length (fun vs H Q E h => ?_) (fun cdv A outer sh H vs Q E hr h => ?_)
  · obtain ⟨a, l, n, rfl, _⟩ := h; rfl
  · obtain ⟨a, l, n, rfl, hS, ⟨call, hd, ok⟩, k⟩ := h
    obtain ⟨x, hx, k2, k3, k4, k1⟩ := len_cases hd ok
    refine ⟨_, (pss_cons (ps_if (pt_cmpR op_eq (pe_ix ix_list (pv 0) (pv 1) (fun _ _ => rfl)) (pe_gi T.g_CALL_TAKE) (nomark _)) (pss_one (ps_ret pe_int)) pss_nil)
      (pss_cons (ps_if (pt_cmpR op_eq (pe_ix ix_list (pv 0) (pv 1) (fun _ _ => rfl)) (pe_gi T.g_CALL_RUN) (nomark _)) (pss_one (ps_ret (pe_op op_add pe_int (pe_ix ix_list (pv 0) (pe_op op_add (pv 1) pe_int) (fun _ _ => rfl))))) pss_nil)
      (pss_cons (ps_if (pt_cmpR op_in_seq (pe_ix ix_list (pv 0) (pv 1) (fun _ _ => rfl)) (pe_tup (pa_cons (pe_gi T.g_CALL_OF) (pa_cons (pe_gi T.g_CALL_SEEN) pa_nil))) (by with_unfolding_all rfl)) (pss_one (ps_ret pe_int)) pss_nil)
      (pss_one (ps_ret pe_int))))), ?_⟩
    refine rd_ix hS rfl (fun Q h => ⟨_, rfl, h⟩) (atI_nat hx) (fun e => ?_) (fun e2 => ?_)
    · rw [k2 e] at k
      exact k _ (Same.refl H)
    refine rd_ix hS rfl (fun Q h => ⟨_, rfl, h⟩) (atI_nat hx) (fun e => ?_) (fun e3 => ?_)
    · obtain ⟨d, hd1, ed⟩ := k3 e
      rw [ed] at k
      exact ⟨_, rfl, _, rfl, _, _, rfl, rfl, a, _, _, _, rfl, rfl, hS, at_of (j := n + 1) (by omega) hd1, _, _, rfl, rfl, k _ (Same.refl H)⟩
    refine ⟨_, rfl, _, rfl, a, _, _, _, rfl, rfl, hS, atI_nat hx, by decide, fun t ht => ?_⟩
    refine ⟨t, _, rfl, .inr (SqT.of upd_same), rfl, flat_ints [4, 8], _, rfl, if_in (ns := [4, 8]) (fun e => ?_) (fun e4 => ?_)⟩
    · rw [k4 e] at k
      exact k _ (same_new ht)
    · rw [k1 e2 e3 e4] at k
      exact k _ (same_new ht)
theorem kp_free {H H1 : Hp} {r ln lc : Addr} {m : Int} {s : RS} (R : RdAt C H1 r ln lc m s) (kp : Kp H H1 r ln lc) {b : Addr} (h : H1 b = none) : H b = none := by
  cases q : H b with
  | none => rfl
  | some o =>
    obtain ⟨⟨dx, hO⟩, hn, hc, _⟩ := R
    have e := kp b o q (ne_of_none hO h).symm (ne_of_none hn h).symm (ne_of_none hc h).symm
    rw [h] at e
    cases e
/-- the answer's list is laid -/
theorem ans_fin {H H1 : Hp} {r ln lc ln1 lc1 nl : Addr} {m1 : Int} {s1 : RS} {xs : List Int} {Q : VK} (R1 : RdAt C H1 r ln1 lc1 m1 s1) (kp : Kp H H1 r ln lc) (hf : H nl = none) (h1 : ln1 = ln ∨ H ln1 = none) (h2 : lc1 = lc ∨ H lc1 = none) (hnl : H1 nl = none)
    (k : ∀ (H' : Hp) (ln' lc' nl : Addr), RdAt C H' r ln' lc' m1 s1 → H' nl = some (.lst (xs.map V.int)) → nl ≠ ln' → nl ≠ lc' → H nl = none → (ln' = ln ∨ H ln' = none) → (lc' = lc ∨ H lc' = none) → Kp H H' r ln lc → Q (.ref nl) H') :
    Q (.ref nl) (upd H1 nl (.lst (xs.map V.int))) :=
  k _ ln1 lc1 nl (R1.same (same_new hnl)) upd_same (ne_of_none R1.nst hnl).symm (ne_of_none R1.cnt hnl).symm hf h1 h2 (kp.trans (Kp.same (same_new hnl)))
theorem cut2 {x y : Int} {d : List Int} : cutV ((x :: y :: d).map V.int) (some 2) none = d.map V.int := by
  unfold cutV
  have e2 : ((2 : Int)) = ((2 : Nat) : Int) := rfl
  rw [e2, HT.sIx_nat, HT.sIx_none, List.length_map]
  have e3 : min 2 (x :: y :: d).length = 2 := by simp
  rw [e3]
  show (d.map V.int).take ((x :: y :: d).length - 2) = d.map V.int
  have e4 : (x :: y :: d).length - 2 = (d.map V.int).length := by simp
  rw [e4, List.take_length]
theorem ok_answer {f f1 f2 f3 f4 f5 f6 f7 f8 : Addr} (D : Df K mg "answer" s_answer ["reader", "call"] f) (T : Txt K mg C aSp aSt fB fs) (g_clear : Fn P w K mg base 2 "clear" ["reader"] f1 (spClear C)) (g_take : Fn P w K mg base 10 "take" ["reader", "c"] f2 (spTake C)) (g_run : Fn P w K mg base 10 "run" ["reader", "data"] f3 (spRun C))
    (g_state_of : Fn P w K mg base 1 "state_of" ["k"] f4 (spInt ofM)) (g_table : Fn P w K mg base 1 "table" [] f5 spTable) (g_ends : Fn P w K mg base 1 "ends" ["reader"] f6 (spEnds C)) (g_depth : Fn P w K mg base 1 "depth" ["reader"] f7 (spDepth C)) (g_seen : Fn P w K mg base 1 "seen" ["reader", "kind"] f8 (spSeen C)) :
    Fn P w K mg base 12 "answer" ["reader", "call"] f (spAns C) := by
  refine D.fn sc_answer (fun vs H Q E h => ?_) (fun cdv A outer sh H vs Q E hr h => ?_)
  · obtain ⟨r, ln, lc, d, m, s, call, rfl, _⟩ := h; rfl
  · obtain ⟨r, ln, lc, d, m, s, call, rfl, R, hR, hd, dn, dc, ok, k⟩ := h
    refine ⟨_, (pss_cons (ps_if (pt_cmpR op_eq (pe_ix ix_list (pv 1) pe_int (fun _ _ => rfl)) (pe_gi T.g_CALL_CLEAR) (nomark _)) (pss_one (ps_ret (pe_lst (pa_cons (pe_callF g_clear (hr.mono (by decide)) (pa_cons (pv 0) pa_nil)) pa_nil)))) pss_nil)
      (pss_cons (ps_if (pt_cmpR op_eq (pe_ix ix_list (pv 1) pe_int (fun _ _ => rfl)) (pe_gi T.g_CALL_TAKE) (nomark _)) (pss_one (ps_ret (pe_lst (pa_cons (pe_callF g_take (hr.mono (by decide)) (pa_cons (pv 0) (pa_cons (pe_ix ix_list (pv 1) pe_int (fun _ _ => rfl)) pa_nil))) pa_nil)))) pss_nil)
      (pss_cons (ps_if (pt_cmpR op_eq (pe_ix ix_list (pv 1) pe_int (fun _ _ => rfl)) (pe_gi T.g_CALL_RUN) (nomark _)) (pss_one (ps_ret (pe_lst (pa_cons (pe_callF g_run (hr.mono (by decide)) (pa_cons (pv 0) (pa_cons (pe_slice sl_list (pv 1) (po_some pe_int) po_none) pa_nil))) pa_nil)))) pss_nil)
      (pss_cons (ps_if (pt_cmpR op_eq (pe_ix ix_list (pv 1) pe_int (fun _ _ => rfl)) (pe_gi T.g_CALL_OF) (nomark _)) (pss_one (ps_ret (pe_lst (pa_cons (pe_callF g_state_of (hr.mono (by decide)) (pa_cons (pe_ix ix_list (pv 1) pe_int (fun _ _ => rfl)) pa_nil)) pa_nil)))) pss_nil)
      (pss_cons (ps_if (pt_cmpR op_eq (pe_ix ix_list (pv 1) pe_int (fun _ _ => rfl)) (pe_gi T.g_CALL_TABLE) (nomark _)) (pss_one (ps_ret (pe_callF0 g_table (hr.mono (by decide))))) pss_nil)
      (pss_cons (ps_if (pt_cmpR op_eq (pe_ix ix_list (pv 1) pe_int (fun _ _ => rfl)) (pe_gi T.g_CALL_ENDS) (nomark _)) (pss_one (ps_ret (pe_lst (pa_cons (pe_callF g_ends (hr.mono (by decide)) (pa_cons (pv 0) pa_nil)) pa_nil)))) pss_nil)
      (pss_cons (ps_if (pt_cmpR op_eq (pe_ix ix_list (pv 1) pe_int (fun _ _ => rfl)) (pe_gi T.g_CALL_DEPTH) (nomark _)) (pss_one (ps_ret (pe_lst (pa_cons (pe_callF g_depth (hr.mono (by decide)) (pa_cons (pv 0) pa_nil)) pa_nil)))) pss_nil)
      (pss_one (ps_ret (pe_lst (pa_cons (pe_callF g_seen (hr.mono (by decide)) (pa_cons (pv 0) (pa_cons (pe_ix ix_list (pv 1) pe_int (fun _ _ => rfl)) pa_nil))) pa_nil))))))))))), ?_⟩
    have one : ∀ (x n : Int) (y : List Int) (t u : TS) (D : Ends), call = x :: y → (x = n → t D [some (.ref r), some (.ref d)] H) → (¬ x = n → u D [some (.ref r), some (.ref d)] H) →
        tIfS (tTest (tOp rEq (tOp (rIxL K) (tVar 1) (tC (.int 0))) (tC (.int n)))) t u D [some (.ref r), some (.ref d)] H := fun x n y t u D e h1 h2 =>
      rd_ix (SqL.of hd) rfl (fun Q h => h) (at_of (j := 0) rfl (by rw [e]; rfl)) h1 h2
    have fin : ∀ {H1 : Hp} {ln1 lc1 nl : Addr} {m1 : Int} {s1 : RS} {xs : List Int}, RdAt C H1 r ln1 lc1 m1 s1 → Kp H H1 r ln lc → H nl = none → (ln1 = ln ∨ H ln1 = none) → (lc1 = lc ∨ H lc1 = none) → H1 nl = none → answerM m s call = ((s1, m1), xs) → Q (.ref nl) (upd H1 nl (.lst (xs.map V.int))) :=
      fun R1 kp hf h1 h2 hnl e => by rw [e] at k; exact ans_fin R1 kp hf h1 h2 hnl k
    cases ok with
    | clear =>
      refine one 1 1 [] _ _ _ rfl (fun _ => ?_) (fun z => absurd rfl z)
      refine ⟨_, rfl, r, ln, lc, m, s, rfl, R, fun H1 ln1 lc1 R1 q1 q2 kp => ⟨one_fits _, fun nl hnl => ?_⟩⟩
      have hf : H nl = none := by
        cases q : H nl with
        | none => rfl
        | some o =>
          obtain ⟨dx1, hO1⟩ := R1.ob
          have e := kp nl o q (ne_of_none hO1 hnl).symm
          rw [hnl] at e
          cases e
      exact fin (xs := [0]) R1 (fun b o hb n1 _ _ => kp b o hb n1) hf (.inr q1) (.inr q2) hnl rfl
    | take y c =>
      refine one 2 1 _ _ _ _ rfl (fun z => absurd z (by decide)) (fun _ => ?_)
      refine one 2 2 _ _ _ _ rfl (fun _ => ?_) (fun z => absurd rfl z)
      refine ⟨_, rfl, _, rfl, d, _, _, _, rfl, rfl, SqL.of hd, at_of (j := 2) (v := V.int c) rfl rfl, r, ln, lc, m, s, c, rfl, R, hR, fun q H1 R1 kp => ⟨one_fits _, fun nl hnl => ?_⟩, fun q => ⟨one_fits _, fun nl hnl => ?_⟩⟩
      · exact fin (xs := [(stepM m.toNat s c).2]) R1 kp (kp_free R1 kp hnl) (.inl rfl) (.inl rfl) hnl (if_pos q)
      · exact fin (xs := [-1]) R Kp.refl hnl (.inl rfl) (.inl rfl) hnl (if_neg q)
    | run b hb hl =>
      refine one 3 1 _ _ _ _ rfl (fun z => absurd z (by decide)) (fun _ => ?_)
      refine one 3 2 _ _ _ _ rfl (fun z => absurd z (by decide)) (fun _ => ?_)
      refine one 3 3 _ _ _ _ rfl (fun _ => ?_) (fun z => absurd rfl z)
      refine ⟨_, rfl, _, rfl, _, rfl, d, _, rfl, SqL.of hd, fun d1 h1 => ?_⟩
      have s1 := same_new (o := .lst (cutV ((3 :: (b.length : Int) :: b).map V.int) (some 2) none)) h1
      refine ⟨r, ln, lc, d1, m, s, b, rfl, R.same s1, hR, by rw [upd_same, cut2], (ne_of_none R.nst h1).symm, (ne_of_none R.cnt h1).symm, hb, by omega, fun H1 R1 kp => ⟨one_fits _, fun nl hnl => ?_⟩⟩
      exact fin (xs := [(runM m s b).2]) R1 ((Kp.same s1).trans kp) (s1.free (kp_free R1 kp hnl)) (.inl rfl) (.inl rfl) hnl rfl
    | of y =>
      refine one 4 1 _ _ _ _ rfl (fun z => absurd z (by decide)) (fun _ => ?_)
      refine one 4 2 _ _ _ _ rfl (fun z => absurd z (by decide)) (fun _ => ?_)
      refine one 4 3 _ _ _ _ rfl (fun z => absurd z (by decide)) (fun _ => ?_)
      refine one 4 4 _ _ _ _ rfl (fun _ => ?_) (fun z => absurd rfl z)
      exact ⟨_, rfl, d, _, _, _, rfl, rfl, SqL.of hd, at_of (j := 1) (v := V.int y) rfl rfl, y, rfl, one_fits _, fun nl hnl => fin (xs := [ofM y]) R Kp.refl hnl (.inl rfl) (.inl rfl) hnl rfl⟩
    | table =>
      refine one 5 1 _ _ _ _ rfl (fun z => absurd z (by decide)) (fun _ => ?_)
      refine one 5 2 _ _ _ _ rfl (fun z => absurd z (by decide)) (fun _ => ?_)
      refine one 5 3 _ _ _ _ rfl (fun z => absurd z (by decide)) (fun _ => ?_)
      refine one 5 4 _ _ _ _ rfl (fun z => absurd z (by decide)) (fun _ => ?_)
      refine one 5 5 _ _ _ _ rfl (fun _ => ?_) (fun z => absurd rfl z)
      exact ⟨rfl, fun H1 nl sm hf e => k H1 ln lc nl (R.same sm) e (ne_of_none R.nst hf).symm (ne_of_none R.cnt hf).symm hf (.inl rfl) (.inl rfl) (Kp.same sm)⟩
    | ends =>
      refine one 6 1 _ _ _ _ rfl (fun z => absurd z (by decide)) (fun _ => ?_)
      refine one 6 2 _ _ _ _ rfl (fun z => absurd z (by decide)) (fun _ => ?_)
      refine one 6 3 _ _ _ _ rfl (fun z => absurd z (by decide)) (fun _ => ?_)
      refine one 6 4 _ _ _ _ rfl (fun z => absurd z (by decide)) (fun _ => ?_)
      refine one 6 5 _ _ _ _ rfl (fun z => absurd z (by decide)) (fun _ => ?_)
      refine one 6 6 _ _ _ _ rfl (fun _ => ?_) (fun z => absurd rfl z)
      exact ⟨_, rfl, r, ln, lc, m, s, rfl, R, fun H1 sm => ⟨one_fits _, fun nl hnl => fin (xs := [if endsM m s = true then 1 else 0]) (R.same sm) (Kp.same sm) (sm.free hnl) (.inl rfl) (.inl rfl) hnl rfl⟩⟩
    | depth =>
      refine one 7 1 _ _ _ _ rfl (fun z => absurd z (by decide)) (fun _ => ?_)
      refine one 7 2 _ _ _ _ rfl (fun z => absurd z (by decide)) (fun _ => ?_)
      refine one 7 3 _ _ _ _ rfl (fun z => absurd z (by decide)) (fun _ => ?_)
      refine one 7 4 _ _ _ _ rfl (fun z => absurd z (by decide)) (fun _ => ?_)
      refine one 7 5 _ _ _ _ rfl (fun z => absurd z (by decide)) (fun _ => ?_)
      refine one 7 6 _ _ _ _ rfl (fun z => absurd z (by decide)) (fun _ => ?_)
      refine one 7 7 _ _ _ _ rfl (fun _ => ?_) (fun z => absurd rfl z)
      exact ⟨_, rfl, r, ln, lc, m, s, rfl, R, one_fits _, fun nl hnl => fin (xs := [(s.nested.length : Int)]) R Kp.refl hnl (.inl rfl) (.inl rfl) hnl rfl⟩
    | seen y =>
      refine one 8 1 _ _ _ _ rfl (fun z => absurd z (by decide)) (fun _ => ?_)
      refine one 8 2 _ _ _ _ rfl (fun z => absurd z (by decide)) (fun _ => ?_)
      refine one 8 3 _ _ _ _ rfl (fun z => absurd z (by decide)) (fun _ => ?_)
      refine one 8 4 _ _ _ _ rfl (fun z => absurd z (by decide)) (fun _ => ?_)
      refine one 8 5 _ _ _ _ rfl (fun z => absurd z (by decide)) (fun _ => ?_)
      refine one 8 6 _ _ _ _ rfl (fun z => absurd z (by decide)) (fun _ => ?_)
      refine one 8 7 _ _ _ _ rfl (fun z => absurd z (by decide)) (fun _ => ?_)
      obtain ⟨a, hA⟩ := hR
      exact ⟨_, rfl, _, rfl, d, _, _, _, rfl, rfl, SqL.of hd, at_of (j := 1) (v := V.int y) rfl rfl, r, ln, lc, m, s, y, rfl, R, (rel_wf hA).cl, one_fits _, fun nl hnl => fin (xs := [seenM s y]) R Kp.refl hnl (.inl rfl) (.inl rfl) hnl rfl⟩
end
end JS
set_option maxHeartbeats 4000000
namespace JS
open PySem L2
theorem vals_refs : ∀ fs : List Addr, Vals (fs.map V.ref) (fs.map Value.ref)
  | [] => .nil
  | _ :: r => .cons rfl (vals_refs r)
theorem all_mk {P : Program} {w : World} {K : PySem.W.Frag} {h : Heap} {mg : Str → Option Value} {fa : Addr} (X : K.In h) (G : h.Ns mainGlobals mg) (hfa : mg "answers" = some (.ref fa))
    {tk_VALUE : Tok}
    {tk_FIRST : Tok}
    {tk_MEMBER : Tok}
    {tk_KEY : Tok}
    {tk_COLON : Tok}
    {tk_AFTER : Tok}
    {tk_STRING : Tok}
    {tk_ESCAPE : Tok}
    {tk_HEX : Tok}
    {tk_MINUS : Tok}
    {tk_ZERO : Tok}
    {tk_WHOLE : Tok}
    {tk_POINT : Tok}
    {tk_FRACTION : Tok}
    {tk_E : Tok}
    {tk_SIGN : Tok}
    {tk_EXPONENT : Tok}
    {tk_WORD : Tok}
    {tk_BAD : Tok}
    {tk_KIND_NULL : Tok}
    {tk_KIND_FALSE : Tok}
    {tk_KIND_TRUE : Tok}
    {tk_KIND_NUMBER : Tok}
    {tk_KIND_STRING : Tok}
    {tk_KIND_ARRAY : Tok}
    {tk_KIND_OBJECT : Tok}
    {tk_KIND_KEY : Tok}
    {tk_KINDS : Tok}
    {tk_CALL_CLEAR : Tok}
    {tk_CALL_TAKE : Tok}
    {tk_CALL_RUN : Tok}
    {tk_CALL_OF : Tok}
    {tk_CALL_TABLE : Tok}
    {tk_CALL_ENDS : Tok}
    {tk_CALL_DEPTH : Tok}
    {tk_CALL_SEEN : Tok}
    {tk_REFUSED : Tok}
    {tk_MOST_NESTED : Tok}
    {tk_MOST_BYTES : Tok}
    {tk_HIGHEST_BYTE : Tok}
    {tk_HEX_DIGITS : Tok}
    {tk_COUNTS_TOLD : Tok}
    {C : Addr}
    {f_Reader_init : Addr} {od_Reader_init an_Reader_init : Option Addr} {sl_Reader_init : Array (Option Value)} {oc_Reader_init kV_Reader_init dc_Reader_init pm_Reader_init cd_Reader_init ct_Reader_init : Value}
    {f_Reader_begin : Addr} {od_Reader_begin an_Reader_begin : Option Addr} {sl_Reader_begin : Array (Option Value)} {oc_Reader_begin kV_Reader_begin dc_Reader_begin pm_Reader_begin cd_Reader_begin ct_Reader_begin : Value}
    {f_is_one_of : Addr} {od_is_one_of an_is_one_of : Option Addr} {sl_is_one_of : Array (Option Value)} {oc_is_one_of kV_is_one_of dc_is_one_of pm_is_one_of cd_is_one_of ct_is_one_of : Value}
    {f_is_digit : Addr} {od_is_digit an_is_digit : Option Addr} {sl_is_digit : Array (Option Value)} {oc_is_digit kV_is_digit dc_is_digit pm_is_digit cd_is_digit ct_is_digit : Value}
    {f_is_hex_digit : Addr} {od_is_hex_digit an_is_hex_digit : Option Addr} {sl_is_hex_digit : Array (Option Value)} {oc_is_hex_digit kV_is_hex_digit dc_is_hex_digit pm_is_hex_digit cd_is_hex_digit ct_is_hex_digit : Value}
    {f_end_value : Addr} {od_end_value an_end_value : Option Addr} {sl_end_value : Array (Option Value)} {oc_end_value kV_end_value dc_end_value pm_end_value cd_end_value ct_end_value : Value}
    {f_go_into : Addr} {od_go_into an_go_into : Option Addr} {sl_go_into : Array (Option Value)} {oc_go_into kV_go_into dc_go_into pm_go_into cd_go_into ct_go_into : Value}
    {f_close_innermost : Addr} {od_close_innermost an_close_innermost : Option Addr} {sl_close_innermost : Array (Option Value)} {oc_close_innermost kV_close_innermost dc_close_innermost pm_close_innermost cd_close_innermost ct_close_innermost : Value}
    {f_begin_string : Addr} {od_begin_string an_begin_string : Option Addr} {sl_begin_string : Array (Option Value)} {oc_begin_string kV_begin_string dc_begin_string pm_begin_string cd_begin_string ct_begin_string : Value}
    {f_begin_word : Addr} {od_begin_word an_begin_word : Option Addr} {sl_begin_word : Array (Option Value)} {oc_begin_word kV_begin_word dc_begin_word pm_begin_word cd_begin_word ct_begin_word : Value}
    {f_begin_digits : Addr} {od_begin_digits an_begin_digits : Option Addr} {sl_begin_digits : Array (Option Value)} {oc_begin_digits kV_begin_digits dc_begin_digits pm_begin_digits cd_begin_digits ct_begin_digits : Value}
    {f_take_value : Addr} {od_take_value an_take_value : Option Addr} {sl_take_value : Array (Option Value)} {oc_take_value kV_take_value dc_take_value pm_take_value cd_take_value ct_take_value : Value}
    {f_take_first : Addr} {od_take_first an_take_first : Option Addr} {sl_take_first : Array (Option Value)} {oc_take_first kV_take_first dc_take_first pm_take_first cd_take_first ct_take_first : Value}
    {f_take_member : Addr} {od_take_member an_take_member : Option Addr} {sl_take_member : Array (Option Value)} {oc_take_member kV_take_member dc_take_member pm_take_member cd_take_member ct_take_member : Value}
    {f_take_key : Addr} {od_take_key an_take_key : Option Addr} {sl_take_key : Array (Option Value)} {oc_take_key kV_take_key dc_take_key pm_take_key cd_take_key ct_take_key : Value}
    {f_take_colon : Addr} {od_take_colon an_take_colon : Option Addr} {sl_take_colon : Array (Option Value)} {oc_take_colon kV_take_colon dc_take_colon pm_take_colon cd_take_colon ct_take_colon : Value}
    {f_take_after : Addr} {od_take_after an_take_after : Option Addr} {sl_take_after : Array (Option Value)} {oc_take_after kV_take_after dc_take_after pm_take_after cd_take_after ct_take_after : Value}
    {f_take_after_item : Addr} {od_take_after_item an_take_after_item : Option Addr} {sl_take_after_item : Array (Option Value)} {oc_take_after_item kV_take_after_item dc_take_after_item pm_take_after_item cd_take_after_item ct_take_after_item : Value}
    {f_take_after_member : Addr} {od_take_after_member an_take_after_member : Option Addr} {sl_take_after_member : Array (Option Value)} {oc_take_after_member kV_take_after_member dc_take_after_member pm_take_after_member cd_take_after_member ct_take_after_member : Value}
    {f_take_string : Addr} {od_take_string an_take_string : Option Addr} {sl_take_string : Array (Option Value)} {oc_take_string kV_take_string dc_take_string pm_take_string cd_take_string ct_take_string : Value}
    {f_end_string : Addr} {od_end_string an_end_string : Option Addr} {sl_end_string : Array (Option Value)} {oc_end_string kV_end_string dc_end_string pm_end_string cd_end_string ct_end_string : Value}
    {f_take_escape : Addr} {od_take_escape an_take_escape : Option Addr} {sl_take_escape : Array (Option Value)} {oc_take_escape kV_take_escape dc_take_escape pm_take_escape cd_take_escape ct_take_escape : Value}
    {f_take_hex : Addr} {od_take_hex an_take_hex : Option Addr} {sl_take_hex : Array (Option Value)} {oc_take_hex kV_take_hex dc_take_hex pm_take_hex cd_take_hex ct_take_hex : Value}
    {f_take_minus : Addr} {od_take_minus an_take_minus : Option Addr} {sl_take_minus : Array (Option Value)} {oc_take_minus kV_take_minus dc_take_minus pm_take_minus cd_take_minus ct_take_minus : Value}
    {f_take_zero : Addr} {od_take_zero an_take_zero : Option Addr} {sl_take_zero : Array (Option Value)} {oc_take_zero kV_take_zero dc_take_zero pm_take_zero cd_take_zero ct_take_zero : Value}
    {f_take_whole : Addr} {od_take_whole an_take_whole : Option Addr} {sl_take_whole : Array (Option Value)} {oc_take_whole kV_take_whole dc_take_whole pm_take_whole cd_take_whole ct_take_whole : Value}
    {f_take_point : Addr} {od_take_point an_take_point : Option Addr} {sl_take_point : Array (Option Value)} {oc_take_point kV_take_point dc_take_point pm_take_point cd_take_point ct_take_point : Value}
    {f_take_fraction : Addr} {od_take_fraction an_take_fraction : Option Addr} {sl_take_fraction : Array (Option Value)} {oc_take_fraction kV_take_fraction dc_take_fraction pm_take_fraction cd_take_fraction ct_take_fraction : Value}
    {f_take_mark_or_end : Addr} {od_take_mark_or_end an_take_mark_or_end : Option Addr} {sl_take_mark_or_end : Array (Option Value)} {oc_take_mark_or_end kV_take_mark_or_end dc_take_mark_or_end pm_take_mark_or_end cd_take_mark_or_end ct_take_mark_or_end : Value}
    {f_take_e : Addr} {od_take_e an_take_e : Option Addr} {sl_take_e : Array (Option Value)} {oc_take_e kV_take_e dc_take_e pm_take_e cd_take_e ct_take_e : Value}
    {f_take_sign : Addr} {od_take_sign an_take_sign : Option Addr} {sl_take_sign : Array (Option Value)} {oc_take_sign kV_take_sign dc_take_sign pm_take_sign cd_take_sign ct_take_sign : Value}
    {f_take_exponent : Addr} {od_take_exponent an_take_exponent : Option Addr} {sl_take_exponent : Array (Option Value)} {oc_take_exponent kV_take_exponent dc_take_exponent pm_take_exponent cd_take_exponent ct_take_exponent : Value}
    {f_end_number : Addr} {od_end_number an_end_number : Option Addr} {sl_end_number : Array (Option Value)} {oc_end_number kV_end_number dc_end_number pm_end_number cd_end_number ct_end_number : Value}
    {f_take_word : Addr} {od_take_word an_take_word : Option Addr} {sl_take_word : Array (Option Value)} {oc_take_word kV_take_word dc_take_word pm_take_word cd_take_word ct_take_word : Value}
    {f_take_bad : Addr} {od_take_bad an_take_bad : Option Addr} {sl_take_bad : Array (Option Value)} {oc_take_bad kV_take_bad dc_take_bad pm_take_bad cd_take_bad ct_take_bad : Value}
    {f_step : Addr} {od_step an_step : Option Addr} {sl_step : Array (Option Value)} {oc_step kV_step dc_step pm_step cd_step ct_step : Value}
    {f_clear : Addr} {od_clear an_clear : Option Addr} {sl_clear : Array (Option Value)} {oc_clear kV_clear dc_clear pm_clear cd_clear ct_clear : Value}
    {f_take : Addr} {od_take an_take : Option Addr} {sl_take : Array (Option Value)} {oc_take kV_take dc_take pm_take cd_take ct_take : Value}
    {f_run : Addr} {od_run an_run : Option Addr} {sl_run : Array (Option Value)} {oc_run kV_run dc_run pm_run cd_run ct_run : Value}
    {f_state_of : Addr} {od_state_of an_state_of : Option Addr} {sl_state_of : Array (Option Value)} {oc_state_of kV_state_of dc_state_of pm_state_of cd_state_of ct_state_of : Value}
    {f_table : Addr} {od_table an_table : Option Addr} {sl_table : Array (Option Value)} {oc_table kV_table dc_table pm_table cd_table ct_table : Value}
    {f_ends : Addr} {od_ends an_ends : Option Addr} {sl_ends : Array (Option Value)} {oc_ends kV_ends dc_ends pm_ends cd_ends ct_ends : Value}
    {f_depth : Addr} {od_depth an_depth : Option Addr} {sl_depth : Array (Option Value)} {oc_depth kV_depth dc_depth pm_depth cd_depth ct_depth : Value}
    {f_seen : Addr} {od_seen an_seen : Option Addr} {sl_seen : Array (Option Value)} {oc_seen kV_seen dc_seen pm_seen cd_seen ct_seen : Value}
    {f_call_length : Addr} {od_call_length an_call_length : Option Addr} {sl_call_length : Array (Option Value)} {oc_call_length kV_call_length dc_call_length pm_call_length cd_call_length ct_call_length : Value}
    {f_answer : Addr} {od_answer an_answer : Option Addr} {sl_answer : Array (Option Value)} {oc_answer kV_answer dc_answer pm_answer cd_answer ct_answer : Value}
    {f_answers : Addr} {od_answers an_answers : Option Addr} {sl_answers : Array (Option Value)} {oc_answers kV_answers dc_answers pm_answers cd_answers ct_answers : Value}
    {ad_SPACES : Addr} {od_SPACES : Option Addr} {sl_SPACES : Array (Option Value)} {its_SPACES : Array Value} {nn_SPACES : Nat}
    {ti_SPACES_0 : Tok}
    {ti_SPACES_1 : Tok}
    {ti_SPACES_2 : Tok}
    {ti_SPACES_3 : Tok}
    {ad_STEPS : Addr} {od_STEPS : Option Addr} {sl_STEPS : Array (Option Value)} {its_STEPS : Array Value} {nn_STEPS : Nat}
    (z_VALUE : PySem.W.nsIn K mainGlobals "VALUE" = some (some (.int 0 tk_VALUE)))
    (z_FIRST : PySem.W.nsIn K mainGlobals "FIRST" = some (some (.int 1 tk_FIRST)))
    (z_MEMBER : PySem.W.nsIn K mainGlobals "MEMBER" = some (some (.int 2 tk_MEMBER)))
    (z_KEY : PySem.W.nsIn K mainGlobals "KEY" = some (some (.int 3 tk_KEY)))
    (z_COLON : PySem.W.nsIn K mainGlobals "COLON" = some (some (.int 4 tk_COLON)))
    (z_AFTER : PySem.W.nsIn K mainGlobals "AFTER" = some (some (.int 5 tk_AFTER)))
    (z_STRING : PySem.W.nsIn K mainGlobals "STRING" = some (some (.int 6 tk_STRING)))
    (z_ESCAPE : PySem.W.nsIn K mainGlobals "ESCAPE" = some (some (.int 7 tk_ESCAPE)))
    (z_HEX : PySem.W.nsIn K mainGlobals "HEX" = some (some (.int 8 tk_HEX)))
    (z_MINUS : PySem.W.nsIn K mainGlobals "MINUS" = some (some (.int 9 tk_MINUS)))
    (z_ZERO : PySem.W.nsIn K mainGlobals "ZERO" = some (some (.int 10 tk_ZERO)))
    (z_WHOLE : PySem.W.nsIn K mainGlobals "WHOLE" = some (some (.int 11 tk_WHOLE)))
    (z_POINT : PySem.W.nsIn K mainGlobals "POINT" = some (some (.int 12 tk_POINT)))
    (z_FRACTION : PySem.W.nsIn K mainGlobals "FRACTION" = some (some (.int 13 tk_FRACTION)))
    (z_E : PySem.W.nsIn K mainGlobals "E" = some (some (.int 14 tk_E)))
    (z_SIGN : PySem.W.nsIn K mainGlobals "SIGN" = some (some (.int 15 tk_SIGN)))
    (z_EXPONENT : PySem.W.nsIn K mainGlobals "EXPONENT" = some (some (.int 16 tk_EXPONENT)))
    (z_WORD : PySem.W.nsIn K mainGlobals "WORD" = some (some (.int 17 tk_WORD)))
    (z_BAD : PySem.W.nsIn K mainGlobals "BAD" = some (some (.int 18 tk_BAD)))
    (z_KIND_NULL : PySem.W.nsIn K mainGlobals "KIND_NULL" = some (some (.int 0 tk_KIND_NULL)))
    (z_KIND_FALSE : PySem.W.nsIn K mainGlobals "KIND_FALSE" = some (some (.int 1 tk_KIND_FALSE)))
    (z_KIND_TRUE : PySem.W.nsIn K mainGlobals "KIND_TRUE" = some (some (.int 2 tk_KIND_TRUE)))
    (z_KIND_NUMBER : PySem.W.nsIn K mainGlobals "KIND_NUMBER" = some (some (.int 3 tk_KIND_NUMBER)))
    (z_KIND_STRING : PySem.W.nsIn K mainGlobals "KIND_STRING" = some (some (.int 4 tk_KIND_STRING)))
    (z_KIND_ARRAY : PySem.W.nsIn K mainGlobals "KIND_ARRAY" = some (some (.int 5 tk_KIND_ARRAY)))
    (z_KIND_OBJECT : PySem.W.nsIn K mainGlobals "KIND_OBJECT" = some (some (.int 6 tk_KIND_OBJECT)))
    (z_KIND_KEY : PySem.W.nsIn K mainGlobals "KIND_KEY" = some (some (.int 7 tk_KIND_KEY)))
    (z_KINDS : PySem.W.nsIn K mainGlobals "KINDS" = some (some (.int 8 tk_KINDS)))
    (z_CALL_CLEAR : PySem.W.nsIn K mainGlobals "CALL_CLEAR" = some (some (.int 1 tk_CALL_CLEAR)))
    (z_CALL_TAKE : PySem.W.nsIn K mainGlobals "CALL_TAKE" = some (some (.int 2 tk_CALL_TAKE)))
    (z_CALL_RUN : PySem.W.nsIn K mainGlobals "CALL_RUN" = some (some (.int 3 tk_CALL_RUN)))
    (z_CALL_OF : PySem.W.nsIn K mainGlobals "CALL_OF" = some (some (.int 4 tk_CALL_OF)))
    (z_CALL_TABLE : PySem.W.nsIn K mainGlobals "CALL_TABLE" = some (some (.int 5 tk_CALL_TABLE)))
    (z_CALL_ENDS : PySem.W.nsIn K mainGlobals "CALL_ENDS" = some (some (.int 6 tk_CALL_ENDS)))
    (z_CALL_DEPTH : PySem.W.nsIn K mainGlobals "CALL_DEPTH" = some (some (.int 7 tk_CALL_DEPTH)))
    (z_CALL_SEEN : PySem.W.nsIn K mainGlobals "CALL_SEEN" = some (some (.int 8 tk_CALL_SEEN)))
    (z_REFUSED : PySem.W.nsIn K mainGlobals "REFUSED" = some (some (.int (-1) tk_REFUSED)))
    (z_MOST_NESTED : PySem.W.nsIn K mainGlobals "MOST_NESTED" = some (some (.int 1000 tk_MOST_NESTED)))
    (z_MOST_BYTES : PySem.W.nsIn K mainGlobals "MOST_BYTES" = some (some (.int 65536 tk_MOST_BYTES)))
    (z_HIGHEST_BYTE : PySem.W.nsIn K mainGlobals "HIGHEST_BYTE" = some (some (.int 255 tk_HIGHEST_BYTE)))
    (z_HEX_DIGITS : PySem.W.nsIn K mainGlobals "HEX_DIGITS" = some (some (.int 4 tk_HEX_DIGITS)))
    (z_COUNTS_TOLD : PySem.W.nsIn K mainGlobals "COUNTS_TOLD" = some (some (.int 4294967296 tk_COUNTS_TOLD)))
    (aC : PySem.W.nsIn K mainGlobals "Reader" = some (some (.ref C)))
    (a_Reader_init : PySem.W.findIn K (.ref C) "__init__" = some (some (.ref f_Reader_init)))
    (i_Reader_init : PySem.W.isFn K (.ref f_Reader_init) = true)
    (l_Reader_init : K.lookup f_Reader_init = some ⟨oc_Reader_init, od_Reader_init, .func (PySem.W.fnOf "__init__" "Reader.__init__" (defArgs s_Reader_init) (defBody s_Reader_init) (defScope s_Reader_init) .none kV_Reader_init dc_Reader_init pm_Reader_init an_Reader_init cd_Reader_init ct_Reader_init), sl_Reader_init⟩)
    (c_Reader_init : PySem.W.codeIn K cd_Reader_init "Reader.__init__" = true)
    (k_Reader_init : PySem.W.keepIn K (.ref f_Reader_init) = true)
    (a_Reader_begin : PySem.W.findIn K (.ref C) "begin" = some (some (.ref f_Reader_begin)))
    (i_Reader_begin : PySem.W.isFn K (.ref f_Reader_begin) = true)
    (l_Reader_begin : K.lookup f_Reader_begin = some ⟨oc_Reader_begin, od_Reader_begin, .func (PySem.W.fnOf "begin" "Reader.begin" (defArgs s_Reader_begin) (defBody s_Reader_begin) (defScope s_Reader_begin) .none kV_Reader_begin dc_Reader_begin pm_Reader_begin an_Reader_begin cd_Reader_begin ct_Reader_begin), sl_Reader_begin⟩)
    (c_Reader_begin : PySem.W.codeIn K cd_Reader_begin "Reader.begin" = true)
    (k_Reader_begin : PySem.W.keepIn K (.ref f_Reader_begin) = true)
    (a_is_one_of : PySem.W.nsIn K mainGlobals "is_one_of" = some (some (.ref f_is_one_of)))
    (l_is_one_of : K.lookup f_is_one_of = some ⟨oc_is_one_of, od_is_one_of, .func (PySem.W.fnOf "is_one_of" "is_one_of" (defArgs s_is_one_of) (defBody s_is_one_of) (defScope s_is_one_of) .none kV_is_one_of dc_is_one_of pm_is_one_of an_is_one_of cd_is_one_of ct_is_one_of), sl_is_one_of⟩)
    (c_is_one_of : PySem.W.codeIn K cd_is_one_of "is_one_of" = true)
    (k_is_one_of : PySem.W.keepIn K (.ref f_is_one_of) = true)
    (a_is_digit : PySem.W.nsIn K mainGlobals "is_digit" = some (some (.ref f_is_digit)))
    (l_is_digit : K.lookup f_is_digit = some ⟨oc_is_digit, od_is_digit, .func (PySem.W.fnOf "is_digit" "is_digit" (defArgs s_is_digit) (defBody s_is_digit) (defScope s_is_digit) .none kV_is_digit dc_is_digit pm_is_digit an_is_digit cd_is_digit ct_is_digit), sl_is_digit⟩)
    (c_is_digit : PySem.W.codeIn K cd_is_digit "is_digit" = true)
    (k_is_digit : PySem.W.keepIn K (.ref f_is_digit) = true)
    (a_is_hex_digit : PySem.W.nsIn K mainGlobals "is_hex_digit" = some (some (.ref f_is_hex_digit)))
    (l_is_hex_digit : K.lookup f_is_hex_digit = some ⟨oc_is_hex_digit, od_is_hex_digit, .func (PySem.W.fnOf "is_hex_digit" "is_hex_digit" (defArgs s_is_hex_digit) (defBody s_is_hex_digit) (defScope s_is_hex_digit) .none kV_is_hex_digit dc_is_hex_digit pm_is_hex_digit an_is_hex_digit cd_is_hex_digit ct_is_hex_digit), sl_is_hex_digit⟩)
    (c_is_hex_digit : PySem.W.codeIn K cd_is_hex_digit "is_hex_digit" = true)
    (k_is_hex_digit : PySem.W.keepIn K (.ref f_is_hex_digit) = true)
    (a_end_value : PySem.W.nsIn K mainGlobals "end_value" = some (some (.ref f_end_value)))
    (l_end_value : K.lookup f_end_value = some ⟨oc_end_value, od_end_value, .func (PySem.W.fnOf "end_value" "end_value" (defArgs s_end_value) (defBody s_end_value) (defScope s_end_value) .none kV_end_value dc_end_value pm_end_value an_end_value cd_end_value ct_end_value), sl_end_value⟩)
    (c_end_value : PySem.W.codeIn K cd_end_value "end_value" = true)
    (k_end_value : PySem.W.keepIn K (.ref f_end_value) = true)
    (a_go_into : PySem.W.nsIn K mainGlobals "go_into" = some (some (.ref f_go_into)))
    (l_go_into : K.lookup f_go_into = some ⟨oc_go_into, od_go_into, .func (PySem.W.fnOf "go_into" "go_into" (defArgs s_go_into) (defBody s_go_into) (defScope s_go_into) .none kV_go_into dc_go_into pm_go_into an_go_into cd_go_into ct_go_into), sl_go_into⟩)
    (c_go_into : PySem.W.codeIn K cd_go_into "go_into" = true)
    (k_go_into : PySem.W.keepIn K (.ref f_go_into) = true)
    (a_close_innermost : PySem.W.nsIn K mainGlobals "close_innermost" = some (some (.ref f_close_innermost)))
    (l_close_innermost : K.lookup f_close_innermost = some ⟨oc_close_innermost, od_close_innermost, .func (PySem.W.fnOf "close_innermost" "close_innermost" (defArgs s_close_innermost) (defBody s_close_innermost) (defScope s_close_innermost) .none kV_close_innermost dc_close_innermost pm_close_innermost an_close_innermost cd_close_innermost ct_close_innermost), sl_close_innermost⟩)
    (c_close_innermost : PySem.W.codeIn K cd_close_innermost "close_innermost" = true)
    (k_close_innermost : PySem.W.keepIn K (.ref f_close_innermost) = true)
    (a_begin_string : PySem.W.nsIn K mainGlobals "begin_string" = some (some (.ref f_begin_string)))
    (l_begin_string : K.lookup f_begin_string = some ⟨oc_begin_string, od_begin_string, .func (PySem.W.fnOf "begin_string" "begin_string" (defArgs s_begin_string) (defBody s_begin_string) (defScope s_begin_string) .none kV_begin_string dc_begin_string pm_begin_string an_begin_string cd_begin_string ct_begin_string), sl_begin_string⟩)
    (c_begin_string : PySem.W.codeIn K cd_begin_string "begin_string" = true)
    (k_begin_string : PySem.W.keepIn K (.ref f_begin_string) = true)
    (a_begin_word : PySem.W.nsIn K mainGlobals "begin_word" = some (some (.ref f_begin_word)))
    (l_begin_word : K.lookup f_begin_word = some ⟨oc_begin_word, od_begin_word, .func (PySem.W.fnOf "begin_word" "begin_word" (defArgs s_begin_word) (defBody s_begin_word) (defScope s_begin_word) .none kV_begin_word dc_begin_word pm_begin_word an_begin_word cd_begin_word ct_begin_word), sl_begin_word⟩)
    (c_begin_word : PySem.W.codeIn K cd_begin_word "begin_word" = true)
    (k_begin_word : PySem.W.keepIn K (.ref f_begin_word) = true)
    (a_begin_digits : PySem.W.nsIn K mainGlobals "begin_digits" = some (some (.ref f_begin_digits)))
    (l_begin_digits : K.lookup f_begin_digits = some ⟨oc_begin_digits, od_begin_digits, .func (PySem.W.fnOf "begin_digits" "begin_digits" (defArgs s_begin_digits) (defBody s_begin_digits) (defScope s_begin_digits) .none kV_begin_digits dc_begin_digits pm_begin_digits an_begin_digits cd_begin_digits ct_begin_digits), sl_begin_digits⟩)
    (c_begin_digits : PySem.W.codeIn K cd_begin_digits "begin_digits" = true)
    (k_begin_digits : PySem.W.keepIn K (.ref f_begin_digits) = true)
    (a_take_value : PySem.W.nsIn K mainGlobals "take_value" = some (some (.ref f_take_value)))
    (l_take_value : K.lookup f_take_value = some ⟨oc_take_value, od_take_value, .func (PySem.W.fnOf "take_value" "take_value" (defArgs s_take_value) (defBody s_take_value) (defScope s_take_value) .none kV_take_value dc_take_value pm_take_value an_take_value cd_take_value ct_take_value), sl_take_value⟩)
    (c_take_value : PySem.W.codeIn K cd_take_value "take_value" = true)
    (k_take_value : PySem.W.keepIn K (.ref f_take_value) = true)
    (a_take_first : PySem.W.nsIn K mainGlobals "take_first" = some (some (.ref f_take_first)))
    (l_take_first : K.lookup f_take_first = some ⟨oc_take_first, od_take_first, .func (PySem.W.fnOf "take_first" "take_first" (defArgs s_take_first) (defBody s_take_first) (defScope s_take_first) .none kV_take_first dc_take_first pm_take_first an_take_first cd_take_first ct_take_first), sl_take_first⟩)
    (c_take_first : PySem.W.codeIn K cd_take_first "take_first" = true)
    (k_take_first : PySem.W.keepIn K (.ref f_take_first) = true)
    (a_take_member : PySem.W.nsIn K mainGlobals "take_member" = some (some (.ref f_take_member)))
    (l_take_member : K.lookup f_take_member = some ⟨oc_take_member, od_take_member, .func (PySem.W.fnOf "take_member" "take_member" (defArgs s_take_member) (defBody s_take_member) (defScope s_take_member) .none kV_take_member dc_take_member pm_take_member an_take_member cd_take_member ct_take_member), sl_take_member⟩)
    (c_take_member : PySem.W.codeIn K cd_take_member "take_member" = true)
    (k_take_member : PySem.W.keepIn K (.ref f_take_member) = true)
    (a_take_key : PySem.W.nsIn K mainGlobals "take_key" = some (some (.ref f_take_key)))
    (l_take_key : K.lookup f_take_key = some ⟨oc_take_key, od_take_key, .func (PySem.W.fnOf "take_key" "take_key" (defArgs s_take_key) (defBody s_take_key) (defScope s_take_key) .none kV_take_key dc_take_key pm_take_key an_take_key cd_take_key ct_take_key), sl_take_key⟩)
    (c_take_key : PySem.W.codeIn K cd_take_key "take_key" = true)
    (k_take_key : PySem.W.keepIn K (.ref f_take_key) = true)
    (a_take_colon : PySem.W.nsIn K mainGlobals "take_colon" = some (some (.ref f_take_colon)))
    (l_take_colon : K.lookup f_take_colon = some ⟨oc_take_colon, od_take_colon, .func (PySem.W.fnOf "take_colon" "take_colon" (defArgs s_take_colon) (defBody s_take_colon) (defScope s_take_colon) .none kV_take_colon dc_take_colon pm_take_colon an_take_colon cd_take_colon ct_take_colon), sl_take_colon⟩)
    (c_take_colon : PySem.W.codeIn K cd_take_colon "take_colon" = true)
    (k_take_colon : PySem.W.keepIn K (.ref f_take_colon) = true)
    (a_take_after : PySem.W.nsIn K mainGlobals "take_after" = some (some (.ref f_take_after)))
    (l_take_after : K.lookup f_take_after = some ⟨oc_take_after, od_take_after, .func (PySem.W.fnOf "take_after" "take_after" (defArgs s_take_after) (defBody s_take_after) (defScope s_take_after) .none kV_take_after dc_take_after pm_take_after an_take_after cd_take_after ct_take_after), sl_take_after⟩)
    (c_take_after : PySem.W.codeIn K cd_take_after "take_after" = true)
    (k_take_after : PySem.W.keepIn K (.ref f_take_after) = true)
    (a_take_after_item : PySem.W.nsIn K mainGlobals "take_after_item" = some (some (.ref f_take_after_item)))
    (l_take_after_item : K.lookup f_take_after_item = some ⟨oc_take_after_item, od_take_after_item, .func (PySem.W.fnOf "take_after_item" "take_after_item" (defArgs s_take_after_item) (defBody s_take_after_item) (defScope s_take_after_item) .none kV_take_after_item dc_take_after_item pm_take_after_item an_take_after_item cd_take_after_item ct_take_after_item), sl_take_after_item⟩)
    (c_take_after_item : PySem.W.codeIn K cd_take_after_item "take_after_item" = true)
    (k_take_after_item : PySem.W.keepIn K (.ref f_take_after_item) = true)
    (a_take_after_member : PySem.W.nsIn K mainGlobals "take_after_member" = some (some (.ref f_take_after_member)))
    (l_take_after_member : K.lookup f_take_after_member = some ⟨oc_take_after_member, od_take_after_member, .func (PySem.W.fnOf "take_after_member" "take_after_member" (defArgs s_take_after_member) (defBody s_take_after_member) (defScope s_take_after_member) .none kV_take_after_member dc_take_after_member pm_take_after_member an_take_after_member cd_take_after_member ct_take_after_member), sl_take_after_member⟩)
    (c_take_after_member : PySem.W.codeIn K cd_take_after_member "take_after_member" = true)
    (k_take_after_member : PySem.W.keepIn K (.ref f_take_after_member) = true)
    (a_take_string : PySem.W.nsIn K mainGlobals "take_string" = some (some (.ref f_take_string)))
    (l_take_string : K.lookup f_take_string = some ⟨oc_take_string, od_take_string, .func (PySem.W.fnOf "take_string" "take_string" (defArgs s_take_string) (defBody s_take_string) (defScope s_take_string) .none kV_take_string dc_take_string pm_take_string an_take_string cd_take_string ct_take_string), sl_take_string⟩)
    (c_take_string : PySem.W.codeIn K cd_take_string "take_string" = true)
    (k_take_string : PySem.W.keepIn K (.ref f_take_string) = true)
    (a_end_string : PySem.W.nsIn K mainGlobals "end_string" = some (some (.ref f_end_string)))
    (l_end_string : K.lookup f_end_string = some ⟨oc_end_string, od_end_string, .func (PySem.W.fnOf "end_string" "end_string" (defArgs s_end_string) (defBody s_end_string) (defScope s_end_string) .none kV_end_string dc_end_string pm_end_string an_end_string cd_end_string ct_end_string), sl_end_string⟩)
    (c_end_string : PySem.W.codeIn K cd_end_string "end_string" = true)
    (k_end_string : PySem.W.keepIn K (.ref f_end_string) = true)
    (a_take_escape : PySem.W.nsIn K mainGlobals "take_escape" = some (some (.ref f_take_escape)))
    (l_take_escape : K.lookup f_take_escape = some ⟨oc_take_escape, od_take_escape, .func (PySem.W.fnOf "take_escape" "take_escape" (defArgs s_take_escape) (defBody s_take_escape) (defScope s_take_escape) .none kV_take_escape dc_take_escape pm_take_escape an_take_escape cd_take_escape ct_take_escape), sl_take_escape⟩)
    (c_take_escape : PySem.W.codeIn K cd_take_escape "take_escape" = true)
    (k_take_escape : PySem.W.keepIn K (.ref f_take_escape) = true)
    (a_take_hex : PySem.W.nsIn K mainGlobals "take_hex" = some (some (.ref f_take_hex)))
    (l_take_hex : K.lookup f_take_hex = some ⟨oc_take_hex, od_take_hex, .func (PySem.W.fnOf "take_hex" "take_hex" (defArgs s_take_hex) (defBody s_take_hex) (defScope s_take_hex) .none kV_take_hex dc_take_hex pm_take_hex an_take_hex cd_take_hex ct_take_hex), sl_take_hex⟩)
    (c_take_hex : PySem.W.codeIn K cd_take_hex "take_hex" = true)
    (k_take_hex : PySem.W.keepIn K (.ref f_take_hex) = true)
    (a_take_minus : PySem.W.nsIn K mainGlobals "take_minus" = some (some (.ref f_take_minus)))
    (l_take_minus : K.lookup f_take_minus = some ⟨oc_take_minus, od_take_minus, .func (PySem.W.fnOf "take_minus" "take_minus" (defArgs s_take_minus) (defBody s_take_minus) (defScope s_take_minus) .none kV_take_minus dc_take_minus pm_take_minus an_take_minus cd_take_minus ct_take_minus), sl_take_minus⟩)
    (c_take_minus : PySem.W.codeIn K cd_take_minus "take_minus" = true)
    (k_take_minus : PySem.W.keepIn K (.ref f_take_minus) = true)
    (a_take_zero : PySem.W.nsIn K mainGlobals "take_zero" = some (some (.ref f_take_zero)))
    (l_take_zero : K.lookup f_take_zero = some ⟨oc_take_zero, od_take_zero, .func (PySem.W.fnOf "take_zero" "take_zero" (defArgs s_take_zero) (defBody s_take_zero) (defScope s_take_zero) .none kV_take_zero dc_take_zero pm_take_zero an_take_zero cd_take_zero ct_take_zero), sl_take_zero⟩)
    (c_take_zero : PySem.W.codeIn K cd_take_zero "take_zero" = true)
    (k_take_zero : PySem.W.keepIn K (.ref f_take_zero) = true)
    (a_take_whole : PySem.W.nsIn K mainGlobals "take_whole" = some (some (.ref f_take_whole)))
    (l_take_whole : K.lookup f_take_whole = some ⟨oc_take_whole, od_take_whole, .func (PySem.W.fnOf "take_whole" "take_whole" (defArgs s_take_whole) (defBody s_take_whole) (defScope s_take_whole) .none kV_take_whole dc_take_whole pm_take_whole an_take_whole cd_take_whole ct_take_whole), sl_take_whole⟩)
    (c_take_whole : PySem.W.codeIn K cd_take_whole "take_whole" = true)
    (k_take_whole : PySem.W.keepIn K (.ref f_take_whole) = true)
    (a_take_point : PySem.W.nsIn K mainGlobals "take_point" = some (some (.ref f_take_point)))
    (l_take_point : K.lookup f_take_point = some ⟨oc_take_point, od_take_point, .func (PySem.W.fnOf "take_point" "take_point" (defArgs s_take_point) (defBody s_take_point) (defScope s_take_point) .none kV_take_point dc_take_point pm_take_point an_take_point cd_take_point ct_take_point), sl_take_point⟩)
    (c_take_point : PySem.W.codeIn K cd_take_point "take_point" = true)
    (k_take_point : PySem.W.keepIn K (.ref f_take_point) = true)
    (a_take_fraction : PySem.W.nsIn K mainGlobals "take_fraction" = some (some (.ref f_take_fraction)))
    (l_take_fraction : K.lookup f_take_fraction = some ⟨oc_take_fraction, od_take_fraction, .func (PySem.W.fnOf "take_fraction" "take_fraction" (defArgs s_take_fraction) (defBody s_take_fraction) (defScope s_take_fraction) .none kV_take_fraction dc_take_fraction pm_take_fraction an_take_fraction cd_take_fraction ct_take_fraction), sl_take_fraction⟩)
    (c_take_fraction : PySem.W.codeIn K cd_take_fraction "take_fraction" = true)
    (k_take_fraction : PySem.W.keepIn K (.ref f_take_fraction) = true)
    (a_take_mark_or_end : PySem.W.nsIn K mainGlobals "take_mark_or_end" = some (some (.ref f_take_mark_or_end)))
    (l_take_mark_or_end : K.lookup f_take_mark_or_end = some ⟨oc_take_mark_or_end, od_take_mark_or_end, .func (PySem.W.fnOf "take_mark_or_end" "take_mark_or_end" (defArgs s_take_mark_or_end) (defBody s_take_mark_or_end) (defScope s_take_mark_or_end) .none kV_take_mark_or_end dc_take_mark_or_end pm_take_mark_or_end an_take_mark_or_end cd_take_mark_or_end ct_take_mark_or_end), sl_take_mark_or_end⟩)
    (c_take_mark_or_end : PySem.W.codeIn K cd_take_mark_or_end "take_mark_or_end" = true)
    (k_take_mark_or_end : PySem.W.keepIn K (.ref f_take_mark_or_end) = true)
    (a_take_e : PySem.W.nsIn K mainGlobals "take_e" = some (some (.ref f_take_e)))
    (l_take_e : K.lookup f_take_e = some ⟨oc_take_e, od_take_e, .func (PySem.W.fnOf "take_e" "take_e" (defArgs s_take_e) (defBody s_take_e) (defScope s_take_e) .none kV_take_e dc_take_e pm_take_e an_take_e cd_take_e ct_take_e), sl_take_e⟩)
    (c_take_e : PySem.W.codeIn K cd_take_e "take_e" = true)
    (k_take_e : PySem.W.keepIn K (.ref f_take_e) = true)
    (a_take_sign : PySem.W.nsIn K mainGlobals "take_sign" = some (some (.ref f_take_sign)))
    (l_take_sign : K.lookup f_take_sign = some ⟨oc_take_sign, od_take_sign, .func (PySem.W.fnOf "take_sign" "take_sign" (defArgs s_take_sign) (defBody s_take_sign) (defScope s_take_sign) .none kV_take_sign dc_take_sign pm_take_sign an_take_sign cd_take_sign ct_take_sign), sl_take_sign⟩)
    (c_take_sign : PySem.W.codeIn K cd_take_sign "take_sign" = true)
    (k_take_sign : PySem.W.keepIn K (.ref f_take_sign) = true)
    (a_take_exponent : PySem.W.nsIn K mainGlobals "take_exponent" = some (some (.ref f_take_exponent)))
    (l_take_exponent : K.lookup f_take_exponent = some ⟨oc_take_exponent, od_take_exponent, .func (PySem.W.fnOf "take_exponent" "take_exponent" (defArgs s_take_exponent) (defBody s_take_exponent) (defScope s_take_exponent) .none kV_take_exponent dc_take_exponent pm_take_exponent an_take_exponent cd_take_exponent ct_take_exponent), sl_take_exponent⟩)
    (c_take_exponent : PySem.W.codeIn K cd_take_exponent "take_exponent" = true)
    (k_take_exponent : PySem.W.keepIn K (.ref f_take_exponent) = true)
    (a_end_number : PySem.W.nsIn K mainGlobals "end_number" = some (some (.ref f_end_number)))
    (l_end_number : K.lookup f_end_number = some ⟨oc_end_number, od_end_number, .func (PySem.W.fnOf "end_number" "end_number" (defArgs s_end_number) (defBody s_end_number) (defScope s_end_number) .none kV_end_number dc_end_number pm_end_number an_end_number cd_end_number ct_end_number), sl_end_number⟩)
    (c_end_number : PySem.W.codeIn K cd_end_number "end_number" = true)
    (k_end_number : PySem.W.keepIn K (.ref f_end_number) = true)
    (a_take_word : PySem.W.nsIn K mainGlobals "take_word" = some (some (.ref f_take_word)))
    (l_take_word : K.lookup f_take_word = some ⟨oc_take_word, od_take_word, .func (PySem.W.fnOf "take_word" "take_word" (defArgs s_take_word) (defBody s_take_word) (defScope s_take_word) .none kV_take_word dc_take_word pm_take_word an_take_word cd_take_word ct_take_word), sl_take_word⟩)
    (c_take_word : PySem.W.codeIn K cd_take_word "take_word" = true)
    (k_take_word : PySem.W.keepIn K (.ref f_take_word) = true)
    (a_take_bad : PySem.W.nsIn K mainGlobals "take_bad" = some (some (.ref f_take_bad)))
    (l_take_bad : K.lookup f_take_bad = some ⟨oc_take_bad, od_take_bad, .func (PySem.W.fnOf "take_bad" "take_bad" (defArgs s_take_bad) (defBody s_take_bad) (defScope s_take_bad) .none kV_take_bad dc_take_bad pm_take_bad an_take_bad cd_take_bad ct_take_bad), sl_take_bad⟩)
    (c_take_bad : PySem.W.codeIn K cd_take_bad "take_bad" = true)
    (k_take_bad : PySem.W.keepIn K (.ref f_take_bad) = true)
    (a_step : PySem.W.nsIn K mainGlobals "step" = some (some (.ref f_step)))
    (l_step : K.lookup f_step = some ⟨oc_step, od_step, .func (PySem.W.fnOf "step" "step" (defArgs s_step) (defBody s_step) (defScope s_step) .none kV_step dc_step pm_step an_step cd_step ct_step), sl_step⟩)
    (c_step : PySem.W.codeIn K cd_step "step" = true)
    (k_step : PySem.W.keepIn K (.ref f_step) = true)
    (a_clear : PySem.W.nsIn K mainGlobals "clear" = some (some (.ref f_clear)))
    (l_clear : K.lookup f_clear = some ⟨oc_clear, od_clear, .func (PySem.W.fnOf "clear" "clear" (defArgs s_clear) (defBody s_clear) (defScope s_clear) .none kV_clear dc_clear pm_clear an_clear cd_clear ct_clear), sl_clear⟩)
    (c_clear : PySem.W.codeIn K cd_clear "clear" = true)
    (k_clear : PySem.W.keepIn K (.ref f_clear) = true)
    (a_take : PySem.W.nsIn K mainGlobals "take" = some (some (.ref f_take)))
    (l_take : K.lookup f_take = some ⟨oc_take, od_take, .func (PySem.W.fnOf "take" "take" (defArgs s_take) (defBody s_take) (defScope s_take) .none kV_take dc_take pm_take an_take cd_take ct_take), sl_take⟩)
    (c_take : PySem.W.codeIn K cd_take "take" = true)
    (k_take : PySem.W.keepIn K (.ref f_take) = true)
    (a_run : PySem.W.nsIn K mainGlobals "run" = some (some (.ref f_run)))
    (l_run : K.lookup f_run = some ⟨oc_run, od_run, .func (PySem.W.fnOf "run" "run" (defArgs s_run) (defBody s_run) (defScope s_run) .none kV_run dc_run pm_run an_run cd_run ct_run), sl_run⟩)
    (c_run : PySem.W.codeIn K cd_run "run" = true)
    (k_run : PySem.W.keepIn K (.ref f_run) = true)
    (a_state_of : PySem.W.nsIn K mainGlobals "state_of" = some (some (.ref f_state_of)))
    (l_state_of : K.lookup f_state_of = some ⟨oc_state_of, od_state_of, .func (PySem.W.fnOf "state_of" "state_of" (defArgs s_state_of) (defBody s_state_of) (defScope s_state_of) .none kV_state_of dc_state_of pm_state_of an_state_of cd_state_of ct_state_of), sl_state_of⟩)
    (c_state_of : PySem.W.codeIn K cd_state_of "state_of" = true)
    (k_state_of : PySem.W.keepIn K (.ref f_state_of) = true)
    (a_table : PySem.W.nsIn K mainGlobals "table" = some (some (.ref f_table)))
    (l_table : K.lookup f_table = some ⟨oc_table, od_table, .func (PySem.W.fnOf "table" "table" (defArgs s_table) (defBody s_table) (defScope s_table) .none kV_table dc_table pm_table an_table cd_table ct_table), sl_table⟩)
    (c_table : PySem.W.codeIn K cd_table "table" = true)
    (k_table : PySem.W.keepIn K (.ref f_table) = true)
    (a_ends : PySem.W.nsIn K mainGlobals "ends" = some (some (.ref f_ends)))
    (l_ends : K.lookup f_ends = some ⟨oc_ends, od_ends, .func (PySem.W.fnOf "ends" "ends" (defArgs s_ends) (defBody s_ends) (defScope s_ends) .none kV_ends dc_ends pm_ends an_ends cd_ends ct_ends), sl_ends⟩)
    (c_ends : PySem.W.codeIn K cd_ends "ends" = true)
    (k_ends : PySem.W.keepIn K (.ref f_ends) = true)
    (a_depth : PySem.W.nsIn K mainGlobals "depth" = some (some (.ref f_depth)))
    (l_depth : K.lookup f_depth = some ⟨oc_depth, od_depth, .func (PySem.W.fnOf "depth" "depth" (defArgs s_depth) (defBody s_depth) (defScope s_depth) .none kV_depth dc_depth pm_depth an_depth cd_depth ct_depth), sl_depth⟩)
    (c_depth : PySem.W.codeIn K cd_depth "depth" = true)
    (k_depth : PySem.W.keepIn K (.ref f_depth) = true)
    (a_seen : PySem.W.nsIn K mainGlobals "seen" = some (some (.ref f_seen)))
    (l_seen : K.lookup f_seen = some ⟨oc_seen, od_seen, .func (PySem.W.fnOf "seen" "seen" (defArgs s_seen) (defBody s_seen) (defScope s_seen) .none kV_seen dc_seen pm_seen an_seen cd_seen ct_seen), sl_seen⟩)
    (c_seen : PySem.W.codeIn K cd_seen "seen" = true)
    (k_seen : PySem.W.keepIn K (.ref f_seen) = true)
    (a_call_length : PySem.W.nsIn K mainGlobals "call_length" = some (some (.ref f_call_length)))
    (l_call_length : K.lookup f_call_length = some ⟨oc_call_length, od_call_length, .func (PySem.W.fnOf "call_length" "call_length" (defArgs s_call_length) (defBody s_call_length) (defScope s_call_length) .none kV_call_length dc_call_length pm_call_length an_call_length cd_call_length ct_call_length), sl_call_length⟩)
    (c_call_length : PySem.W.codeIn K cd_call_length "call_length" = true)
    (k_call_length : PySem.W.keepIn K (.ref f_call_length) = true)
    (a_answer : PySem.W.nsIn K mainGlobals "answer" = some (some (.ref f_answer)))
    (l_answer : K.lookup f_answer = some ⟨oc_answer, od_answer, .func (PySem.W.fnOf "answer" "answer" (defArgs s_answer) (defBody s_answer) (defScope s_answer) .none kV_answer dc_answer pm_answer an_answer cd_answer ct_answer), sl_answer⟩)
    (c_answer : PySem.W.codeIn K cd_answer "answer" = true)
    (k_answer : PySem.W.keepIn K (.ref f_answer) = true)
    (a_answers : PySem.W.nsIn K mainGlobals "answers" = some (some (.ref f_answers)))
    (l_answers : K.lookup f_answers = some ⟨oc_answers, od_answers, .func (PySem.W.fnOf "answers" "answers" (defArgs s_answers) (defBody s_answers) (defScope s_answers) .none kV_answers dc_answers pm_answers an_answers cd_answers ct_answers), sl_answers⟩)
    (c_answers : PySem.W.codeIn K cd_answers "answers" = true)
    (k_answers : PySem.W.keepIn K (.ref f_answers) = true)
    (a_SPACES : PySem.W.nsIn K mainGlobals "SPACES" = some (some (.ref ad_SPACES)))
    (l_SPACES : K.lookup ad_SPACES = some ⟨.type "tuple", od_SPACES, .seq its_SPACES nn_SPACES, sl_SPACES⟩)
    (e_SPACES : its_SPACES = #[.int 32 ti_SPACES_0, .int 9 ti_SPACES_1, .int 10 ti_SPACES_2, .int 13 ti_SPACES_3])
    (a_STEPS : PySem.W.nsIn K mainGlobals "STEPS" = some (some (.ref ad_STEPS)))
    (l_STEPS : K.lookup ad_STEPS = some ⟨.type "tuple", od_STEPS, .seq its_STEPS nn_STEPS, sl_STEPS⟩)
    (e_STEPS : its_STEPS = #[.ref f_take_value, .ref f_take_first, .ref f_take_member, .ref f_take_key, .ref f_take_colon, .ref f_take_after, .ref f_take_string, .ref f_take_escape, .ref f_take_hex, .ref f_take_minus, .ref f_take_zero, .ref f_take_whole, .ref f_take_point, .ref f_take_fraction, .ref f_take_e, .ref f_take_sign, .ref f_take_exponent, .ref f_take_word, .ref f_take_bad])
    (z_ord : PySem.W.nsIn K mainGlobals "ord" = some none)
    (z_len : PySem.W.nsIn K mainGlobals "len" = some none)
    (z_list : PySem.W.nsIn K mainGlobals "list" = some none)
    (z_range : PySem.W.nsIn K mainGlobals "range" = some none)
    (pgC : PySem.W.plainGet K C Str.empty = true)
    (hdC : PySem.W.hasDictIn K C = true)
    (poC : PySem.W.plainOver K C = true)
    (saC : PySem.W.findIn K (.ref C) "__setattr__" = some (some (.builtin "object.__setattr__")))
    (mkC : PySem.W.makesIn K C = true)
    (kcC : PySem.W.keepIn K (.ref C) = true)
    (n_state : PySem.W.findIn K (.ref C) "state" = some none)
    (n_nested : PySem.W.findIn K (.ref C) "nested" = some none)
    (n_counts : PySem.W.findIn K (.ref C) "counts" = some none)
    (n_in_key : PySem.W.findIn K (.ref C) "in_key" = some none)
    (n_digits_left : PySem.W.findIn K (.ref C) "digits_left" = some none)
    (n_word_rest : PySem.W.findIn K (.ref C) "word_rest" = some none)
    (n_word_kind : PySem.W.findIn K (.ref C) "word_kind" = some none) :
    ∃ fd : FuncData, (∀ (s : Shared) (v : Value), BindsTo s fd ⟨[v], []⟩ [("calls", v)]) ∧ ∀ base : Heap, K.In base → base.Ns mainGlobals mg → FnOk P w K mg base CX0 13 fa fd ["calls"] (spAnswers K) := by
  have T : Txt K mg C ad_SPACES ad_STEPS f_Reader_begin [f_take_value, f_take_first, f_take_member, f_take_key, f_take_colon, f_take_after, f_take_string, f_take_escape, f_take_hex, f_take_minus, f_take_zero, f_take_whole, f_take_point, f_take_fraction, f_take_e, f_take_sign, f_take_exponent, f_take_word, f_take_bad] :=
    ⟨⟨_, PySem.W.mg_of X G z_VALUE⟩, ⟨_, PySem.W.mg_of X G z_FIRST⟩, ⟨_, PySem.W.mg_of X G z_MEMBER⟩, ⟨_, PySem.W.mg_of X G z_KEY⟩, ⟨_, PySem.W.mg_of X G z_COLON⟩, ⟨_, PySem.W.mg_of X G z_AFTER⟩, ⟨_, PySem.W.mg_of X G z_STRING⟩, ⟨_, PySem.W.mg_of X G z_ESCAPE⟩, ⟨_, PySem.W.mg_of X G z_HEX⟩, ⟨_, PySem.W.mg_of X G z_MINUS⟩, ⟨_, PySem.W.mg_of X G z_ZERO⟩, ⟨_, PySem.W.mg_of X G z_WHOLE⟩, ⟨_, PySem.W.mg_of X G z_POINT⟩, ⟨_, PySem.W.mg_of X G z_FRACTION⟩, ⟨_, PySem.W.mg_of X G z_E⟩, ⟨_, PySem.W.mg_of X G z_SIGN⟩, ⟨_, PySem.W.mg_of X G z_EXPONENT⟩, ⟨_, PySem.W.mg_of X G z_WORD⟩, ⟨_, PySem.W.mg_of X G z_BAD⟩, ⟨_, PySem.W.mg_of X G z_KIND_NULL⟩, ⟨_, PySem.W.mg_of X G z_KIND_FALSE⟩, ⟨_, PySem.W.mg_of X G z_KIND_TRUE⟩, ⟨_, PySem.W.mg_of X G z_KIND_NUMBER⟩, ⟨_, PySem.W.mg_of X G z_KIND_STRING⟩, ⟨_, PySem.W.mg_of X G z_KIND_ARRAY⟩, ⟨_, PySem.W.mg_of X G z_KIND_OBJECT⟩, ⟨_, PySem.W.mg_of X G z_KIND_KEY⟩, ⟨_, PySem.W.mg_of X G z_KINDS⟩, ⟨_, PySem.W.mg_of X G z_CALL_CLEAR⟩, ⟨_, PySem.W.mg_of X G z_CALL_TAKE⟩, ⟨_, PySem.W.mg_of X G z_CALL_RUN⟩, ⟨_, PySem.W.mg_of X G z_CALL_OF⟩, ⟨_, PySem.W.mg_of X G z_CALL_TABLE⟩, ⟨_, PySem.W.mg_of X G z_CALL_ENDS⟩, ⟨_, PySem.W.mg_of X G z_CALL_DEPTH⟩, ⟨_, PySem.W.mg_of X G z_CALL_SEEN⟩, ⟨_, PySem.W.mg_of X G z_REFUSED⟩, ⟨_, PySem.W.mg_of X G z_MOST_NESTED⟩, ⟨_, PySem.W.mg_of X G z_MOST_BYTES⟩, ⟨_, PySem.W.mg_of X G z_HIGHEST_BYTE⟩, ⟨_, PySem.W.mg_of X G z_HEX_DIGITS⟩, ⟨_, PySem.W.mg_of X G z_COUNTS_TOLD⟩, PySem.W.mg_of X G a_SPACES, PySem.W.mg_of X G a_STEPS,
      fun H => .inr ⟨_, its_SPACES, nn_SPACES, l_SPACES, rfl, rfl, by rw [e_SPACES]; exact (by decide : 4 ≤ sizeLine), by rw [e_SPACES]; exact .cons ⟨_, rfl⟩ (.cons ⟨_, rfl⟩ (.cons ⟨_, rfl⟩ (.cons ⟨_, rfl⟩ .nil)))⟩,
      fun H => .inr ⟨_, its_STEPS, nn_STEPS, l_STEPS, rfl, rfl, by rw [e_STEPS]; exact (by decide : 19 ≤ sizeLine), by rw [e_STEPS]; exact vals_refs [f_take_value, f_take_first, f_take_member, f_take_key, f_take_colon, f_take_after, f_take_string, f_take_escape, f_take_hex, f_take_minus, f_take_zero, f_take_whole, f_take_point, f_take_fraction, f_take_e, f_take_sign, f_take_exponent, f_take_word, f_take_bad]⟩,
      PySem.W.mg_none_of X G z_ord, PySem.W.mg_none_of X G z_len, PySem.W.mg_none_of X G z_list, PySem.W.mg_none_of X G z_range, ⟨pgC, hdC, poC, saC⟩, PySem.W.mg_of X G aC, ⟨a_Reader_begin, i_Reader_begin, k_Reader_begin⟩,
      n_state, n_nested, n_counts, n_in_key, n_digits_left, n_word_rest, n_word_kind⟩
  have F_Reader_init := fun_mk (st := s_Reader_init) l_Reader_init c_Reader_init k_Reader_init
  have b_Reader_init := F_Reader_init.binds (ps := ["self"]) fun _ _ _ _ _ _ us hl => match us, hl with | [_], _ => rfl
  have F_Reader_begin := fun_mk (st := s_Reader_begin) l_Reader_begin c_Reader_begin k_Reader_begin
  have b_Reader_begin := F_Reader_begin.binds (ps := ["self"]) fun _ _ _ _ _ _ us hl => match us, hl with | [_], _ => rfl
  have F_is_one_of := fun_mk (st := s_is_one_of) l_is_one_of c_is_one_of k_is_one_of
  have b_is_one_of := F_is_one_of.binds (ps := ["c", "signs"]) fun _ _ _ _ _ _ us hl => match us, hl with | [_, _], _ => rfl
  have D_is_one_of : Df K mg "is_one_of" s_is_one_of ["c", "signs"] f_is_one_of := ⟨PySem.W.mg_of X G a_is_one_of, _, F_is_one_of, b_is_one_of⟩
  have F_is_digit := fun_mk (st := s_is_digit) l_is_digit c_is_digit k_is_digit
  have b_is_digit := F_is_digit.binds (ps := ["c"]) fun _ _ _ _ _ _ us hl => match us, hl with | [_], _ => rfl
  have D_is_digit : Df K mg "is_digit" s_is_digit ["c"] f_is_digit := ⟨PySem.W.mg_of X G a_is_digit, _, F_is_digit, b_is_digit⟩
  have F_is_hex_digit := fun_mk (st := s_is_hex_digit) l_is_hex_digit c_is_hex_digit k_is_hex_digit
  have b_is_hex_digit := F_is_hex_digit.binds (ps := ["c"]) fun _ _ _ _ _ _ us hl => match us, hl with | [_], _ => rfl
  have D_is_hex_digit : Df K mg "is_hex_digit" s_is_hex_digit ["c"] f_is_hex_digit := ⟨PySem.W.mg_of X G a_is_hex_digit, _, F_is_hex_digit, b_is_hex_digit⟩
  have F_end_value := fun_mk (st := s_end_value) l_end_value c_end_value k_end_value
  have b_end_value := F_end_value.binds (ps := ["reader", "kind"]) fun _ _ _ _ _ _ us hl => match us, hl with | [_, _], _ => rfl
  have D_end_value : Df K mg "end_value" s_end_value ["reader", "kind"] f_end_value := ⟨PySem.W.mg_of X G a_end_value, _, F_end_value, b_end_value⟩
  have F_go_into := fun_mk (st := s_go_into) l_go_into c_go_into k_go_into
  have b_go_into := F_go_into.binds (ps := ["reader", "kind", "inside"]) fun _ _ _ _ _ _ us hl => match us, hl with | [_, _, _], _ => rfl
  have D_go_into : Df K mg "go_into" s_go_into ["reader", "kind", "inside"] f_go_into := ⟨PySem.W.mg_of X G a_go_into, _, F_go_into, b_go_into⟩
  have F_close_innermost := fun_mk (st := s_close_innermost) l_close_innermost c_close_innermost k_close_innermost
  have b_close_innermost := F_close_innermost.binds (ps := ["reader"]) fun _ _ _ _ _ _ us hl => match us, hl with | [_], _ => rfl
  have D_close_innermost : Df K mg "close_innermost" s_close_innermost ["reader"] f_close_innermost := ⟨PySem.W.mg_of X G a_close_innermost, _, F_close_innermost, b_close_innermost⟩
  have F_begin_string := fun_mk (st := s_begin_string) l_begin_string c_begin_string k_begin_string
  have b_begin_string := F_begin_string.binds (ps := ["reader", "in_key"]) fun _ _ _ _ _ _ us hl => match us, hl with | [_, _], _ => rfl
  have D_begin_string : Df K mg "begin_string" s_begin_string ["reader", "in_key"] f_begin_string := ⟨PySem.W.mg_of X G a_begin_string, _, F_begin_string, b_begin_string⟩
  have F_begin_word := fun_mk (st := s_begin_word) l_begin_word c_begin_word k_begin_word
  have b_begin_word := F_begin_word.binds (ps := ["reader", "rest", "kind"]) fun _ _ _ _ _ _ us hl => match us, hl with | [_, _, _], _ => rfl
  have D_begin_word : Df K mg "begin_word" s_begin_word ["reader", "rest", "kind"] f_begin_word := ⟨PySem.W.mg_of X G a_begin_word, _, F_begin_word, b_begin_word⟩
  have F_begin_digits := fun_mk (st := s_begin_digits) l_begin_digits c_begin_digits k_begin_digits
  have b_begin_digits := F_begin_digits.binds (ps := ["c"]) fun _ _ _ _ _ _ us hl => match us, hl with | [_], _ => rfl
  have D_begin_digits : Df K mg "begin_digits" s_begin_digits ["c"] f_begin_digits := ⟨PySem.W.mg_of X G a_begin_digits, _, F_begin_digits, b_begin_digits⟩
  have F_take_value := fun_mk (st := s_take_value) l_take_value c_take_value k_take_value
  have b_take_value := F_take_value.binds (ps := ["reader", "c"]) fun _ _ _ _ _ _ us hl => match us, hl with | [_, _], _ => rfl
  have D_take_value : Df K mg "take_value" s_take_value ["reader", "c"] f_take_value := ⟨PySem.W.mg_of X G a_take_value, _, F_take_value, b_take_value⟩
  have F_take_first := fun_mk (st := s_take_first) l_take_first c_take_first k_take_first
  have b_take_first := F_take_first.binds (ps := ["reader", "c"]) fun _ _ _ _ _ _ us hl => match us, hl with | [_, _], _ => rfl
  have D_take_first : Df K mg "take_first" s_take_first ["reader", "c"] f_take_first := ⟨PySem.W.mg_of X G a_take_first, _, F_take_first, b_take_first⟩
  have F_take_member := fun_mk (st := s_take_member) l_take_member c_take_member k_take_member
  have b_take_member := F_take_member.binds (ps := ["reader", "c"]) fun _ _ _ _ _ _ us hl => match us, hl with | [_, _], _ => rfl
  have D_take_member : Df K mg "take_member" s_take_member ["reader", "c"] f_take_member := ⟨PySem.W.mg_of X G a_take_member, _, F_take_member, b_take_member⟩
  have F_take_key := fun_mk (st := s_take_key) l_take_key c_take_key k_take_key
  have b_take_key := F_take_key.binds (ps := ["reader", "c"]) fun _ _ _ _ _ _ us hl => match us, hl with | [_, _], _ => rfl
  have D_take_key : Df K mg "take_key" s_take_key ["reader", "c"] f_take_key := ⟨PySem.W.mg_of X G a_take_key, _, F_take_key, b_take_key⟩
  have F_take_colon := fun_mk (st := s_take_colon) l_take_colon c_take_colon k_take_colon
  have b_take_colon := F_take_colon.binds (ps := ["reader", "c"]) fun _ _ _ _ _ _ us hl => match us, hl with | [_, _], _ => rfl
  have D_take_colon : Df K mg "take_colon" s_take_colon ["reader", "c"] f_take_colon := ⟨PySem.W.mg_of X G a_take_colon, _, F_take_colon, b_take_colon⟩
  have F_take_after := fun_mk (st := s_take_after) l_take_after c_take_after k_take_after
  have b_take_after := F_take_after.binds (ps := ["reader", "c"]) fun _ _ _ _ _ _ us hl => match us, hl with | [_, _], _ => rfl
  have D_take_after : Df K mg "take_after" s_take_after ["reader", "c"] f_take_after := ⟨PySem.W.mg_of X G a_take_after, _, F_take_after, b_take_after⟩
  have F_take_after_item := fun_mk (st := s_take_after_item) l_take_after_item c_take_after_item k_take_after_item
  have b_take_after_item := F_take_after_item.binds (ps := ["reader", "c"]) fun _ _ _ _ _ _ us hl => match us, hl with | [_, _], _ => rfl
  have D_take_after_item : Df K mg "take_after_item" s_take_after_item ["reader", "c"] f_take_after_item := ⟨PySem.W.mg_of X G a_take_after_item, _, F_take_after_item, b_take_after_item⟩
  have F_take_after_member := fun_mk (st := s_take_after_member) l_take_after_member c_take_after_member k_take_after_member
  have b_take_after_member := F_take_after_member.binds (ps := ["reader", "c"]) fun _ _ _ _ _ _ us hl => match us, hl with | [_, _], _ => rfl
  have D_take_after_member : Df K mg "take_after_member" s_take_after_member ["reader", "c"] f_take_after_member := ⟨PySem.W.mg_of X G a_take_after_member, _, F_take_after_member, b_take_after_member⟩
  have F_take_string := fun_mk (st := s_take_string) l_take_string c_take_string k_take_string
  have b_take_string := F_take_string.binds (ps := ["reader", "c"]) fun _ _ _ _ _ _ us hl => match us, hl with | [_, _], _ => rfl
  have D_take_string : Df K mg "take_string" s_take_string ["reader", "c"] f_take_string := ⟨PySem.W.mg_of X G a_take_string, _, F_take_string, b_take_string⟩
  have F_end_string := fun_mk (st := s_end_string) l_end_string c_end_string k_end_string
  have b_end_string := F_end_string.binds (ps := ["reader"]) fun _ _ _ _ _ _ us hl => match us, hl with | [_], _ => rfl
  have D_end_string : Df K mg "end_string" s_end_string ["reader"] f_end_string := ⟨PySem.W.mg_of X G a_end_string, _, F_end_string, b_end_string⟩
  have F_take_escape := fun_mk (st := s_take_escape) l_take_escape c_take_escape k_take_escape
  have b_take_escape := F_take_escape.binds (ps := ["reader", "c"]) fun _ _ _ _ _ _ us hl => match us, hl with | [_, _], _ => rfl
  have D_take_escape : Df K mg "take_escape" s_take_escape ["reader", "c"] f_take_escape := ⟨PySem.W.mg_of X G a_take_escape, _, F_take_escape, b_take_escape⟩
  have F_take_hex := fun_mk (st := s_take_hex) l_take_hex c_take_hex k_take_hex
  have b_take_hex := F_take_hex.binds (ps := ["reader", "c"]) fun _ _ _ _ _ _ us hl => match us, hl with | [_, _], _ => rfl
  have D_take_hex : Df K mg "take_hex" s_take_hex ["reader", "c"] f_take_hex := ⟨PySem.W.mg_of X G a_take_hex, _, F_take_hex, b_take_hex⟩
  have F_take_minus := fun_mk (st := s_take_minus) l_take_minus c_take_minus k_take_minus
  have b_take_minus := F_take_minus.binds (ps := ["reader", "c"]) fun _ _ _ _ _ _ us hl => match us, hl with | [_, _], _ => rfl
  have D_take_minus : Df K mg "take_minus" s_take_minus ["reader", "c"] f_take_minus := ⟨PySem.W.mg_of X G a_take_minus, _, F_take_minus, b_take_minus⟩
  have F_take_zero := fun_mk (st := s_take_zero) l_take_zero c_take_zero k_take_zero
  have b_take_zero := F_take_zero.binds (ps := ["reader", "c"]) fun _ _ _ _ _ _ us hl => match us, hl with | [_, _], _ => rfl
  have D_take_zero : Df K mg "take_zero" s_take_zero ["reader", "c"] f_take_zero := ⟨PySem.W.mg_of X G a_take_zero, _, F_take_zero, b_take_zero⟩
  have F_take_whole := fun_mk (st := s_take_whole) l_take_whole c_take_whole k_take_whole
  have b_take_whole := F_take_whole.binds (ps := ["reader", "c"]) fun _ _ _ _ _ _ us hl => match us, hl with | [_, _], _ => rfl
  have D_take_whole : Df K mg "take_whole" s_take_whole ["reader", "c"] f_take_whole := ⟨PySem.W.mg_of X G a_take_whole, _, F_take_whole, b_take_whole⟩
  have F_take_point := fun_mk (st := s_take_point) l_take_point c_take_point k_take_point
  have b_take_point := F_take_point.binds (ps := ["reader", "c"]) fun _ _ _ _ _ _ us hl => match us, hl with | [_, _], _ => rfl
  have D_take_point : Df K mg "take_point" s_take_point ["reader", "c"] f_take_point := ⟨PySem.W.mg_of X G a_take_point, _, F_take_point, b_take_point⟩
  have F_take_fraction := fun_mk (st := s_take_fraction) l_take_fraction c_take_fraction k_take_fraction
  have b_take_fraction := F_take_fraction.binds (ps := ["reader", "c"]) fun _ _ _ _ _ _ us hl => match us, hl with | [_, _], _ => rfl
  have D_take_fraction : Df K mg "take_fraction" s_take_fraction ["reader", "c"] f_take_fraction := ⟨PySem.W.mg_of X G a_take_fraction, _, F_take_fraction, b_take_fraction⟩
  have F_take_mark_or_end := fun_mk (st := s_take_mark_or_end) l_take_mark_or_end c_take_mark_or_end k_take_mark_or_end
  have b_take_mark_or_end := F_take_mark_or_end.binds (ps := ["reader", "c"]) fun _ _ _ _ _ _ us hl => match us, hl with | [_, _], _ => rfl
  have D_take_mark_or_end : Df K mg "take_mark_or_end" s_take_mark_or_end ["reader", "c"] f_take_mark_or_end := ⟨PySem.W.mg_of X G a_take_mark_or_end, _, F_take_mark_or_end, b_take_mark_or_end⟩
  have F_take_e := fun_mk (st := s_take_e) l_take_e c_take_e k_take_e
  have b_take_e := F_take_e.binds (ps := ["reader", "c"]) fun _ _ _ _ _ _ us hl => match us, hl with | [_, _], _ => rfl
  have D_take_e : Df K mg "take_e" s_take_e ["reader", "c"] f_take_e := ⟨PySem.W.mg_of X G a_take_e, _, F_take_e, b_take_e⟩
  have F_take_sign := fun_mk (st := s_take_sign) l_take_sign c_take_sign k_take_sign
  have b_take_sign := F_take_sign.binds (ps := ["reader", "c"]) fun _ _ _ _ _ _ us hl => match us, hl with | [_, _], _ => rfl
  have D_take_sign : Df K mg "take_sign" s_take_sign ["reader", "c"] f_take_sign := ⟨PySem.W.mg_of X G a_take_sign, _, F_take_sign, b_take_sign⟩
  have F_take_exponent := fun_mk (st := s_take_exponent) l_take_exponent c_take_exponent k_take_exponent
  have b_take_exponent := F_take_exponent.binds (ps := ["reader", "c"]) fun _ _ _ _ _ _ us hl => match us, hl with | [_, _], _ => rfl
  have D_take_exponent : Df K mg "take_exponent" s_take_exponent ["reader", "c"] f_take_exponent := ⟨PySem.W.mg_of X G a_take_exponent, _, F_take_exponent, b_take_exponent⟩
  have F_end_number := fun_mk (st := s_end_number) l_end_number c_end_number k_end_number
  have b_end_number := F_end_number.binds (ps := ["reader", "c"]) fun _ _ _ _ _ _ us hl => match us, hl with | [_, _], _ => rfl
  have D_end_number : Df K mg "end_number" s_end_number ["reader", "c"] f_end_number := ⟨PySem.W.mg_of X G a_end_number, _, F_end_number, b_end_number⟩
  have F_take_word := fun_mk (st := s_take_word) l_take_word c_take_word k_take_word
  have b_take_word := F_take_word.binds (ps := ["reader", "c"]) fun _ _ _ _ _ _ us hl => match us, hl with | [_, _], _ => rfl
  have D_take_word : Df K mg "take_word" s_take_word ["reader", "c"] f_take_word := ⟨PySem.W.mg_of X G a_take_word, _, F_take_word, b_take_word⟩
  have F_take_bad := fun_mk (st := s_take_bad) l_take_bad c_take_bad k_take_bad
  have b_take_bad := F_take_bad.binds (ps := ["reader", "c"]) fun _ _ _ _ _ _ us hl => match us, hl with | [_, _], _ => rfl
  have D_take_bad : Df K mg "take_bad" s_take_bad ["reader", "c"] f_take_bad := ⟨PySem.W.mg_of X G a_take_bad, _, F_take_bad, b_take_bad⟩
  have F_step := fun_mk (st := s_step) l_step c_step k_step
  have b_step := F_step.binds (ps := ["reader", "c"]) fun _ _ _ _ _ _ us hl => match us, hl with | [_, _], _ => rfl
  have D_step : Df K mg "step" s_step ["reader", "c"] f_step := ⟨PySem.W.mg_of X G a_step, _, F_step, b_step⟩
  have F_clear := fun_mk (st := s_clear) l_clear c_clear k_clear
  have b_clear := F_clear.binds (ps := ["reader"]) fun _ _ _ _ _ _ us hl => match us, hl with | [_], _ => rfl
  have D_clear : Df K mg "clear" s_clear ["reader"] f_clear := ⟨PySem.W.mg_of X G a_clear, _, F_clear, b_clear⟩
  have F_take := fun_mk (st := s_take) l_take c_take k_take
  have b_take := F_take.binds (ps := ["reader", "c"]) fun _ _ _ _ _ _ us hl => match us, hl with | [_, _], _ => rfl
  have D_take : Df K mg "take" s_take ["reader", "c"] f_take := ⟨PySem.W.mg_of X G a_take, _, F_take, b_take⟩
  have F_run := fun_mk (st := s_run) l_run c_run k_run
  have b_run := F_run.binds (ps := ["reader", "data"]) fun _ _ _ _ _ _ us hl => match us, hl with | [_, _], _ => rfl
  have D_run : Df K mg "run" s_run ["reader", "data"] f_run := ⟨PySem.W.mg_of X G a_run, _, F_run, b_run⟩
  have F_state_of := fun_mk (st := s_state_of) l_state_of c_state_of k_state_of
  have b_state_of := F_state_of.binds (ps := ["k"]) fun _ _ _ _ _ _ us hl => match us, hl with | [_], _ => rfl
  have D_state_of : Df K mg "state_of" s_state_of ["k"] f_state_of := ⟨PySem.W.mg_of X G a_state_of, _, F_state_of, b_state_of⟩
  have F_table := fun_mk (st := s_table) l_table c_table k_table
  have b_table := F_table.binds (ps := []) fun _ _ _ _ _ _ us hl => match us, hl with | [], _ => rfl
  have D_table : Df K mg "table" s_table [] f_table := ⟨PySem.W.mg_of X G a_table, _, F_table, b_table⟩
  have F_ends := fun_mk (st := s_ends) l_ends c_ends k_ends
  have b_ends := F_ends.binds (ps := ["reader"]) fun _ _ _ _ _ _ us hl => match us, hl with | [_], _ => rfl
  have D_ends : Df K mg "ends" s_ends ["reader"] f_ends := ⟨PySem.W.mg_of X G a_ends, _, F_ends, b_ends⟩
  have F_depth := fun_mk (st := s_depth) l_depth c_depth k_depth
  have b_depth := F_depth.binds (ps := ["reader"]) fun _ _ _ _ _ _ us hl => match us, hl with | [_], _ => rfl
  have D_depth : Df K mg "depth" s_depth ["reader"] f_depth := ⟨PySem.W.mg_of X G a_depth, _, F_depth, b_depth⟩
  have F_seen := fun_mk (st := s_seen) l_seen c_seen k_seen
  have b_seen := F_seen.binds (ps := ["reader", "kind"]) fun _ _ _ _ _ _ us hl => match us, hl with | [_, _], _ => rfl
  have D_seen : Df K mg "seen" s_seen ["reader", "kind"] f_seen := ⟨PySem.W.mg_of X G a_seen, _, F_seen, b_seen⟩
  have F_call_length := fun_mk (st := s_call_length) l_call_length c_call_length k_call_length
  have b_call_length := F_call_length.binds (ps := ["calls", "at"]) fun _ _ _ _ _ _ us hl => match us, hl with | [_, _], _ => rfl
  have D_call_length : Df K mg "call_length" s_call_length ["calls", "at"] f_call_length := ⟨PySem.W.mg_of X G a_call_length, _, F_call_length, b_call_length⟩
  have F_answer := fun_mk (st := s_answer) l_answer c_answer k_answer
  have b_answer := F_answer.binds (ps := ["reader", "call"]) fun _ _ _ _ _ _ us hl => match us, hl with | [_, _], _ => rfl
  have D_answer : Df K mg "answer" s_answer ["reader", "call"] f_answer := ⟨PySem.W.mg_of X G a_answer, _, F_answer, b_answer⟩
  have F_answers := fun_mk (st := s_answers) l_answers c_answers k_answers
  have b_answers := F_answers.binds (ps := ["calls"]) fun _ _ _ _ _ _ us hl => match us, hl with | [_], _ => rfl
  have D_answers : Df K mg "answers" s_answers ["calls"] f_answers := ⟨PySem.W.mg_of X G a_answers, _, F_answers, b_answers⟩
  have e := hfa.symm.trans (PySem.W.mg_of X G a_answers)
  cases e
  refine ⟨PySem.W.fnOf "answers" "answers" (defArgs s_answers) (defBody s_answers) (defScope s_answers) .none kV_answers dc_answers pm_answers an_answers cd_answers ct_answers, fun s v => .of_eq rfl, fun base _ _ => ?_⟩
  have G_is_digit := ok_is_digit (P := P) (w := w) (base := base) D_is_digit T
  have G_is_hex_digit := ok_is_hex_digit D_is_hex_digit T G_is_digit
  have G_begin_digits := ok_begin_digits D_begin_digits T G_is_digit
  have G_is_one_of := ok_is_one_of (P := P) (w := w) (base := base) D_is_one_of T
  have G_end_value := ok_end_value (P := P) (w := w) (base := base) D_end_value T
  have G_go_into := ok_go_into (P := P) (w := w) (base := base) D_go_into T
  have G_close_innermost := ok_close_innermost D_close_innermost T G_end_value
  have G_begin_string := ok_begin_string (P := P) (w := w) (base := base) D_begin_string T
  have G_begin_word := ok_begin_word (P := P) (w := w) (base := base) D_begin_word T
  have G_take_value := ok_take_value D_take_value T G_go_into G_begin_string G_begin_word G_begin_digits
  have G_take_first := ok_take_first D_take_first T G_close_innermost G_take_value
  have G_take_key := ok_take_key D_take_key T G_begin_string
  have G_take_member := ok_take_member D_take_member T G_close_innermost G_take_key
  have G_take_colon := ok_take_colon (P := P) (w := w) (base := base) D_take_colon T
  have G_take_after_item := ok_take_after_item D_take_after_item T G_close_innermost
  have G_take_after_member := ok_take_after_member D_take_after_member T G_close_innermost
  have G_take_after := ok_take_after D_take_after T G_take_after_item G_take_after_member
  have G_end_string := ok_end_string D_end_string T G_end_value
  have G_take_string := ok_take_string D_take_string T G_end_string
  have G_take_escape := ok_take_escape D_take_escape T G_is_one_of
  have G_take_hex := ok_take_hex D_take_hex T G_is_hex_digit
  have G_take_minus := ok_take_minus D_take_minus T G_begin_digits
  have G_end_number := ok_end_number D_end_number T G_end_value G_take_after
  have G_take_mark_or_end := ok_take_mark_or_end D_take_mark_or_end T G_is_one_of G_end_number
  have G_take_zero := ok_take_zero D_take_zero T G_take_mark_or_end
  have G_take_whole := ok_take_whole D_take_whole T G_is_digit G_take_zero
  have G_take_point := ok_take_point D_take_point T G_is_digit
  have G_take_fraction := ok_take_fraction D_take_fraction T G_is_digit G_take_mark_or_end
  have G_take_sign := ok_take_sign D_take_sign T G_is_digit
  have G_take_e := ok_take_e D_take_e T G_is_one_of G_take_sign
  have G_take_exponent := ok_take_exponent D_take_exponent T G_is_digit G_end_number
  have G_take_word := ok_take_word D_take_word T G_end_value
  have G_take_bad := ok_take_bad (P := P) (w := w) (base := base) D_take_bad T
  have hL : ∀ f sp, (∃ i, [f_take_value, f_take_first, f_take_member, f_take_key, f_take_colon, f_take_after, f_take_string, f_take_escape, f_take_hex, f_take_minus, f_take_zero, f_take_whole, f_take_point, f_take_fraction, f_take_e, f_take_sign, f_take_exponent, f_take_word, f_take_bad][i]? = some f ∧ sp = spT C i) → ∃ y ps, Fn P w K mg base 8 y ps f sp := by
    rintro f sp ⟨i, hi, rfl⟩
    match i, hi with
    | 0, hi => cases hi; exact ⟨_, _, G_take_value.mono (by decide)⟩
    | 1, hi => cases hi; exact ⟨_, _, G_take_first.mono (by decide)⟩
    | 2, hi => cases hi; exact ⟨_, _, G_take_member.mono (by decide)⟩
    | 3, hi => cases hi; exact ⟨_, _, G_take_key.mono (by decide)⟩
    | 4, hi => cases hi; exact ⟨_, _, G_take_colon.mono (by decide)⟩
    | 5, hi => cases hi; exact ⟨_, _, G_take_after.mono (by decide)⟩
    | 6, hi => cases hi; exact ⟨_, _, G_take_string.mono (by decide)⟩
    | 7, hi => cases hi; exact ⟨_, _, G_take_escape.mono (by decide)⟩
    | 8, hi => cases hi; exact ⟨_, _, G_take_hex.mono (by decide)⟩
    | 9, hi => cases hi; exact ⟨_, _, G_take_minus.mono (by decide)⟩
    | 10, hi => cases hi; exact ⟨_, _, G_take_zero.mono (by decide)⟩
    | 11, hi => cases hi; exact ⟨_, _, G_take_whole.mono (by decide)⟩
    | 12, hi => cases hi; exact ⟨_, _, G_take_point.mono (by decide)⟩
    | 13, hi => cases hi; exact ⟨_, _, G_take_fraction.mono (by decide)⟩
    | 14, hi => cases hi; exact ⟨_, _, G_take_e.mono (by decide)⟩
    | 15, hi => cases hi; exact ⟨_, _, G_take_sign.mono (by decide)⟩
    | 16, hi => cases hi; exact ⟨_, _, G_take_exponent.mono (by decide)⟩
    | 17, hi => cases hi; exact ⟨_, _, G_take_word.mono (by decide)⟩
    | 18, hi => cases hi; exact ⟨_, _, G_take_bad.mono (by decide)⟩
    | n + 19, hi => simp at hi
  have G_step := ok_step D_step T rfl hL
  have G_take := ok_take D_take T G_step
  have G_run := ok_run D_run T G_step
  have G_state_of := ok_state_of (P := P) (w := w) (base := base) D_state_of T
  have G_begin := ok_begin (P := P) (w := w) (base := base) F_Reader_begin T
  have G_init := ok_init F_Reader_init T G_begin b_Reader_begin
  have G_clear := ok_clear D_clear T G_begin b_Reader_begin
  have G_call_length := ok_call_length (P := P) (w := w) (base := base) D_call_length T
  have G_table := ok_table (P := P) (w := w) (base := base) D_table T
  have G_ends := ok_ends (P := P) (w := w) (base := base) D_ends T
  have G_depth := ok_depth (P := P) (w := w) (base := base) D_depth T
  have G_seen := ok_seen (P := P) (w := w) (base := base) D_seen T
  have G_answer := ok_answer D_answer T G_clear G_take G_run G_state_of G_table G_ends G_depth G_seen
  exact ok_answers F_answers T ⟨mkC, a_Reader_init, i_Reader_init, kcC⟩ G_init b_Reader_init G_call_length G_answer
end JS
namespace JS
open PySem PySem.W PySem.Calls PyProof.Rows L2
theorem reads_ints {R : PySem.W.WRecords} {cl : Str → Option Addr} {h : Heap} : ∀ {its : List Value} {ns : List Int}, IntsAre its ns → ∃ as, PySem.W.ReadsAllW R cl h its (ns.map PySem.W.WData.int) as
  | _, _, .nil => ⟨_, .nil⟩
  | _, _, .cons n t r => let ⟨_, q⟩ := reads_ints r; ⟨_, .cons (.int n t) q⟩
theorem walkS {q : Program} {loose : List Str} {XP : (Str → Option Value) → Heap → Prop} {YP : World → Heap → Prop} {d : DefRec} {K : Params → Frag} (said : PySem.Challenge.rw_jsonstates_s01_answers.wellSaid = true) (hdf : d.params.defaults = [])
    (hY : ∀ (w : World) (h : Heap), YP w h → (K w.params).In h)
    (F : ∀ (w : World) (mg : Str → Option Value) (fa : Addr) (h : Heap), (K w.params).In h → h.Ns mainGlobals mg → mg d.name = some (.ref fa) →
      ∃ fd : FuncData, (∀ (s : Shared) (u : Value), BindsTo s fd ⟨[u], []⟩ [("calls", u)]) ∧
        ∀ base : Heap, (K w.params).In base → base.Ns mainGlobals mg → FnOk PySem.Challenge.rw_jsonstates_s01_answers.prog w (K w.params) mg base CX0 13 fa fd ["calls"] (spAnswers (K w.params))) :
    WalkOS q loose XP YP PySem.Challenge.rw_jsonstates_s01_answers d [] (fun f vs => PySem.call f vs) := by
  intro w s₀ s₁ mg mb G Y fa o pm cd doc dV kV ho hd hcd hD hmg hg args vals as hpre hlay hrd hwl hlo
  obtain rfl : dV = .none := Dflts.none hD hdf
  obtain rfl : kV = .none := Dflts.noKw hD
  obtain ⟨⟨ns, u⟩, hw, hask, rfl⟩ := (OpenSpec.pre_iff said args).mp hpre
  have hask' : PySf08.answers_asked ns = true := hask
  have hlen : ns.length ≤ 30000 := by
    have h1 := (Bool.and_eq_true_iff.mp (show ((Codec.inLen 0 30000 ns && ns.all (Codec.inInt (-2147483648) 2147483647)) && true) = true from hw)).1
    exact (Codec.inNat_iff.mp (Bool.and_eq_true_iff.mp h1).1).2
  have hwl' : WellAll w.params s₁.heap vals [WData.list (ns.map WData.int)] := hwl
  have hobj : ∃ a vs, vals = [Value.ref a] ∧ s₁.heap.get? a = some { cls := .type "list", data := .seq vs.toArray } ∧ IntsAre vs ns := by
    cases hwl' with
    | cons w1 w2 =>
      cases w2
      cases w1 with
      | list ho hall => exact ⟨_, _, rfl, ho, Att.ints_of_wellAll ns _ hall⟩
  obtain ⟨a, vs, rfl, hget, hints⟩ := hobj
  have KX := hY w _ Y
  obtain ⟨fd, hb, hF⟩ := F w mg fa _ KX G.T.g hmg
  refine enter_call (codeAny_mono (spec_call (out := PySf08.answers ns) KX G.T.g G.T.b G.T.builtins G.T.nolimit hg hget hints (Nat.le_trans hlen (by decide)) ⟨rfl, by decide, by decide⟩ hF hb
    (fun H hO hS => ⟨a, ns, rfl, hS, hlen, hask', fun H' p hp => ⟨p, rfl, hp⟩⟩) fun H e s' h => h) fun r s' hq => ?_)
  obtain ⟨⟨p, its, n, rfl, hp, hi⟩, h2, h3, h4⟩ := hq
  obtain ⟨as', hr'⟩ := reads_ints (R := []) (cl := classAt s₀.heap) (h := s'.heap) hi
  exact ⟨.inl ⟨.ref p, .list ((PySf08.answers ns).map WData.int), _, rfl, osNone, .list hp rfl rfl hr', (OpenSpec.post_iff said hw _ _).mpr rfl, fun h => absurd h Bool.false_ne_true⟩, h2, h3, h4⟩
end JS
open PySem PySem.W PyProof.Rows
set_option maxRecDepth 100000 in
set_option maxHeartbeats 0 in
theorem PySem.Challenge.cw_jsonstates_s01_answers_holds : PySem.Challenge.rw_jsonstates_s01_answers.Holds := by
  w_on; k_headS; (case hw => exact ⟨[.list [.int 1]], by decide +kernel, by decide +kernel⟩)
  k_fillS
  refine JS.walkS (by decide +kernel) rfl (fun w h Y => PySem.W.kIn_of Y) ?F
  case F =>
    intro w mg fa h KX G hmg
    refine' JS.all_mk KX G hmg ?z_VALUE ?z_FIRST ?z_MEMBER ?z_KEY ?z_COLON ?z_AFTER ?z_STRING ?z_ESCAPE ?z_HEX ?z_MINUS ?z_ZERO ?z_WHOLE ?z_POINT ?z_FRACTION ?z_E ?z_SIGN ?z_EXPONENT ?z_WORD ?z_BAD ?z_KIND_NULL ?z_KIND_FALSE ?z_KIND_TRUE ?z_KIND_NUMBER ?z_KIND_STRING ?z_KIND_ARRAY ?z_KIND_OBJECT ?z_KIND_KEY ?z_KINDS ?z_CALL_CLEAR ?z_CALL_TAKE ?z_CALL_RUN ?z_CALL_OF ?z_CALL_TABLE ?z_CALL_ENDS ?z_CALL_DEPTH ?z_CALL_SEEN ?z_REFUSED ?z_MOST_NESTED ?z_MOST_BYTES ?z_HIGHEST_BYTE ?z_HEX_DIGITS ?z_COUNTS_TOLD ?aC ?a_Reader_init ?i_Reader_init ?l_Reader_init ?c_Reader_init ?k_Reader_init ?a_Reader_begin ?i_Reader_begin ?l_Reader_begin ?c_Reader_begin ?k_Reader_begin ?a_is_one_of ?l_is_one_of ?c_is_one_of ?k_is_one_of ?a_is_digit ?l_is_digit ?c_is_digit ?k_is_digit ?a_is_hex_digit ?l_is_hex_digit ?c_is_hex_digit ?k_is_hex_digit ?a_end_value ?l_end_value ?c_end_value ?k_end_value ?a_go_into ?l_go_into ?c_go_into ?k_go_into ?a_close_innermost ?l_close_innermost ?c_close_innermost ?k_close_innermost ?a_begin_string ?l_begin_string ?c_begin_string ?k_begin_string ?a_begin_word ?l_begin_word ?c_begin_word ?k_begin_word ?a_begin_digits ?l_begin_digits ?c_begin_digits ?k_begin_digits ?a_take_value ?l_take_value ?c_take_value ?k_take_value ?a_take_first ?l_take_first ?c_take_first ?k_take_first ?a_take_member ?l_take_member ?c_take_member ?k_take_member ?a_take_key ?l_take_key ?c_take_key ?k_take_key ?a_take_colon ?l_take_colon ?c_take_colon ?k_take_colon ?a_take_after ?l_take_after ?c_take_after ?k_take_after ?a_take_after_item ?l_take_after_item ?c_take_after_item ?k_take_after_item ?a_take_after_member ?l_take_after_member ?c_take_after_member ?k_take_after_member ?a_take_string ?l_take_string ?c_take_string ?k_take_string ?a_end_string ?l_end_string ?c_end_string ?k_end_string ?a_take_escape ?l_take_escape ?c_take_escape ?k_take_escape ?a_take_hex ?l_take_hex ?c_take_hex ?k_take_hex ?a_take_minus ?l_take_minus ?c_take_minus ?k_take_minus ?a_take_zero ?l_take_zero ?c_take_zero ?k_take_zero ?a_take_whole ?l_take_whole ?c_take_whole ?k_take_whole ?a_take_point ?l_take_point ?c_take_point ?k_take_point ?a_take_fraction ?l_take_fraction ?c_take_fraction ?k_take_fraction ?a_take_mark_or_end ?l_take_mark_or_end ?c_take_mark_or_end ?k_take_mark_or_end ?a_take_e ?l_take_e ?c_take_e ?k_take_e ?a_take_sign ?l_take_sign ?c_take_sign ?k_take_sign ?a_take_exponent ?l_take_exponent ?c_take_exponent ?k_take_exponent ?a_end_number ?l_end_number ?c_end_number ?k_end_number ?a_take_word ?l_take_word ?c_take_word ?k_take_word ?a_take_bad ?l_take_bad ?c_take_bad ?k_take_bad ?a_step ?l_step ?c_step ?k_step ?a_clear ?l_clear ?c_clear ?k_clear ?a_take ?l_take ?c_take ?k_take ?a_run ?l_run ?c_run ?k_run ?a_state_of ?l_state_of ?c_state_of ?k_state_of ?a_table ?l_table ?c_table ?k_table ?a_ends ?l_ends ?c_ends ?k_ends ?a_depth ?l_depth ?c_depth ?k_depth ?a_seen ?l_seen ?c_seen ?k_seen ?a_call_length ?l_call_length ?c_call_length ?k_call_length ?a_answer ?l_answer ?c_answer ?k_answer ?a_answers ?l_answers ?c_answers ?k_answers ?a_SPACES ?l_SPACES ?e_SPACES ?a_STEPS ?l_STEPS ?e_STEPS ?z_ord ?z_len ?z_list ?z_range ?pgC ?hdC ?poC ?saC ?mkC ?kcC ?n_state ?n_nested ?n_counts ?n_in_key ?n_digits_left ?n_word_rest ?n_word_kind
    (case z_VALUE => k_is)
    (case z_FIRST => k_is)
    (case z_MEMBER => k_is)
    (case z_KEY => k_is)
    (case z_COLON => k_is)
    (case z_AFTER => k_is)
    (case z_STRING => k_is)
    (case z_ESCAPE => k_is)
    (case z_HEX => k_is)
    (case z_MINUS => k_is)
    (case z_ZERO => k_is)
    (case z_WHOLE => k_is)
    (case z_POINT => k_is)
    (case z_FRACTION => k_is)
    (case z_E => k_is)
    (case z_SIGN => k_is)
    (case z_EXPONENT => k_is)
    (case z_WORD => k_is)
    (case z_BAD => k_is)
    (case z_KIND_NULL => k_is)
    (case z_KIND_FALSE => k_is)
    (case z_KIND_TRUE => k_is)
    (case z_KIND_NUMBER => k_is)
    (case z_KIND_STRING => k_is)
    (case z_KIND_ARRAY => k_is)
    (case z_KIND_OBJECT => k_is)
    (case z_KIND_KEY => k_is)
    (case z_KINDS => k_is)
    (case z_CALL_CLEAR => k_is)
    (case z_CALL_TAKE => k_is)
    (case z_CALL_RUN => k_is)
    (case z_CALL_OF => k_is)
    (case z_CALL_TABLE => k_is)
    (case z_CALL_ENDS => k_is)
    (case z_CALL_DEPTH => k_is)
    (case z_CALL_SEEN => k_is)
    (case z_REFUSED => k_is)
    (case z_MOST_NESTED => k_is)
    (case z_MOST_BYTES => k_is)
    (case z_HIGHEST_BYTE => k_is)
    (case z_HEX_DIGITS => k_is)
    (case z_COUNTS_TOLD => k_is)
    (case aC => k_is)
    (case a_Reader_init => k_is)
    (case i_Reader_init => k_is)
    (case l_Reader_init => k_is)
    (case c_Reader_init => k_is)
    (case k_Reader_init => k_is)
    (case a_Reader_begin => k_is)
    (case i_Reader_begin => k_is)
    (case l_Reader_begin => k_is)
    (case c_Reader_begin => k_is)
    (case k_Reader_begin => k_is)
    (case a_is_one_of => k_is)
    (case l_is_one_of => k_is)
    (case c_is_one_of => k_is)
    (case k_is_one_of => k_is)
    (case a_is_digit => k_is)
    (case l_is_digit => k_is)
    (case c_is_digit => k_is)
    (case k_is_digit => k_is)
    (case a_is_hex_digit => k_is)
    (case l_is_hex_digit => k_is)
    (case c_is_hex_digit => k_is)
    (case k_is_hex_digit => k_is)
    (case a_end_value => k_is)
    (case l_end_value => k_is)
    (case c_end_value => k_is)
    (case k_end_value => k_is)
    (case a_go_into => k_is)
    (case l_go_into => k_is)
    (case c_go_into => k_is)
    (case k_go_into => k_is)
    (case a_close_innermost => k_is)
    (case l_close_innermost => k_is)
    (case c_close_innermost => k_is)
    (case k_close_innermost => k_is)
    (case a_begin_string => k_is)
    (case l_begin_string => k_is)
    (case c_begin_string => k_is)
    (case k_begin_string => k_is)
    (case a_begin_word => k_is)
    (case l_begin_word => k_is)
    (case c_begin_word => k_is)
    (case k_begin_word => k_is)
    (case a_begin_digits => k_is)
    (case l_begin_digits => k_is)
    (case c_begin_digits => k_is)
    (case k_begin_digits => k_is)
    (case a_take_value => k_is)
    (case l_take_value => k_is)
    (case c_take_value => k_is)
    (case k_take_value => k_is)
    (case a_take_first => k_is)
    (case l_take_first => k_is)
    (case c_take_first => k_is)
    (case k_take_first => k_is)
    (case a_take_member => k_is)
    (case l_take_member => k_is)
    (case c_take_member => k_is)
    (case k_take_member => k_is)
    (case a_take_key => k_is)
    (case l_take_key => k_is)
    (case c_take_key => k_is)
    (case k_take_key => k_is)
    (case a_take_colon => k_is)
    (case l_take_colon => k_is)
    (case c_take_colon => k_is)
    (case k_take_colon => k_is)
    (case a_take_after => k_is)
    (case l_take_after => k_is)
    (case c_take_after => k_is)
    (case k_take_after => k_is)
    (case a_take_after_item => k_is)
    (case l_take_after_item => k_is)
    (case c_take_after_item => k_is)
    (case k_take_after_item => k_is)
    (case a_take_after_member => k_is)
    (case l_take_after_member => k_is)
    (case c_take_after_member => k_is)
    (case k_take_after_member => k_is)
    (case a_take_string => k_is)
    (case l_take_string => k_is)
    (case c_take_string => k_is)
    (case k_take_string => k_is)
    (case a_end_string => k_is)
    (case l_end_string => k_is)
    (case c_end_string => k_is)
    (case k_end_string => k_is)
    (case a_take_escape => k_is)
    (case l_take_escape => k_is)
    (case c_take_escape => k_is)
    (case k_take_escape => k_is)
    (case a_take_hex => k_is)
    (case l_take_hex => k_is)
    (case c_take_hex => k_is)
    (case k_take_hex => k_is)
    (case a_take_minus => k_is)
    (case l_take_minus => k_is)
    (case c_take_minus => k_is)
    (case k_take_minus => k_is)
    (case a_take_zero => k_is)
    (case l_take_zero => k_is)
    (case c_take_zero => k_is)
    (case k_take_zero => k_is)
    (case a_take_whole => k_is)
    (case l_take_whole => k_is)
    (case c_take_whole => k_is)
    (case k_take_whole => k_is)
    (case a_take_point => k_is)
    (case l_take_point => k_is)
    (case c_take_point => k_is)
    (case k_take_point => k_is)
    (case a_take_fraction => k_is)
    (case l_take_fraction => k_is)
    (case c_take_fraction => k_is)
    (case k_take_fraction => k_is)
    (case a_take_mark_or_end => k_is)
    (case l_take_mark_or_end => k_is)
    (case c_take_mark_or_end => k_is)
    (case k_take_mark_or_end => k_is)
    (case a_take_e => k_is)
    (case l_take_e => k_is)
    (case c_take_e => k_is)
    (case k_take_e => k_is)
    (case a_take_sign => k_is)
    (case l_take_sign => k_is)
    (case c_take_sign => k_is)
    (case k_take_sign => k_is)
    (case a_take_exponent => k_is)
    (case l_take_exponent => k_is)
    (case c_take_exponent => k_is)
    (case k_take_exponent => k_is)
    (case a_end_number => k_is)
    (case l_end_number => k_is)
    (case c_end_number => k_is)
    (case k_end_number => k_is)
    (case a_take_word => k_is)
    (case l_take_word => k_is)
    (case c_take_word => k_is)
    (case k_take_word => k_is)
    (case a_take_bad => k_is)
    (case l_take_bad => k_is)
    (case c_take_bad => k_is)
    (case k_take_bad => k_is)
    (case a_step => k_is)
    (case l_step => k_is)
    (case c_step => k_is)
    (case k_step => k_is)
    (case a_clear => k_is)
    (case l_clear => k_is)
    (case c_clear => k_is)
    (case k_clear => k_is)
    (case a_take => k_is)
    (case l_take => k_is)
    (case c_take => k_is)
    (case k_take => k_is)
    (case a_run => k_is)
    (case l_run => k_is)
    (case c_run => k_is)
    (case k_run => k_is)
    (case a_state_of => k_is)
    (case l_state_of => k_is)
    (case c_state_of => k_is)
    (case k_state_of => k_is)
    (case a_table => k_is)
    (case l_table => k_is)
    (case c_table => k_is)
    (case k_table => k_is)
    (case a_ends => k_is)
    (case l_ends => k_is)
    (case c_ends => k_is)
    (case k_ends => k_is)
    (case a_depth => k_is)
    (case l_depth => k_is)
    (case c_depth => k_is)
    (case k_depth => k_is)
    (case a_seen => k_is)
    (case l_seen => k_is)
    (case c_seen => k_is)
    (case k_seen => k_is)
    (case a_call_length => k_is)
    (case l_call_length => k_is)
    (case c_call_length => k_is)
    (case k_call_length => k_is)
    (case a_answer => k_is)
    (case l_answer => k_is)
    (case c_answer => k_is)
    (case k_answer => k_is)
    (case a_answers => k_is)
    (case l_answers => k_is)
    (case c_answers => k_is)
    (case k_answers => k_is)
    (case a_SPACES => k_is)
    (case l_SPACES => k_is)
    (case e_SPACES => rfl)
    (case a_STEPS => k_is)
    (case l_STEPS => k_is)
    (case e_STEPS => rfl)
    (case z_ord => k_is)
    (case z_len => k_is)
    (case z_list => k_is)
    (case z_range => k_is)
    (case pgC => k_is)
    (case hdC => k_is)
    (case poC => k_is)
    (case saC => k_is)
    (case mkC => k_is)
    (case kcC => k_is)
    (case n_state => k_is)
    (case n_nested => k_is)
    (case n_counts => k_is)
    (case n_in_key => k_is)
    (case n_digits_left => k_is)
    (case n_word_rest => k_is)
    (case n_word_kind => k_is)
