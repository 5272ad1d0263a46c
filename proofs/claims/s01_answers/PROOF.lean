import PyProof.Rows.All
import Wide.All
import OpenK.AllK
import Wide.FinOn
import PyProof.EqAt
import PyProof.EqKinds
import PyProof.TupleCall
import KE.BitLaws
import Open.SpecLaws
import KE.OsHead
import KE.OsGo
import KE.KTryMore
import KE.RegKTryMore
import PyProof.Rows.SortShellAny
import PySem.Challenge.RW_madeconceded_s01_answers
section
set_option Elab.async false
set_option linter.all false
set_option maxRecDepth 100000
namespace L2
open PySem PySem.Spec PyProof.Rows

abbrev Key := Sum Int Str
def keyIs : Key → Value → Bool
  | .inl k, v => Value.isInt k v
  | .inr x, v => Value.isStrOf x v
def keyH (w : World) : Key → Int
  | .inl k => hashInt k
  | .inr x => hashStr w x
theorem keyIs_shape : ∀ {k : Key} {v : Value}, keyIs k v = true → (∃ i t, k = Sum.inl i ∧ v = Value.int i t) ∨ (∃ x t, k = Sum.inr x ∧ v = Value.str x t)
  | .inl i, v, h => by
    obtain ⟨t, e⟩ := Value.isInt_shape (k := i) (v := v) h
    exact .inl ⟨i, t, rfl, e⟩
  | .inr x, v, h => by
    obtain ⟨t, e⟩ := Value.isStrOf_shape (x := x) (v := v) h
    exact .inr ⟨x, t, rfl, e⟩
theorem keyIs_int (i : Int) (t : Tok) : keyIs (.inl i) (.int i t) = true := by simp [keyIs, Value.isInt]
theorem keyIs_str (x : Str) (t : Tok) : keyIs (.inr x) (.str x t) = true := by simp [keyIs, Value.isStrOf]
theorem key_ll (a b : Int) : decide ((Sum.inl a : Key) = Sum.inl b) = (a == b) := by
  by_cases e : a = b
  · subst e; simp
  · have h : ¬ (Sum.inl a : Key) = Sum.inl b := fun q => e (Sum.inl.inj q)
    rw [decide_eq_false h]
    exact (beq_eq_false_iff_ne.mpr e).symm
theorem key_rr (a b : Str) : decide ((Sum.inr a : Key) = Sum.inr b) = decide (a = b) := by
  by_cases e : a = b
  · subst e; simp
  · have h : ¬ (Sum.inr a : Key) = Sum.inr b := fun q => e (Sum.inr.inj q)
    rw [decide_eq_false h, decide_eq_false e]
theorem key_lr (a : Int) (b : Str) : decide ((Sum.inl a : Key) = Sum.inr b) = false := decide_eq_false (fun q => nomatch q)
theorem key_rl (a : Str) (b : Int) : decide ((Sum.inr a : Key) = Sum.inl b) = false := decide_eq_false (fun q => nomatch q)

def mixKind (prog : Program) (w : World) : PySem.KeyKind prog w Key where
  is := keyIs
  hash := keyH w
  inj := fun v a b ha hb => by
    rcases keyIs_shape ha with ⟨i, t, rfl, rfl⟩ | ⟨x, t, rfl, rfl⟩
    · rcases keyIs_shape hb with ⟨j, u, rfl, e⟩ | ⟨y, u, rfl, e⟩
      · injection e with e1 _; rw [e1]
      · exact nomatch e
    · rcases keyIs_shape hb with ⟨j, u, rfl, e⟩ | ⟨y, u, rfl, e⟩
      · exact nomatch e
      · injection e with e1 _; rw [e1]
  byValue := fun k v h => by
    rcases keyIs_shape h with ⟨i, t, rfl, rfl⟩ | ⟨x, t, rfl, rfl⟩ <;> rfl
  pyHash := fun hv h => by
    rcases keyIs_shape hv with ⟨i, t, rfl, rfl⟩ | ⟨x, t, rfl, rfl⟩
    · exact wpAny_pyHash_int h
    · exact wpAny_pyHash_str h
  eqBool := fun hu hv h => by
    rcases keyIs_shape hu with ⟨i, t, rfl, rfl⟩ | ⟨x, t, rfl, rfl⟩
    · rcases keyIs_shape hv with ⟨j, u, rfl, rfl⟩ | ⟨y, u, rfl, rfl⟩
      · rw [key_ll] at h; exact wpAny_eqBool_int h
      · rw [key_lr] at h; exact SeqAt.EqAt.int_str i t y u _ _ _ _ h
    · rcases keyIs_shape hv with ⟨j, u, rfl, rfl⟩ | ⟨y, u, rfl, rfl⟩
      · rw [key_rl] at h; exact SeqAt.EqAt.str_int x t j u _ _ _ _ h
      · rw [key_rr] at h; exact wpAny_eqBool_str h
  «strs» := fun k x t v h => by
    rcases keyIs_shape h with ⟨i, u, rfl, e⟩ | ⟨y, u, rfl, e⟩
    · exact nomatch e
    · injection e with e1 _
      subst e1
      cases v <;> rfl

theorem mixKind_int (prog : Program) (w : World) (i : Int) (t : Tok) : (mixKind prog w).is (.inl i) (.int i t) = true := keyIs_int i t
theorem mixKind_str (prog : Program) (w : World) (x : Str) (t : Tok) : (mixKind prog w).is (.inr x) (.str x t) = true := keyIs_str x t
end L2

namespace L2
open PySem PySem.Spec PyProof.Rows

inductive V where
  | non | bl (b : Bool) | int (i : Int) | str (x : Str) | byt (b : Array UInt8) | flt (b : UInt64) | ref (a : Addr) | ty (n : String)
  deriving DecidableEq

def RelV : V → Value → Prop
  | .non, u => u = Value.none
  | .bl b, u => u = Value.bool b
  | .int i, u => ∃ t, u = Value.int i t
  | .str x, u => ∃ t, u = Value.str x t
  | .byt b, u => ∃ t, u = Value.bytes b t
  | .flt b, u => ∃ t, u = Value.float b t
  | .ref a, u => u = Value.ref a
  | .ty n, u => u = Value.type n

abbrev Vals : List V → List Value → Prop := Paired RelV
theorem Vals.length {xs : List V} {us : List Value} (r : Vals xs us) : xs.length = us.length := Paired.length r
theorem Vals.get : ∀ {xs : List V} {us : List Value} {i : Nat} {x : V}, Vals xs us → xs[i]? = some x → ∃ u, us[i]? = some u ∧ RelV x u
  | _, _, _, _, .nil, e => by simp at e
  | _, _, 0, _, .cons r _, e => by simp at e; subst e; exact ⟨_, rfl, r⟩
  | _, _, i + 1, x, .cons _ t, e => by
    obtain ⟨u, h1, h2⟩ := Vals.get (i := i) (x := x) t (by simpa using e)
    exact ⟨u, by simpa using h1, h2⟩
theorem Vals.append : ∀ {xs ys : List V} {us ws : List Value}, Vals xs us → Vals ys ws → Vals (xs ++ ys) (us ++ ws)
  | _, _, _, _, .nil, s => s
  | _, _, _, _, .cons r t, s => .cons r (Vals.append t s)
theorem Vals.take : ∀ {xs : List V} {us : List Value} (n : Nat), Vals xs us → Vals (xs.take n) (us.take n)
  | _, _, 0, _ => .nil
  | _, _, _ + 1, .nil => .nil
  | _, _, n + 1, .cons r t => .cons r (Vals.take n t)
theorem Vals.drop : ∀ {xs : List V} {us : List Value} (n : Nat), Vals xs us → Vals (xs.drop n) (us.drop n)
  | _, _, 0, r => r
  | _, _, _ + 1, .nil => .nil
  | _, _, n + 1, .cons _ t => Vals.drop n t
def RelO : Option V → Option Value → Prop
  | some v, some u => RelV v u
  | none, none => True
  | _, _ => False
def KV {κ : Type} : List (κ × V) → List (κ × Value) → Prop := Paired fun (p : κ × V) (q : κ × Value) => p.1 = q.1 ∧ RelV p.2 q.2

def kV : Key → V
  | .inl i => .int i
  | .inr x => .str x

inductive HO where
  /-- a list -/
  | lst (xs : List V)
  /-- a tuple (never changes) -/
  | tup (xs : List V)
  /-- a dict whose keys are ints and texts; one whose keys are tuples of ints and texts (the empty one is both) -/
  | dK (kvs : List (Key × V)) | dT (kvs : List (List Key × V))
  /-- a set of ints: its members, its size -/
  | set (S : Int → Bool) (n : Nat)
  /-- an instance of the class at C, its dict at dx, its attributes -/
  | ins (C dx : Addr) (fs : List (Str × V))
  /-- the dict of the instance at x -/
  | own (x : Addr)
  /-- the dict of an exception -/
  | xd (fs : List (Str × V))
  /-- a bound method, f of x -/
  | met (f x : Addr)
  /-- a range object lo, lo + 1, .. below hi -/
  | rng (lo hi : Int)
  /-- a thing that is known to the object (the script; a dict while a loop walks it): read, never written while it is so -/
  | frz (o : Obj) (u : HO)
  /-- a code object's table -/
  | tbl (ps : Array Value)
  /-- any other thing, by what is true of its one object (a def of one's own: SetO a S n := HO.ext fun h => ..) -/
  | ext (φ : Heap → Prop)

abbrev Hp := Addr → Option HO
def upd (H : Hp) (a : Addr) (o : HO) : Hp := fun b => if b = a then some o else H b
theorem upd_same {H : Hp} {a : Addr} {o : HO} : upd H a o a = some o := by unfold upd; rw [if_pos rfl]
theorem upd_ne {H : Hp} {a b : Addr} {o : HO} (h : b ≠ a) : upd H a o b = H b := by unfold upd; rw [if_neg h]
theorem upd_upd {H : Hp} {a : Addr} {o u : HO} : upd (upd H a o) a u = upd H a u := by
  funext b; unfold upd; split <;> rfl
theorem ne_of {H : Hp} {a b : Addr} {o u : HO} (h : H a = some o) (h' : H b = some u) (d : o ≠ u) : a ≠ b := by
  intro e; subst e; rw [h] at h'; exact d (Option.some.inj h')
theorem ne_of_none {H : Hp} {a b : Addr} {o : HO} (h : H a = some o) (h' : H b = none) : a ≠ b := by
  intro e; subst e; rw [h] at h'; cases h'

section
variable (P : Program) (w : World)
def ObjOk (H : Hp) (h : Heap) (a : Addr) : HO → Prop
  | .lst xs => xs.length ≤ sizeLine ∧ ∃ (its : List Value) (n : Nat), Vals xs its ∧ h.get? a = some { cls := .type "list", data := .seq its.toArray n }
  | .tup xs => xs.length ≤ sizeLine ∧ ∃ its : List Value, Vals xs its ∧ IsTup h a its.toArray
  | .dK kvs => kvs.length ≤ sizeLine ∧ (a == sysModules) = false ∧ ∃ vs, KV kvs vs ∧ h.DictOf (mixKind P w) a vs
  | .dT kvs => kvs.length ≤ sizeLine ∧ (a == sysModules) = false ∧ ∃ xs : List (List Key × Addr × Value),
      Paired (fun (p : List Key × V) (q : List Key × Addr × Value) => p.1 = q.1 ∧ H q.2.1 = some (.tup (p.1.map kV)) ∧ RelV p.2 q.2.2) kvs xs ∧
      ∃ o es ep, h.get? a = some o ∧ o.ExactDict ∧ o.data = .dict es ep ∧ es.toList = xs.map (entryOfKey (tupleKind (mixKind P w))) ∧ (xs.map (·.1)).Nodup
  | .set S n => h.SetOf (intKind P w) a S n
  | .ins C dx fs => H dx = some (.own a) ∧ fs.length ≤ 1000 ∧ dx ≠ a ∧ h.get? a = some (PySem.W.instObj C dx) ∧
      ∃ mA, h.Ns1 dx mA ∧ (∀ f, RelO (fs.lookup f) (mA f)) ∧ PySem.Within mA (fs.map (·.1))
  | .own _ => ∃ o, h.get? a = some o
  | .xd fs => ∃ mA, h.Ns1 a mA ∧ ∀ f, RelO (fs.lookup f) (mA f)
  | .rng lo hi => ∃ t u v, h.get? a = some { cls := .type "range", data := .fields #[.int lo t, .int hi u, .int 1 v] }
  | .frz o u => h.get? a = some o ∧ ObjOk H h a u
  | .tbl ps => h.get? a = some { cls := .none, data := .fields ps }
  | .met f x => h.get? a = some (PySem.W.methodObj (.ref f) (.ref x))
  | .ext φ => φ h ∧ (∃ o, h.get? a = some o) ∧ ∀ h1 h2 : Heap, φ h1 → (∀ o, h1.get? a = some o → h2.get? a = some o) → φ h2
def HOk (H : Hp) (h : Heap) : Prop := ∀ a o, H a = some o → ObjOk P w H h a o
end

section
variable {P : Program} {w : World} {H H' : Hp} {h h' : Heap} {a : Addr} {o : HO}
theorem ObjOk.lt (x : ObjOk P w H h a o) : a < h.objs.size := by
  cases o with
  | lst xs => obtain ⟨_, _, _, _, e⟩ := x; exact Heap.lt_size e
  | tup xs => obtain ⟨_, _, _, p⟩ := x; exact p.lt
  | dK kvs => obtain ⟨_, _, _, _, o, _, _, e, _⟩ := x; exact Heap.lt_size e
  | dT kvs => obtain ⟨_, _, _, _, o, _, _, e, _⟩ := x; exact Heap.lt_size e
  | set S n => obtain ⟨o, _, _, _, e, _⟩ := x; exact Heap.lt_size e
  | ins C dx fs => obtain ⟨_, _, _, e, _⟩ := x; exact Heap.lt_size e
  | own y => obtain ⟨_, e⟩ := x; exact Heap.lt_size e
  | xd fs => obtain ⟨_, ⟨_, _, _, e, _⟩, _⟩ := x; exact Heap.lt_size e
  | rng lo hi => obtain ⟨_, _, _, e⟩ := x; exact Heap.lt_size e
  | frz ob u => obtain ⟨e, _⟩ := x; exact Heap.lt_size e
  | tbl ps => exact Heap.lt_size (show h.get? a = some _ from x)
  | met f y => exact Heap.lt_size (show h.get? a = some _ from x)
  | ext φ => obtain ⟨_, ⟨_, e⟩, _⟩ := x; exact Heap.lt_size e
theorem Paired.mapP {α β : Type} {F G : α → β → Prop} : ∀ {l₁ : List α} {l₂ : List β}, Paired F l₁ l₂ → (∀ a b, F a b → G a b) → Paired G l₁ l₂
  | _, _, .nil, _ => .nil
  | _, _, .cons r t, f => .cons (f _ _ r) (Paired.mapP t f)
theorem ObjOk.stay (x : ObjOk P w H h a o) (k : ∀ b u, (b = a ∨ H b = some (.own a)) → h.get? b = some u → h'.get? b = some u)
    (ho : ∀ b, H b = some (.own a) → H' b = some (.own a)) (ht : ∀ b xs, H b = some (.tup xs) → H' b = some (.tup xs)) : ObjOk P w H' h' a o := by
  induction o with
  | lst xs => obtain ⟨z, its, n, r, e⟩ := x; exact ⟨z, its, n, r, k _ _ (.inl rfl) e⟩
  | tup xs => obtain ⟨z, its, r, ob, e, c⟩ := x; exact ⟨z, its, r, ob, k _ _ (.inl rfl) e, c⟩
  | dK kvs => obtain ⟨z, y, vs, r, ob, es, ep, e, c⟩ := x; exact ⟨z, y, vs, r, ob, es, ep, k _ _ (.inl rfl) e, c⟩
  | dT kvs =>
    obtain ⟨z, y, xs, r, ob, es, ep, e, c⟩ := x
    exact ⟨z, y, xs, Paired.mapP r fun p q z => ⟨z.1, ht _ _ z.2.1, z.2.2⟩, ob, es, ep, k _ _ (.inl rfl) e, c⟩
  | set S n => obtain ⟨ob, es, ep, t, e, c⟩ := x; exact ⟨ob, es, ep, t, k _ _ (.inl rfl) e, c⟩
  | ins C dx fs =>
    obtain ⟨d, z, ne, e, mA, ⟨od, es, ep, e2, c⟩, r⟩ := x
    exact ⟨ho _ d, z, ne, k _ _ (.inl rfl) e, mA, ⟨od, es, ep, k _ _ (.inr d) e2, c⟩, r⟩
  | own y => obtain ⟨ob, e⟩ := x; exact ⟨ob, k _ _ (.inl rfl) e⟩
  | xd fs => obtain ⟨mA, ⟨od, es, ep, e, c⟩, r⟩ := x; exact ⟨mA, ⟨od, es, ep, k _ _ (.inl rfl) e, c⟩, r⟩
  | rng lo hi => obtain ⟨t, u, v, e⟩ := x; exact ⟨t, u, v, k _ _ (.inl rfl) e⟩
  | frz ob u ih => obtain ⟨e, q⟩ := x; exact ⟨k _ _ (.inl rfl) e, ih q⟩
  | tbl ps =>
    have e : h.get? a = some { cls := .none, data := .fields ps } := x
    show h'.get? a = some { cls := .none, data := .fields ps }
    exact k a _ (.inl rfl) e
  | met f y =>
    have e : h.get? a = some (PySem.W.methodObj (.ref f) (.ref y)) := x
    show h'.get? a = some (PySem.W.methodObj (.ref f) (.ref y))
    exact k a _ (.inl rfl) e
  | ext φ => obtain ⟨p, ⟨o, e⟩, st⟩ := x; exact ⟨st _ _ p fun o q => k _ _ (.inl rfl) q, ⟨o, k _ _ (.inl rfl) e⟩, st⟩
theorem HOk.lt (x : HOk P w H h) (e : H a = some o) : a < h.objs.size := (x a o e).lt
theorem HOk.fresh (x : HOk P w H h) (e : h.objs.size ≤ a) : H a = none := by
  cases q : H a with
  | none => rfl
  | some u => exact absurd (Nat.lt_of_lt_of_le (x.lt q) e) (Nat.lt_irrefl _)
theorem HOk.kept (x : HOk P w H h) (k : ∀ b u, h.get? b = some u → h'.get? b = some u) : HOk P w H h' := fun a o e =>
  (x a o e).stay (fun b u _ q => k b u q) (fun _ q => q) fun _ _ q => q
theorem HOk.laid (x : HOk P w H h) (k : ∀ b u, h.get? b = some u → h'.get? b = some u) (hp : h.objs.size ≤ a) (new : ObjOk P w (upd H a o) h' a o) : HOk P w (upd H a o) h' := fun b u e => by
  have hn := x.fresh hp
  by_cases hb : b = a
  · subst hb; rw [upd_same] at e; cases e; exact new
  · rw [upd_ne hb] at e
    exact (x b u e).stay (fun c v _ q => k c v q) (fun c q => by rw [upd_ne (ne_of_none q hn)]; exact q) fun c xs q => by rw [upd_ne (ne_of_none q hn)]; exact q
end

def Rd (H : Hp) (a : Addr) (u : HO) : Prop := H a = some u ∨ ∃ o, H a = some (.frz o u)
theorem Rd.ok {P : Program} {w : World} {H : Hp} {h : Heap} {a : Addr} {u : HO} (r : Rd H a u) (x : HOk P w H h) : ObjOk P w H h a u := by
  rcases r with r | ⟨o, r⟩
  · exact x a u r
  · obtain ⟨_, q⟩ := x a _ r
    exact q
def Mut : Option HO → Prop
  | some (.lst _) => True
  | some (.dK _) => True
  | some (.dT _) => True
  | some (.set _ _) => True
  | some (.ins _ _ _) => True
  | some (.ext _) => True
  | _ => False
section
variable {P : Program} {w : World} {H : Hp} {h h' : Heap} {x e : Addr} {o' : HO}
theorem HOk.write (ok : HOk P w H h) (mu : Mut (H x)) (he : e = x ∨ H e = some (.own x)) (k : ∀ b u, b ≠ e → h.get? b = some u → h'.get? b = some u) (heo : ∃ u, h'.get? e = some u)
    (new : ObjOk P w (upd H x o') h' x o') : HOk P w (upd H x o') h' := fun b u q => by
  have nown : ∀ c y, H c = some (.own y) → c ≠ x := fun c y r z => by subst z; rw [r] at mu; exact mu
  have ntup : ∀ c xs, H c = some (.tup xs) → c ≠ x := fun c xs r z => by subst z; rw [r] at mu; exact mu
  by_cases hb : b = x
  · subst hb; rw [upd_same] at q; cases q; exact new
  · rw [upd_ne hb] at q
    by_cases hbe : b = e
    · have q' : H b = some (.own x) := by
        rcases he with z | z
        · exact absurd (hbe.trans z) hb
        · rw [hbe]; exact z
      rw [q] at q'; cases q'
      obtain ⟨v, hv⟩ := heo
      exact ⟨v, by rw [hbe]; exact hv⟩
    · refine (ok b u q).stay (fun c v hc r => k c v ?_ r) (fun c r => by rw [upd_ne (nown c b r)]; exact r) fun c xs r => by rw [upd_ne (ntup c xs r)]; exact r
      rcases hc with rfl | hc
      · exact hbe
      · rintro rfl
        rcases he with z | z
        · exact nown c b hc z
        · rw [hc] at z; cases z; exact hb rfl
end

structure Un (fs ex : List Addr) (H H' : Hp) (h h' : Heap) : Prop where
  keep : ∀ b o, h.get? b = some o → H b = none → b ∉ fs → b ∉ ex → h'.get? b = some o
  slot : ∀ b o, h.get? b = some o → H b = none → b ∈ fs → b ∉ ex → ∃ sl, h'.get? b = some { o with slots := sl }
  free : ∀ b o, h.get? b = some o → H b = none → b ∉ ex → H' b = none
  there : ∀ b o, h.get? b = some o → b ∉ ex → ∃ o', h'.get? b = some o'
  tups : ∀ b xs, H b = some (.tup xs) → H' b = some (.tup xs)
  frzs : ∀ b o u, H b = some (.frz o u) → H' b = some (.frz o u)
  tbls : ∀ b ps, H b = some (.tbl ps) → ∃ more, H' b = some (.tbl (ps ++ more))
section
variable {fs fs' ex ex' : List Addr} {H H1 H2 : Hp} {h h1 h2 h' : Heap} {a x e : Addr} {o : HO}
theorem Un.any (u : Un fs ex H H1 h h1) {b : Addr} {ob : Obj} (q : h.get? b = some ob) (n : H b = none) (hx : b ∉ ex) : ∃ sl, h1.get? b = some { ob with slots := sl } := by
  by_cases hb : b ∈ fs
  · exact u.slot b ob q n hb hx
  · exact ⟨ob.slots, u.keep b ob q n hb hx⟩
theorem Un.kept (k : ∀ b u, h.get? b = some u → h'.get? b = some u) : Un fs ex H H h h' :=
  ⟨fun b ob q _ _ _ => k b ob q, fun b ob q _ _ _ => ⟨ob.slots, k b ob q⟩, fun _ _ _ n _ => n, fun b ob q _ => ⟨ob, k b ob q⟩, fun _ _ q => q, fun _ _ _ q => q, fun _ ps q => ⟨#[], by rw [q]; simp⟩⟩
theorem Un.refl : Un fs ex H H h h := Un.kept fun _ _ q => q
theorem Un.laid (k : ∀ b u, h.get? b = some u → h'.get? b = some u) (hp : h.objs.size ≤ a) (hn : H a = none) : Un fs ex H (upd H a o) h h' where
  keep := fun b u q _ _ _ => k b u q
  slot := fun b u q _ _ _ => ⟨u.slots, k b u q⟩
  free := fun b u q n _ => by rw [upd_ne (Nat.ne_of_lt (Nat.lt_of_lt_of_le (Heap.lt_size q) hp))]; exact n
  there := fun b u q _ => ⟨u, k b u q⟩
  tups := fun b xs q => by rw [upd_ne (ne_of_none q hn)]; exact q
  frzs := fun b u xs q => by rw [upd_ne (ne_of_none q hn)]; exact q
  tbls := fun b ps q => ⟨#[], by rw [upd_ne (ne_of_none q hn), q]; simp⟩
theorem Un.write (mu : Mut (H x)) (he : e = x ∨ H e = some (.own x)) (k : ∀ b u, b ≠ e → h.get? b = some u → h'.get? b = some u) (heo : ∃ u, h'.get? e = some u) : Un fs ex H (upd H x o) h h' := by
  have hx : ∀ b, H b = none → b ≠ x := fun b n z => by subst z; rw [n] at mu; exact mu
  have hb : ∀ b, H b = none → b ≠ e := fun b n z => by
    subst z
    rcases he with r | r
    · exact hx b n r
    · rw [n] at r; cases r
  have hm : ∀ b u, H b = some u → ¬ Mut (some u) → b ≠ x := fun b u q nm z => by subst z; rw [q] at mu; exact nm mu
  refine ⟨fun b u q n _ _ => k b u (hb b n) q, fun b u q n _ _ => ⟨u.slots, k b u (hb b n) q⟩, fun b u q n _ => by rw [upd_ne (hx b n)]; exact n, fun b u q _ => ?_,
    fun b xs q => by rw [upd_ne (hm b _ q fun z => z)]; exact q, fun b u xs q => by rw [upd_ne (hm b _ q fun z => z)]; exact q, fun b ps q => ⟨#[], by rw [upd_ne (hm b _ q fun z => z), q]; simp⟩⟩
  by_cases hbe : b = e
  · subst hbe; exact heo
  · exact ⟨u, k b u hbe q⟩
end

def trk (h : Heap) (H : Hp) : List Addr := (List.range h.objs.size).filter fun a => (H a).isSome
def hidT (h : Heap) (H : Hp) : Heap := PySem.W.hideAll h (trk h H)
theorem hidT_size (h : Heap) (H : Hp) : (hidT h H).objs.size = h.objs.size := PySem.W.hideAll_size _ _
theorem hidT_get {h : Heap} {H : Hp} {b : Addr} {o : Obj} (e : h.get? b = some o) (n : H b = none) : (hidT h H).get? b = some o :=
  PySem.W.hideAll_get _ e fun hm => by
    have q : (H b).isSome = true := (List.mem_filter.mp hm).2
    rw [n] at q; simp at q
theorem of_hidT {h : Heap} {H : Hp} {b : Addr} {o : Obj} (e : (hidT h H).get? b = some o) : h.get? b = some o ∧ H b = none := by
  have e' : h.get? b = some o := PySem.W.of_hideAll (trk h H) e
  refine ⟨e', ?_⟩
  cases q : H b with
  | none => rfl
  | some x =>
    have hm : b ∈ trk h H := List.mem_filter.mpr ⟨List.mem_range.mpr (Heap.lt_size e'), by simp [q]⟩
    have z : (hidT h H).get? b = none := PySem.W.hideAll_none (trk h H) hm
    rw [z] at e; cases e

end L2

namespace L2
open PySem PySem.Spec PyProof.Rows

structure Mod (K : PySem.W.Frag) (mg : Str → Option Value) (base : Heap) : Prop where
  kin : K.In base
  glob : base.Ns mainGlobals mg
  blt : ∃ mb, base.Ns builtinsNs mb ∧ ∀ x : Str, x ≠ "__name__" → mb x = bootBuiltins x
  nolimit : base.NoLimit

structure Cx where
  prog : Program
  w : World
  K : PySem.W.Frag
  mg : Str → Option Value
  base : Heap
  A : Around
  N : List Str
  s_0 : Shared
  H_0 : Hp
  env : Env
  outer : List Env
  stack : List Env
  ex : List Addr
  fn : Str → Bool
  calm : Bool
  pn : List (Addr × Obj)
  xe : Value → Shared → Prop
def frs (l : List Env) : List Addr := l.filterMap (·.frame)
abbrev Cx.fs (X : Cx) : List Addr := frs X.outer

def Vis (sc : Scope) (x : Str) : Prop := sc.names.lookup x = some .local ∨ sc.names.lookup x = some .cell ∨ sc.names.lookup x = some .free
def Loc (sc : Scope) (x : Str) : Prop := sc.names.lookup x = some .local ∨ sc.names.lookup x = some .cell
def Look (env : Env) (h : Heap) (m : Str → Option Value) (x : Str) (u : Value) : Prop :=
  (env.kindOf x = some .local ∧ m x = some u) ∨ ((env.kindOf x = some .cell ∨ env.kindOf x = some .free) ∧ ∃ c, env.cells.lookup x = some c ∧ h.IsCell c (some u))

structure Cx.Ok (X : Cx) : Prop where
  mod : Mod X.K X.mg X.base
  kind : X.env.scope.kind = .function
  glob : X.env.globals = mainGlobals
  blt : X.env.builtins = builtinsNs
  above : X.s_0.heap.objs.size ≤ X.env.locals
  inj : ∀ x y c, X.env.cells.lookup x = some c → X.env.cells.lookup y = some c → x = y
  has : ∀ x, (X.env.kindOf x = some .cell ∨ X.env.kindOf x = some .free) → ∃ c, X.env.cells.lookup x = some c
  cab : ∀ x c, X.fn x = true → X.env.cells.lookup x = some c → X.s_0.heap.objs.size ≤ c
  hd : X.calm = true → X.A.handled = none
  frames : X.A.frames = some X.stack
  stk : X.stack = X.outer ∨ (X.stack = X.env :: X.outer ∧ X.env.frame = some X.env.locals)
  exf : ∀ b ∈ X.ex, b ≠ X.env.locals ∧ ∀ x c, X.env.cells.lookup x = some c → c ≠ b
  bs : ∀ b o, X.base.get? b = some o → X.s_0.heap.get? b = some o ∧ X.H_0 b = none
  bsz : X.base.objs.size ≤ X.s_0.heap.objs.size
  noex : ∀ b o, X.base.get? b = some o → b ∉ X.ex
  exfs : ∀ b ∈ X.ex, b ∉ X.fs
  funs : X.s_0.heap.FunFrames X.base X.outer
  frf : ∀ b ∈ X.fs, X.H_0 b = none

structure Inv (X : Cx) (pins : List (Addr × Obj)) (σ : List (Option V)) (H : Hp) (s : Shared) : Prop where
  ok : X.Ok
  os : s.os = X.s_0.os
  bare : AllBare s.gens
  base : Un X.fs X.ex X.H_0 H X.s_0.heap s.heap
  loc : ∃ m, s.heap.Ns X.env.locals m ∧ ∀ (i : Nat) (x : Str) (v : V), X.N[i]? = some x → σ[i]? = some (some v) → Vis X.env.scope x → ∃ u, RelV v u ∧ Look X.env s.heap m x u
  cell : ∀ x c, X.env.cells.lookup x = some c → ∃ v, s.heap.IsCell c v
  free : H X.env.locals = none
  freeC : ∀ x c, X.env.cells.lookup x = some c → H c = none
  pin : ∀ p ∈ X.pn ++ pins, s.heap.get? p.1 = some p.2 ∧ H p.1 = none ∧ p.1 ≠ X.env.locals ∧ p.1 ∉ X.fs ∧ ∀ v, p.2.data ≠ .cell v
  hok : HOk X.prog X.w H s.heap
  len : σ.length = X.N.length

section
variable {X : Cx} {pins : List (Addr × Obj)} {σ : List (Option V)} {H H' : Hp} {s : Shared} {h' : Heap}

theorem Cx.Ok.nofr (ok : X.Ok) {b : Addr} {o : Obj} (e : X.base.get? b = some o) : b ∉ X.fs := fun hb => by
  have := (ok.funs.mem hb).1
  rw [e] at this; cases this
theorem Inv.bs (I : Inv X pins σ H s) : ∀ b o, X.base.get? b = some o → s.heap.get? b = some o ∧ H b = none := fun b o e =>
  ⟨I.base.keep b o (I.ok.bs b o e).1 (I.ok.bs b o e).2 (I.ok.nofr e) (I.ok.noex b o e), I.base.free b o (I.ok.bs b o e).1 (I.ok.bs b o e).2 (I.ok.noex b o e)⟩
theorem Inv.bk (I : Inv X pins σ H s) : ∀ b o, X.base.get? b = some o → s.heap.get? b = some o := fun b o e => (I.bs b o e).1
theorem Inv.mod (I : Inv X pins σ H s) : Mod X.K X.mg X.base := I.ok.mod
theorem Inv.kIn (I : Inv X pins σ H s) : X.K.In s.heap := I.ok.mod.kin.keeps I.bk
theorem Inv.fr (I : Inv X pins σ H s) : ∃ m, Fr X.base X.env.locals s.heap m :=
  let ⟨m, hn, _⟩ := I.loc
  ⟨m, hn, I.bk, Nat.le_trans I.ok.bsz I.ok.above⟩
theorem Inv.lt (I : Inv X pins σ H s) : X.env.locals < s.heap.objs.size := let ⟨_, hn, _⟩ := I.loc; hn.lt
theorem Inv.sz (I : Inv X pins σ H s) : X.s_0.heap.objs.size ≤ s.heap.objs.size := Nat.le_trans I.ok.above (Nat.le_of_lt I.lt)
theorem Inv.nofs (I : Inv X pins σ H s) {a : Addr} (h : s.heap.objs.size ≤ a) : a ∉ X.fs := fun hb => by
  obtain ⟨_, o, ho, _⟩ := I.ok.funs.mem hb
  exact absurd (Nat.lt_of_lt_of_le (Heap.lt_size ho) (Nat.le_trans I.sz h)) (Nat.lt_irrefl _)
theorem Inv.cne (I : Inv X pins σ H s) : ∀ x c, X.env.cells.lookup x = some c → c ≠ X.env.locals := fun x c e z => by
  obtain ⟨v, o, ho, hd⟩ := I.cell x c e
  obtain ⟨m, ⟨o', es, ep, ho', hd', _⟩, _⟩ := I.loc
  rw [z, ho'] at ho; cases ho; rw [hd'] at hd; cases hd
theorem Inv.funs (I : Inv X pins σ H s) : s.heap.FunFrames X.base X.outer := by
  have all : ∀ (l : List Env), (∀ b ∈ frs l, b ∈ X.fs) → X.s_0.heap.FunFrames X.base l → s.heap.FunFrames X.base l := by
    intro l
    induction l with
    | nil => intro _ _; trivial
    | cons env r ih =>
      intro hs hl
      obtain ⟨hk, ⟨L, o, hf, hn, ho, hd⟩, hr⟩ := hl
      have hL : L ∈ X.fs := hs L (by unfold frs; rw [List.filterMap_cons, hf]; exact List.mem_cons_self)
      obtain ⟨sl, e⟩ := I.base.slot L o ho (I.ok.frf L hL) hL fun z => I.ok.exfs L z hL
      exact ⟨hk, ⟨L, _, hf, hn, e, hd⟩, ih (fun b hb => hs b (by unfold frs; rw [List.filterMap_cons, hf]; exact List.mem_cons_of_mem _ hb)) hr⟩
  exact all X.outer (fun _ hb => hb) I.ok.funs

theorem Inv.stack (I : Inv X pins σ H s) : s.heap.FunFrames X.base X.stack := by
  rcases I.ok.stk with e | ⟨e, hf⟩
  · rw [e]; exact I.funs
  · rw [e]
    obtain ⟨m, hn, _⟩ := I.loc
    refine .cons (by rw [I.ok.kind]; decide) hf hn ?_ I.funs
    exact Heap.get?_none_of_le (Nat.le_trans I.ok.bsz I.ok.above)
theorem Inv.stkSub (I : Inv X pins σ H s) : ∀ b ∈ frs X.stack, b ∈ X.env.locals :: X.fs := fun b hb => by
  rcases I.ok.stk with e | ⟨e, hf⟩
  · rw [e] at hb; exact List.mem_cons_of_mem _ hb
  · rw [e] at hb
    unfold frs at hb
    rw [List.filterMap_cons, hf] at hb
    exact hb
theorem Inv.stkFree (I : Inv X pins σ H s) : ∀ b ∈ frs X.stack, H b = none := fun b hb => by
  rcases List.mem_cons.mp (I.stkSub b hb) with e | hb
  · rw [e]; exact I.free
  · obtain ⟨_, o, ho, _⟩ := I.ok.funs.mem hb
    exact I.base.free b o ho (I.ok.frf b hb) fun z => I.ok.exfs b z hb

theorem Inv.step {g' : Array GenState} {t' : Nat} {d' : Drawn} {ch : List Addr} (I : Inv X pins σ H s)
    (hch : ∀ b ∈ ch, (b ∈ X.ex ∨ X.s_0.heap.objs.size ≤ b) ∧ b ≠ X.env.locals ∧ (∀ x c, X.env.cells.lookup x = some c → c ≠ b) ∧ ∀ p ∈ X.pn ++ pins, p.1 ≠ b)
    (keep : ∀ b o, b ≠ X.env.locals → b ∉ X.fs → b ∉ ch → s.heap.get? b = some o → H b = none → h'.get? b = some o)
    (slot : ∀ b o, b ≠ X.env.locals → b ∈ X.fs → b ∉ ch → s.heap.get? b = some o → H b = none → ∃ sl, h'.get? b = some { o with slots := sl }) (free : ∀ b o, b ∉ ch → s.heap.get? b = some o → H b = none → H' b = none)
    (there : ∀ b o, b ∉ ch → s.heap.get? b = some o → ∃ o', h'.get? b = some o')
    (tups : ∀ b xs, H b = some (.tup xs) → H' b = some (.tup xs)) (frzs : ∀ b o u, H b = some (.frz o u) → H' b = some (.frz o u)) (tbls : ∀ b ps, H b = some (.tbl ps) → ∃ more, H' b = some (.tbl (ps ++ more)))
    (ns : ∀ m, s.heap.Ns X.env.locals m → h'.Ns X.env.locals m) (hok : HOk X.prog X.w H' h') (hg : AllBare g') :
    Inv X pins σ H' { s with heap := h', gens := g', drawn := d', toks := t' } := by
  have neL : ∀ b o, X.s_0.heap.get? b = some o → b ≠ X.env.locals := fun b o e => Nat.ne_of_lt (Nat.lt_of_lt_of_le (Heap.lt_size e) I.ok.above)
  have neC : ∀ b o, X.s_0.heap.get? b = some o → b ∉ X.ex → b ∉ ch := fun b o e hx hb => by
    rcases (hch b hb).1 with z | z
    · exact hx z
    · exact absurd (Nat.lt_of_lt_of_le (Heap.lt_size e) z) (Nat.lt_irrefl _)
  have cellK : ∀ x c, X.env.cells.lookup x = some c → ∀ v, s.heap.IsCell c v → h'.IsCell c v := fun x c e v ⟨o, ho, hd⟩ => by
    have nch : c ∉ ch := fun z => (hch c z).2.2.1 x c e rfl
    by_cases hc : c ∈ X.fs
    · obtain ⟨sl, q⟩ := slot c o (I.cne x c e) hc nch ho (I.freeC x c e)
      exact ⟨_, q, hd⟩
    · exact ⟨o, keep c o (I.cne x c e) hc nch ho (I.freeC x c e), hd⟩
  refine ⟨I.ok, I.os, hg, ⟨fun b o e n hb hx => ?_, fun b o e n hb hx => ?_, fun b o e n hx => ?_, fun b o e hx => ?_, fun b xs e => tups b xs (I.base.tups b xs e), fun b o xs e => frzs b o xs (I.base.frzs b o xs e), fun b ps e => ?_⟩, ?_, fun x c e => ?_, ?_, fun x c e => ?_, fun p hp => ?_, hok, I.len⟩
  · exact keep b o (neL b o e) hb (neC b o e hx) (I.base.keep b o e n hb hx) (I.base.free b o e n hx)
  · obtain ⟨sl, e1⟩ := I.base.slot b o e n hb hx
    obtain ⟨sl', e2⟩ := slot b _ (neL b o e) hb (neC b o e hx) e1 (I.base.free b o e n hx)
    exact ⟨sl', e2⟩
  · obtain ⟨o', e1⟩ := I.base.there b o e hx
    exact free b o' (neC b o e hx) e1 (I.base.free b o e n hx)
  · obtain ⟨o', e1⟩ := I.base.there b o e hx
    exact there b o' (neC b o e hx) e1
  · obtain ⟨m1, e1⟩ := I.base.tbls b ps e
    obtain ⟨m2, e2⟩ := tbls b _ e1
    exact ⟨m1 ++ m2, by rw [e2, Array.append_assoc]⟩
  · obtain ⟨m, hn, hl⟩ := I.loc
    refine ⟨m, ns m hn, fun i x v e1 e2 e3 => ?_⟩
    obtain ⟨u, r, l⟩ := hl i x v e1 e2 e3
    refine ⟨u, r, ?_⟩
    rcases l with l | ⟨k, c, e, z⟩
    · exact .inl l
    · exact .inr ⟨k, c, e, cellK x c e _ z⟩
  · obtain ⟨v, z⟩ := I.cell x c e
    exact ⟨v, cellK x c e v z⟩
  · obtain ⟨m, ⟨o, _, _, ho, _⟩, _⟩ := I.loc
    exact free _ o (fun z => (hch _ z).2.1 rfl) ho I.free
  · obtain ⟨v, o, ho, hd⟩ := I.cell x c e
    exact free c o (fun z => (hch c z).2.2.1 x c e rfl) ho (I.freeC x c e)
  · obtain ⟨e, n, ne, nf, d⟩ := I.pin p hp
    have nch : p.1 ∉ ch := fun z => (hch p.1 z).2.2.2 p hp rfl
    exact ⟨keep p.1 p.2 ne nf nch e n, free p.1 p.2 nch e n, ne, nf, d⟩
theorem Inv.un {t' : Nat} (I : Inv X pins σ H s) (u : Un X.fs [] H H' s.heap h') (hok : HOk X.prog X.w H' h') : Inv X pins σ H' { s with heap := h', toks := t' } := by
  obtain ⟨m, ⟨o, es, ep, ho, r⟩, _⟩ := id I.loc
  obtain ⟨sl, hL⟩ := u.any ho I.free (by simp)
  exact I.step (g' := s.gens) (d' := s.drawn) (ch := []) (fun _ z => nomatch z) (fun b o _ hb _ e n => u.keep b o e n hb (by simp)) (fun b o _ hb _ e n => u.slot b o e n hb (by simp)) (fun b o _ e n => u.free b o e n (by simp)) (fun b o _ e => u.there b o e (by simp)) u.tups u.frzs u.tbls (fun m' hm => by
    obtain ⟨o', es', ep', ho', r'⟩ := hm
    rw [ho] at ho'; cases ho'
    exact ⟨_, es', ep', hL, r'⟩) hok I.bare
theorem Inv.call {g' : Array GenState} {t' : Nat} {d' : Drawn} {ch : List Addr} (I : Inv X pins σ H s) (u : Un (frs X.stack) ch H H' s.heap h') (hok : HOk X.prog X.w H' h') (hg : AllBare g')
    (hch : ∀ b ∈ ch, (b ∈ X.ex ∨ X.s_0.heap.objs.size ≤ b) ∧ b ≠ X.env.locals ∧ (∀ x c, X.env.cells.lookup x = some c → c ≠ b) ∧ ∀ p ∈ X.pn ++ pins, p.1 ≠ b) :
    Inv X pins σ H' { s with heap := h', gens := g', drawn := d', toks := t' } := by
  obtain ⟨m, ⟨o, es, ep, ho, r⟩, _⟩ := id I.loc
  obtain ⟨sl, hL⟩ := u.any ho I.free fun z => (hch _ z).2.1 rfl
  exact I.step (ch := ch) hch (fun b o hL hb hc e n => u.keep b o e n (fun z => (List.mem_cons.mp (I.stkSub b z)).elim hL hb) hc) (fun b o _ _ hc e n => u.any e n hc) (fun b o hc e n => u.free b o e n hc) (fun b o hc e => u.there b o e hc) u.tups u.frzs u.tbls (fun m' hm => by
    obtain ⟨o', es', ep', ho', r'⟩ := hm
    rw [ho] at ho'; cases ho'
    exact ⟨_, es', ep', hL, r'⟩) hok hg
theorem Inv.turned {t' : Nat} {it : Addr} (I : Inv X pins σ H s) (k : ∀ b o, b ≠ it → s.heap.get? b = some o → h'.get? b = some o) (hn : H it = none) (hL : it ≠ X.env.locals)
    (h1 : it ∈ X.ex ∨ X.s_0.heap.objs.size ≤ it) (h2 : ∀ x c, X.env.cells.lookup x = some c → c ≠ it) (h3 : ∀ p ∈ X.pn ++ pins, p.1 ≠ it) : Inv X pins σ H { s with heap := h', toks := t' } := by
  have nit : ∀ b u, H b = some u → b ≠ it := fun b u e z => by rw [z, hn] at e; cases e
  refine I.step (g' := s.gens) (d' := s.drawn) (ch := [it]) (fun b hb => ?_) (fun b o _ _ hc e _ => k b o (fun z => hc (by simp [z])) e) (fun b o _ _ hc e _ => ⟨o.slots, k b o (fun z => hc (by simp [z])) e⟩) (fun _ _ _ _ n => n)
    (fun b o hc e => ⟨o, k b o (fun z => hc (by simp [z])) e⟩) (fun _ _ e => e) (fun _ _ _ e => e) (fun b ps e => ⟨#[], by rw [e]; simp⟩) (fun m hm => ?_) (fun b u e => ?_) I.bare
  · have e : b = it := by simpa using hb
    subst e
    exact ⟨h1, hL, h2, h3⟩
  · obtain ⟨o, es, ep, ho, r⟩ := hm
    exact ⟨o, es, ep, k _ o (Ne.symm hL) ho, r⟩
  · refine (I.hok b u e).stay (fun c v hc q => k c v ?_ q) (fun _ q => q) fun _ _ q => q
    rcases hc with z | z
    · rw [z]; exact nit b u e
    · exact nit c _ z
theorem Inv.tok (I : Inv X pins σ H s) (t : Nat) : Inv X pins σ H { s with toks := t } := I.un (h' := s.heap) (t' := t) Un.refl I.hok
theorem Inv.kept {t' : Nat} (I : Inv X pins σ H s) (k : ∀ b u, s.heap.get? b = some u → h'.get? b = some u) : Inv X pins σ H { s with heap := h', toks := t' } := I.un (Un.kept k) (I.hok.kept k)
theorem Inv.laid {a : Addr} {o : HO} {t' : Nat} (I : Inv X pins σ H s) (k : ∀ b u, s.heap.get? b = some u → h'.get? b = some u) (hp : s.heap.objs.size ≤ a) (new : ObjOk X.prog X.w (upd H a o) h' a o) :
    Inv X pins σ (upd H a o) { s with heap := h', toks := t' } := I.un (Un.laid k hp (I.hok.fresh hp)) (I.hok.laid k hp new)
theorem Inv.write {x e : Addr} {o : HO} {t' : Nat} (I : Inv X pins σ H s) (mu : Mut (H x)) (he : e = x ∨ H e = some (.own x)) (k : ∀ b u, b ≠ e → s.heap.get? b = some u → h'.get? b = some u) (heo : ∃ u, h'.get? e = some u)
    (new : ObjOk X.prog X.w (upd H x o) h' x o) : Inv X pins σ (upd H x o) { s with heap := h', toks := t' } := I.un (Un.write mu he k heo) (I.hok.write mu he k heo new)
theorem Inv.weak {σ' : List (Option V)} (I : Inv X pins σ H s) (hl : σ'.length = σ.length) (w : ∀ (i : Nat) v, σ'[i]? = some (some v) → σ[i]? = some (some v)) : Inv X pins σ' H s :=
  ⟨I.ok, I.os, I.bare, I.base, let ⟨m, hn, hl'⟩ := I.loc; ⟨m, hn, fun i x v e1 e2 e3 => hl' i x v e1 (w i v e2) e3⟩, I.cell, I.free, I.freeC, I.pin, I.hok, hl.trans I.len⟩
theorem Inv.pins_of {pins' : List (Addr × Obj)} (I : Inv X pins σ H s) (h : ∀ p ∈ pins', s.heap.get? p.1 = some p.2 ∧ H p.1 = none ∧ p.1 ≠ X.env.locals ∧ p.1 ∉ X.fs ∧ ∀ v, p.2.data ≠ .cell v) : Inv X pins' σ H s :=
  ⟨I.ok, I.os, I.bare, I.base, I.loc, I.cell, I.free, I.freeC, fun p hp => (List.mem_append.mp hp).elim (fun z => I.pin p (List.mem_append_left _ z)) (h p), I.hok, I.len⟩

theorem nodup_ix {N : List Str} (hN : N.Nodup) {i j : Nat} {x : Str} (a : N[i]? = some x) (b : N[j]? = some x) : i = j := by
  obtain ⟨h1, e1⟩ := List.getElem?_eq_some_iff.mp a
  obtain ⟨h2, e2⟩ := List.getElem?_eq_some_iff.mp b
  exact (List.getElem_inj hN).mp (e1.trans e2.symm)

theorem store_ok2 {M : Model} {A : Around} {E : Value → Shared → Prop} {i : Nat} {x : Str} {v : V} {u : Value} {Q : Unit → Shared → Prop} (I : Inv X pins σ H s) (hN : X.N.Nodup) (hi : X.N[i]? = some x) (hx : Loc X.env.scope x) (r : RelV v u)
    (h : ∀ s', Inv X pins (σ.set i (some v)) H s' → (∃ a, Heap.SameBut a s.heap s'.heap ∧ (a = X.env.locals ∨ X.env.cells.lookup x = some a)) → Q () s') (hf : X.fn x = true ∨ X.env.scope.names.lookup x = some .local := by first | exact .inl rfl | exact .inr rfl | assumption) : wpAny M A (storeName X.env x u) Q E s := by
  obtain ⟨m, hn, hl⟩ := id I.loc
  have hcls : (X.env.scope.kind == .class || (X.env.scope.kind == .module && X.env.locals != X.env.globals)) = false := by rw [I.ok.kind]; rfl
  have hiσ : i < σ.length := by rw [I.len]; exact (List.getElem?_eq_some_iff.mp hi).1
  have cne := I.cne
  have tracked : ∀ {a : Addr} {h' : Heap}, (∃ o, s.heap.get? a = some o ∧ H a = none) → Heap.SameBut a s.heap h' → HOk X.prog X.w H h' := fun {a h'} ha hs b ob e => by
    obtain ⟨_, _, hfree⟩ := ha
    refine (I.hok b ob e).stay (fun c w' hc q => (hs.2 c ?_).trans q) (fun _ q => q) fun _ _ q => q
    rintro rfl
    rcases hc with rfl | hc
    · rw [hfree] at e; cases e
    · rw [hfree] at hc; cases hc
  rcases hx with hk | hk
  · refine wpAny_storeName_local hk hn (fun h' hn' hs => ?_) hcls
    obtain ⟨oL, _, _, hoL, _⟩ := id hn
    refine h _ ⟨I.ok, I.os, I.bare, ⟨fun b o e n hb hx => ?_, fun b o e n hb hx => ?_, I.base.free, fun b o e hx => ?_, I.base.tups, I.base.frzs, I.base.tbls⟩, ⟨_, hn', fun j y v' e1 e2 e3 => ?_⟩, fun y c e => ?_, I.free, I.freeC, fun p hp => ?_, tracked ⟨oL, hoL, I.free⟩ hs, by simpa using I.len⟩ ⟨_, hs, .inl rfl⟩
    · exact (hs.2 b (Nat.ne_of_lt (Nat.lt_of_lt_of_le (Heap.lt_size e) I.ok.above))).trans (I.base.keep b o e n hb hx)
    · obtain ⟨sl, e1⟩ := I.base.slot b o e n hb hx
      exact ⟨sl, (hs.2 b (Nat.ne_of_lt (Nat.lt_of_lt_of_le (Heap.lt_size e) I.ok.above))).trans e1⟩
    · obtain ⟨o', e1⟩ := I.base.there b o e hx
      exact ⟨o', (hs.2 b (Nat.ne_of_lt (Nat.lt_of_lt_of_le (Heap.lt_size e) I.ok.above))).trans e1⟩
    · by_cases hj : j = i
      · subst hj
        rw [hi] at e1; cases e1
        rw [List.getElem?_set_self hiσ] at e2
        cases e2
        exact ⟨u, r, .inl ⟨hk, by simp⟩⟩
      · rw [List.getElem?_set_ne (Ne.symm hj)] at e2
        obtain ⟨u', r', q⟩ := hl j y v' e1 e2 e3
        refine ⟨u', r', ?_⟩
        rcases q with ⟨k, e⟩ | ⟨k, c, e, z⟩
        · refine .inl ⟨k, ?_⟩
          have : y ≠ x := fun e => hj (nodup_ix hN e1 (e ▸ hi))
          simp [this, e]
        · exact .inr ⟨k, c, e, z.sameBut hs (cne y c e)⟩
    · obtain ⟨w', z⟩ := I.cell y c e
      exact ⟨w', z.sameBut hs (cne y c e)⟩
    · obtain ⟨e, n, ne, nf, d⟩ := I.pin p hp
      exact ⟨(hs.2 p.1 ne).trans e, n, ne, nf, d⟩
  · have hfn : X.fn x = true := by
      rcases hf with z | z
      · exact z
      · rw [z] at hk; cases hk
    obtain ⟨c, hc⟩ := I.ok.has x (.inl hk)
    obtain ⟨w', z⟩ := I.cell x c hc
    refine wpAny_storeName_cell I.ok.kind hk hc z (fun h' hc' hs => ?_)
    obtain ⟨oc, hoc, hocd⟩ := id z
    refine h { s with heap := h' } ⟨I.ok, I.os, I.bare, ⟨fun b o e n hb hx => ?_, fun b o e n hb hx => ?_, I.base.free, fun b o e hx => ?_, I.base.tups, I.base.frzs, I.base.tbls⟩, ⟨m, hn.sameBut hs (Ne.symm (cne x c hc)), fun j y v' e1 e2 e3 => ?_⟩, fun y c' e => ?_, I.free, I.freeC, fun p hp => ?_, tracked ⟨oc, hoc, I.freeC x c hc⟩ hs, by simpa using I.len⟩ ⟨c, hs, .inr hc⟩
    · exact (hs.2 b (Nat.ne_of_lt (Nat.lt_of_lt_of_le (Heap.lt_size e) (I.ok.cab x c hfn hc)))).trans (I.base.keep b o e n hb hx)
    · obtain ⟨sl, e1⟩ := I.base.slot b o e n hb hx
      exact ⟨sl, (hs.2 b (Nat.ne_of_lt (Nat.lt_of_lt_of_le (Heap.lt_size e) (I.ok.cab x c hfn hc)))).trans e1⟩
    · obtain ⟨o', e1⟩ := I.base.there b o e hx
      exact ⟨o', (hs.2 b (Nat.ne_of_lt (Nat.lt_of_lt_of_le (Heap.lt_size e) (I.ok.cab x c hfn hc)))).trans e1⟩
    · by_cases hj : j = i
      · subst hj
        rw [hi] at e1; cases e1
        rw [List.getElem?_set_self hiσ] at e2
        cases e2
        exact ⟨u, r, .inr ⟨.inl hk, c, hc, hc'⟩⟩
      · rw [List.getElem?_set_ne (Ne.symm hj)] at e2
        obtain ⟨u', r', q⟩ := hl j y v' e1 e2 e3
        refine ⟨u', r', ?_⟩
        rcases q with q | ⟨k, c', e, z'⟩
        · exact .inl q
        · refine .inr ⟨k, c', e, z'.sameBut hs ?_⟩
          rintro rfl
          exact hj (nodup_ix hN e1 (I.ok.inj _ _ _ e hc ▸ hi))
    · by_cases hcc : c' = c
      · subst hcc; exact ⟨_, hc'⟩
      · obtain ⟨w2, z2⟩ := I.cell y c' e
        exact ⟨w2, z2.sameBut hs hcc⟩
    · obtain ⟨e, n, ne, nf, d⟩ := I.pin p hp
      refine ⟨(hs.2 p.1 ?_).trans e, n, ne, nf, d⟩
      intro q
      rw [q, hoc] at e
      have q' : oc = p.2 := Option.some.inj e
      exact d w' (by rw [← q']; exact hocd)
theorem store_ok {M : Model} {A : Around} {E : Value → Shared → Prop} {i : Nat} {x : Str} {v : V} {u : Value} {Q : Unit → Shared → Prop} (I : Inv X pins σ H s) (hN : X.N.Nodup) (hi : X.N[i]? = some x) (hx : Loc X.env.scope x) (r : RelV v u)
    (h : ∀ s', Inv X pins (σ.set i (some v)) H s' → Q () s') (hf : X.fn x = true ∨ X.env.scope.names.lookup x = some .local := by first | exact .inl rfl | exact .inr rfl | assumption) : wpAny M A (storeName X.env x u) Q E s :=
  store_ok2 I hN hi hx r (fun s' I' _ => h s' I') hf
theorem Inv.call' {s' : Shared} {ch : List Addr} (I : Inv X pins σ H s) (ho : s'.os = s.os) (u : Un (frs X.stack) ch H H' s.heap s'.heap) (hok : HOk X.prog X.w H' s'.heap) (hg : AllBare s'.gens)
    (hch : ∀ b ∈ ch, (b ∈ X.ex ∨ X.s_0.heap.objs.size ≤ b) ∧ b ≠ X.env.locals ∧ (∀ x c, X.env.cells.lookup x = some c → c ≠ b) ∧ ∀ p ∈ X.pn ++ pins, p.1 ≠ b) : Inv X pins σ H' s' := by
  obtain ⟨h', g', d', t', o'⟩ := s'
  have e : o' = s.os := ho
  subst e
  exact I.call (g' := g') (t' := t') (d' := d') u hok hg hch
end

abbrev XK := Value → Option Addr → Hp → Prop
abbrev St := List (Option V)
abbrev VK := V → Hp → Prop
abbrev TE := St → Hp → VK → Prop
abbrev TT := St → Hp → (Bool → Hp → Prop) → Prop
abbrev TA := St → Hp → (List V → Hp → Prop) → Prop
structure Ends where
  nx : St → Hp → Prop
  rt : VK
  bk : St → Hp → Prop := fun _ _ => False
  ct : St → Hp → Prop := fun _ _ => False
abbrev TS := Ends → St → Hp → Prop

inductive EP (X : Cx) (pins : List (Addr × Obj)) (σ : St) (Q : VK) (u : Value) (s' : Shared) : Prop
  | mk (v : V) (H' : Hp) (i : Inv X pins σ H' s') (r : RelV v u) (q : Q v H') : EP X pins σ Q u s'
def TP (X : Cx) (pins : List (Addr × Obj)) (σ : St) (Q : Bool → Hp → Prop) (b : Bool) (s' : Shared) : Prop := ∃ H', Inv X pins σ H' s' ∧ Q b H'
inductive AP (X : Cx) (pins : List (Addr × Obj)) (σ : St) (Q : List V → Hp → Prop) (us : List Value) (s' : Shared) : Prop
  | mk (vs : List V) (H' : Hp) (i : Inv X pins σ H' s') (r : Vals vs us) (q : Q vs H') : AP X pins σ Q us s'
def SP (X : Cx) (pins : List (Addr × Obj)) (D : Ends) (f : Flow) (s' : Shared) : Prop :=
  match f with
  | .next => ∃ σ' H', Inv X pins σ' H' s' ∧ D.nx σ' H'
  | .brk => ∃ σ' H', Inv X pins σ' H' s' ∧ D.bk σ' H'
  | .cont => ∃ σ' H', Inv X pins σ' H' s' ∧ D.ct σ' H'
  | .ret u => ∃ v σ' H', Inv X pins σ' H' s' ∧ RelV v u ∧ D.rt v H'

def PE (X : Cx) (e : Expr) (t : TE) : Prop :=
  ∀ (pins : List (Addr × Obj)) (s : Shared) (σ : St) (H : Hp) (Q : VK), Inv X pins σ H s → t σ H Q → wpAny (model X.prog X.w) X.A (eval e X.env) (EP X pins σ Q) X.xe s
def PT (X : Cx) (e : Expr) (t : TT) : Prop :=
  ∀ (pins : List (Addr × Obj)) (s : Shared) (σ : St) (H : Hp) (Q : Bool → Hp → Prop), Inv X pins σ H s → t σ H Q → wpAny (model X.prog X.w) X.A (isTrue e X.env (eval e X.env)) (TP X pins σ Q) X.xe s
def PW (X : Cx) (e : Expr) (t : TT) : Prop :=
  ∀ (whole : Sem Value) (pins : List (Addr × Obj)) (s : Shared) (σ : St) (H : Hp) (Q : Bool → Hp → Prop), Inv X pins σ H s → t σ H Q → wpAny (model X.prog X.w) X.A (isTrue e X.env whole) (TP X pins σ Q) X.xe s
theorem PW.pt {X : Cx} {e : Expr} {t : TT} (h : PW X e t) : PT X e t := h _
def PA (X : Cx) (es : List Expr) (t : TA) : Prop :=
  ∀ (pos : Pos) (pins : List (Addr × Obj)) (s : Shared) (σ : St) (H : Hp) (Q : List V → Hp → Prop), Inv X pins σ H s → t σ H Q → wpAny (model X.prog X.w) X.A (spliced (backTo pos (starEach es X.env))) (AP X pins σ Q) X.xe s
def PS (X : Cx) (st : Stmt) (t : TS) : Prop :=
  ∀ (pins : List (Addr × Obj)) (s : Shared) (σ : St) (H : Hp) (D : Ends), Inv X pins σ H s → t D σ H → wpAny (model X.prog X.w) X.A (exec st X.env) (SP X pins D) X.xe s
def PSs (X : Cx) (st : List Stmt) (t : TS) : Prop :=
  ∀ (pins : List (Addr × Obj)) (s : Shared) (σ : St) (H : Hp) (D : Ends), Inv X pins σ H s → t D σ H → wpAny (model X.prog X.w) X.A (execs st X.env) (SP X pins D) X.xe s
theorem thn {α : Type} {t : Sem α} {Q Q' : α → Shared → Prop} {M : Model} {A : Around} {E : Value → Shared → Prop} {s : Shared} (h : wpAny M A t Q E s) (hQ : ∀ a s, Q a s → Q' a s) : wpAny M A t Q' E s := wpAny_mono h hQ fun _ _ x => x
end L2

namespace L2
open PySem PySem.Spec PyProof.Rows
section
variable {X : Cx}

theorem bin {a b : Expr} {ta tb : TE} (ha : PE X a ta) (hb : PE X b tb) {pins : List (Addr × Obj)} {s : Shared} {σ : St} {H : Hp} {R : V → V → Hp → Prop} (I : Inv X pins σ H s) (h : ta σ H fun x H1 => tb σ H1 fun y H2 => R x y H2)
    {α : Type} {Q : α → Shared → Prop} {f : Value → Value → Sem α}
    (hf : ∀ v u s2 x y H2, Inv X pins σ H2 s2 → RelV x v → RelV y u → R x y H2 → wpAny (model X.prog X.w) X.A (f v u) Q X.xe s2) :
    wpAny (model X.prog X.w) X.A (eval a X.env) (fun v s₁ => wpAny (model X.prog X.w) X.A (eval b X.env) (fun u s₂ => wpAny (model X.prog X.w) X.A (f v u) Q X.xe s₂) X.xe s₁) X.xe s := by
  refine thn (ha pins s σ H _ I h) fun v s1 ⟨x, H1, I1, r1, q1⟩ => ?_
  refine thn (hb pins s1 σ H1 _ I1 q1) fun u s2 ⟨y, H2, I2, r2, q2⟩ => ?_
  exact hf v u s2 x y H2 I2 r1 r2 q2

inductive RdVar (i : Nat) (σ : St) (H : Hp) (Q : VK) : Prop
  | mk (v : V) (h : σ[i]? = some (some v)) (q : Q v H) : RdVar i σ H Q
def tVar (i : Nat) : TE := fun σ H Q => RdVar i σ H Q
def tC (v : V) : TE := fun _ H Q => Q v H
theorem pe_var {i : Nat} {x : Str} {pos : Pos} (hN : X.N[i]? = some x) (hv : Vis X.env.scope x) (hd : (x == ("__debug__" : Str)) = false := by decide) (hcd : (x == ("__classdict__" : Str)) = false := by decide) : PE X (.Name x pos) (tVar i) := by
  intro pins s σ H Q I h
  obtain ⟨v, e, h⟩ := h
  obtain ⟨m, hn, hl⟩ := I.loc
  obtain ⟨u, r, l⟩ := hl i x v hN e hv
  have fin : EP X pins σ Q u s := ⟨v, H, I, r, h⟩
  rcases l with ⟨hk, hm⟩ | ⟨hk, c, hc, hcell⟩
  · exact wpAny_Name (wpAny_loadName_local I.ok.kind hk hn hm fin) hd
  · rcases hk with hk | hk
    · exact wpAny_Name (wpAny_loadName_cell I.ok.kind hk hc hcell fin) hd
    · exact wpAny_Name (wpAny_loadName_free I.ok.kind hk hc hcell fin hcd) hd
theorem pe_int {i j pos} : PE X (.Constant (.int i) j pos) (tC (.int i)) := fun _ _ _ H _ I h => wpAny_Constant_int ⟨.int i, H, I.tok _, ⟨_, rfl⟩, h⟩
theorem pe_bl {b j pos} : PE X (.Constant (.bool b) j pos) (tC (.bl b)) := fun _ _ _ H _ I h => Constant_bool ⟨.bl b, H, I, rfl, h⟩
def Gl (X : Cx) (x : Str) : Prop := X.env.kindOf x = some .globalImplicit
theorem ld_glob {E : Value → Shared → Prop} {pins : List (Addr × Obj)} {s : Shared} {σ : St} {H : Hp} {x : Str} {u : Value} {pos : Pos} {Q : Value → Shared → Prop} (I : Inv X pins σ H s) (hg : Gl X x) (hm : X.mg x = some u) (h : Q u s)
    (hd : (x == ("__debug__" : Str)) = false := by decide) : wpAny (model X.prog X.w) X.A (eval (.Name x pos) X.env) Q E s :=
  Calls.Name_function_global I.ok.kind hg (Calls.loadGlobal_global (by rw [I.ok.glob]; exact I.mod.glob.keeps I.bk) hm h) hd
theorem ld_blt {E : Value → Shared → Prop} {pins : List (Addr × Obj)} {s : Shared} {σ : St} {H : Hp} {x : Str} {u : Value} {pos : Pos} {Q : Value → Shared → Prop} (I : Inv X pins σ H s) (hg : Gl X x) (hm : X.mg x = none) (hv : bootBuiltins x = some u) (h : Q u s)
    (hn : x ≠ "__name__" := by decide) (hd : (x == ("__debug__" : Str)) = false := by decide) : wpAny (model X.prog X.w) X.A (eval (.Name x pos) X.env) Q E s := by
  obtain ⟨mb, h1, h2⟩ := I.mod.blt
  exact Calls.Name_function_global I.ok.kind hg (Calls.loadGlobal_builtin (by rw [I.ok.glob]; exact I.mod.glob.keeps I.bk) hm (by rw [I.ok.blt]; exact h1.keeps I.bk) ((h2 x hn).trans hv) h) hd
theorem pe_glob {x : Str} {v : V} {u : Value} {pos : Pos} (hg : Gl X x) (hm : X.mg x = some u) (r : RelV v u) (hd : (x == ("__debug__" : Str)) = false := by decide) : PE X (.Name x pos) (tC v) :=
  fun _ _ _ H _ I h => ld_glob I hg hm ⟨v, H, I, r, h⟩ hd
variable {a b : Expr} {ta tb : TE} {pos : Pos}
def PC (X : Cx) (op : CmpOp) (a b : Expr) (t : TE) : Prop :=
  ∀ (pins : List (Addr × Obj)) (s : Shared) (σ : St) (H : Hp) (Q : VK), Inv X pins σ H s → t σ H Q →
    wpAny (model X.prog X.w) X.A (eval a X.env) (fun v s₁ => wpAny (model X.prog X.w) X.A (eval b X.env) (fun u s₂ => wpAny (model X.prog X.w) X.A (compareOp op v u) (EP X pins σ Q) X.xe s₂) X.xe s₁) X.xe s
inductive RdBl (x : V) (H : Hp) (Q : Bool → Hp → Prop) : Prop
  | mk (c : Bool) (h : x = .bl c) (q : Q c H) : RdBl x H Q
def tB (t : TE) : TT := fun σ H Q => t σ H fun x H1 => RdBl x H1 Q
theorem pt_cmp {op : CmpOp} {t : TE} (h : PC X op a b t) (h1 : behindInMarks op b = false := by first | exact nobehind _ (by decide) (by decide) | rfl) : PT X (.Compare a [op] [b] pos) (tB t) := by
  intro pins s σ H Q I hw
  refine wpAny_isTrue_Compare1 (thn (h pins s σ H _ I hw) fun v s1 h1 => thn h1 fun u s2 h2 => thn h2 fun c s3 ⟨x, H1, I1, r1, q1⟩ => ?_) h1
  obtain ⟨d, rfl, q⟩ := q1
  cases r1
  exact wpAny_truthy_bool ⟨H1, I1, q⟩
theorem pt_val {e : Expr} {t : TE} (h : PE X e t) (he : ∀ whole, isTrue e X.env whole = (do let v ← whole; standAt e.pos; holding [v] (truthy v)) := by intro _; rfl) : PT X e (tB t) := by
  intro pins s σ H Q I hw
  refine isTrue_plain (thn (h pins s σ H _ I hw) fun v s1 ⟨x, H1, I1, r1, q1⟩ => ?_) (he _)
  obtain ⟨d, rfl, q⟩ := q1
  cases r1
  exact wpAny_truthy_bool ⟨H1, I1, q⟩

variable {tA tB' : TT} {rest : List Expr}
def tAnd (t u : TT) : TT := fun σ H Q => t σ H fun c H1 => if c = true then u σ H1 Q else Q false H1
def tOr (t u : TT) : TT := fun σ H Q => t σ H fun c H1 => if c = true then Q true H1 else u σ H1 Q
def tNot (t : TT) : TT := fun σ H Q => t σ H fun c H1 => Q (!c) H1
theorem pw_and1 (ha : PT X a tA) : PW X (.BoolOp .And [a] pos) tA := by
  intro wh pins s σ H Q I h
  refine isTrue_and (thn (ha pins s σ H Q I h) fun c s1 e => ?_)
  cases c with
  | true => exact isTrue_and_nil e
  | false => exact e
theorem pw_or1 (ha : PT X a tA) : PW X (.BoolOp .Or [a] pos) tA := by
  intro wh pins s σ H Q I h
  refine isTrue_or (thn (ha pins s σ H Q I h) fun c s1 e => ?_)
  cases c with
  | false => exact isTrue_or_nil e
  | true => exact e
theorem pw_and (ha : PT X a tA) (hb : PW X (.BoolOp .And (b :: rest) pos) tB') : PW X (.BoolOp .And (a :: b :: rest) pos) (tAnd tA tB') := by
  intro wh pins s σ H Q I h
  refine isTrue_and (thn (ha pins s σ H _ I h) fun c s1 ⟨H1, I1, q1⟩ => ?_)
  cases c with
  | true => exact hb wh pins s1 σ H1 Q I1 q1
  | false => exact ⟨H1, I1, q1⟩
theorem pw_or (ha : PT X a tA) (hb : PW X (.BoolOp .Or (b :: rest) pos) tB') : PW X (.BoolOp .Or (a :: b :: rest) pos) (tOr tA tB') := by
  intro wh pins s σ H Q I h
  refine isTrue_or (thn (ha pins s σ H _ I h) fun c s1 ⟨H1, I1, q1⟩ => ?_)
  cases c with
  | true => exact ⟨H1, I1, q1⟩
  | false => exact hb wh pins s1 σ H1 Q I1 q1
theorem pt_not (ha : PT X a tA) : PT X (.UnaryOp .Not a pos) (tNot tA) := by
  intro pins s σ H Q I h
  exact isTrue_not (ha pins s σ H (fun c H1 => Q (!c) H1) I h)
def tAndV (ta tb : TE) : TE := fun σ H Q => ta σ H fun x H1 => ∃ c, x = .bl c ∧ if c = true then tb σ H1 Q else Q (.bl false) H1
theorem pe_one {op} {t : TE} (h : PE X a t) : PE X (.BoolOp op [a] pos) t := fun pins s σ H Q I hw => BoolOp_one (h pins s σ H Q I hw)
theorem pe_and (ha : PE X a ta) (hb : PE X (.BoolOp .And (b :: rest) pos) tb) : PE X (.BoolOp .And (a :: b :: rest) pos) (tAndV ta tb) := by
  intro pins s σ H Q I h
  refine BoolOp_and (thn (ha pins s σ H _ I h) fun v s1 ⟨x, H1, I1, r1, q1⟩ => ?_)
  obtain ⟨c, rfl, q1⟩ := q1
  cases r1
  refine wpAny_truthy_bool ?_
  cases c with
  | true => exact hb pins s1 σ H1 Q I1 q1
  | false => exact ⟨.bl false, H1, I1, rfl, q1⟩
def tIf (t : TT) (ta tb : TE) : TE := fun σ H Q => t σ H fun c H1 => if c = true then ta σ H1 Q else tb σ H1 Q
theorem pe_ifExp {c : Expr} (hc : PT X c tA) (ha : PE X a ta) (hb : PE X b tb) : PE X (.IfExp c a b pos) (tIf tA ta tb) := by
  intro pins s σ H Q I h
  refine wpAny_IfExp (thn (hc pins s σ H _ I h) fun d s1 ⟨H1, I1, q1⟩ => ?_)
  cases d with
  | true => exact ha pins s1 σ H1 Q I1 q1
  | false => exact hb pins s1 σ H1 Q I1 q1
end
end L2

namespace L2
open PySem PySem.Spec PyProof.Rows

def SqL (K : PySem.W.Frag) (H : Hp) (a : Addr) (xs : List V) : Prop :=
  Rd H a (.lst xs) ∨
    ∃ (o : Obj) (its : Array Value) (n : Nat), K.lookup a = some o ∧ o.cls = .type "list" ∧ o.dict = none ∧ o.data = .seq its n ∧ its.size ≤ sizeLine ∧ Vals xs its.toList
def SqT (K : PySem.W.Frag) (H : Hp) (a : Addr) (xs : List V) : Prop :=
  Rd H a (.tup xs) ∨
    ∃ (o : Obj) (its : Array Value) (n : Nat), K.lookup a = some o ∧ o.cls = .type "tuple" ∧ o.data = .seq its n ∧ its.size ≤ sizeLine ∧ Vals xs its.toList
def absV : Value → Option V
  | .none => some .non
  | .bool b => some (.bl b)
  | .int i _ => some (.int i)
  | .str x _ => some (.str x)
  | .bytes b _ => some (.byt b)
  | .float b _ => some (.flt b)
  | .ref a => some (.ref a)
  | .type n => some (.ty n)
  | _ => none
theorem RelV.abs {x : V} {u : Value} (r : RelV x u) : absV u = some x := by
  cases x with
  | non => cases r; rfl
  | bl _ => cases r; rfl
  | int _ => obtain ⟨t, rfl⟩ := r; rfl
  | str _ => obtain ⟨t, rfl⟩ := r; rfl
  | byt _ => obtain ⟨t, rfl⟩ := r; rfl
  | flt _ => obtain ⟨t, rfl⟩ := r; rfl
  | ref _ => cases r; rfl
  | ty _ => cases r; rfl
theorem RelV.inj {x y : V} {u : Value} (r : RelV x u) (q : RelV y u) : x = y := Option.some.inj (r.abs.symm.trans q.abs)
theorem Vals.inj : ∀ {xs ys : List V} {us : List Value}, Vals xs us → Vals ys us → xs = ys
  | _, _, _, .nil, .nil => rfl
  | _, _, _, .cons r t, .cons r' t' => by rw [r.inj r', Vals.inj t t']
section
variable {X : Cx} {pins : List (Addr × Obj)} {σ : St} {H : Hp} {s : Shared} {a : Addr} {xs ys : List V}
theorem SqL.of {K : PySem.W.Frag} (h : H a = some (.lst xs)) : SqL K H a xs := .inl (.inl h)
theorem SqT.of {K : PySem.W.Frag} (h : H a = some (.tup xs)) : SqT K H a xs := .inl (.inl h)
theorem Inv.list (I : Inv X pins σ H s) (h : SqL X.K H a xs) : ∃ its : List Value, Vals xs its ∧ PlainL s.heap a its.toArray ∧ xs.length ≤ sizeLine := by
  rcases h with h | ⟨o, its, n, hk, hc, hd, hs, hz, r⟩
  · obtain ⟨z, its, n, r, e⟩ := h.ok I.hok
    exact ⟨its, r, ⟨_, n, e, rfl, rfl, rfl⟩, z⟩
  · refine ⟨its.toList, r, ⟨o, n, I.kIn a o hk, hc, hd, by simpa using hs⟩, ?_⟩
    have e := r.length
    simp only [Array.length_toList] at e
    omega
theorem Inv.tuple (I : Inv X pins σ H s) (h : SqT X.K H a xs) : ∃ its : List Value, Vals xs its ∧ IsTup s.heap a its.toArray ∧ xs.length ≤ sizeLine := by
  rcases h with h | ⟨o, its, n, hk, hc, hs, hz, r⟩
  · obtain ⟨z, its, r, p⟩ := h.ok I.hok
    exact ⟨its, r, p, z⟩
  · refine ⟨its.toList, r, ⟨o, I.kIn a o hk, hc, n, by simpa using hs⟩, ?_⟩
    have e := r.length
    simp only [Array.length_toList] at e
    omega
theorem Inv.list_inj (I : Inv X pins σ H s) (h : SqL X.K H a xs) (h' : SqL X.K H a ys) : xs = ys := by
  obtain ⟨its, r, ⟨o, n, e, _, _, d⟩, _⟩ := I.list h
  obtain ⟨its', r', ⟨o', n', e', _, _, d'⟩, _⟩ := I.list h'
  rw [e] at e'; cases e'
  rw [d] at d'
  injection d' with d1 _
  have : its = its' := by simpa using congrArg Array.toList d1
  subst this
  exact r.inj r'
theorem Inv.tuple_inj (I : Inv X pins σ H s) (h : SqT X.K H a xs) (h' : SqT X.K H a ys) : xs = ys := by
  obtain ⟨its, r, ⟨o, e, _, n, d⟩, _⟩ := I.tuple h
  obtain ⟨its', r', ⟨o', e', _, n', d'⟩, _⟩ := I.tuple h'
  rw [e] at e'; cases e'
  rw [d] at d'
  injection d' with d1 _
  have : its = its' := by simpa using congrArg Array.toList d1
  subst this
  exact r.inj r'
end

abbrev Cx.wish (X : Cx) (E : Value → Shared → Prop) : Cx := { X with xe := E }
abbrev Cx.nox (X : Cx) : Cx := X.wish fun _ _ => False
theorem Cx.Ok.wish {X : Cx} (ok : X.Ok) (E : Value → Shared → Prop) : (X.wish E).Ok :=
  ⟨ok.mod, ok.kind, ok.glob, ok.blt, ok.above, ok.inj, ok.has, ok.cab, ok.hd, ok.frames, ok.stk, ok.exf, ok.bs, ok.bsz, ok.noex, ok.exfs, ok.funs, ok.frf⟩
theorem Cx.Ok.unwish {X : Cx} {E : Value → Shared → Prop} (ok : (X.wish E).Ok) : X.Ok :=
  ⟨ok.mod, ok.kind, ok.glob, ok.blt, ok.above, ok.inj, ok.has, ok.cab, ok.hd, ok.frames, ok.stk, ok.exf, ok.bs, ok.bsz, ok.noex, ok.exfs, ok.funs, ok.frf⟩
section
variable {X : Cx} {pins : List (Addr × Obj)} {σ : St} {H : Hp} {s : Shared} {E : Value → Shared → Prop}
theorem Inv.wish (I : Inv X pins σ H s) (E : Value → Shared → Prop) : Inv (X.wish E) pins σ H s := ⟨I.ok.wish E, I.os, I.bare, I.base, I.loc, I.cell, I.free, I.freeC, I.pin, I.hok, I.len⟩
theorem Inv.unwish (I : Inv (X.wish E) pins σ H s) : Inv X pins σ H s := ⟨I.ok.unwish, I.os, I.bare, I.base, I.loc, I.cell, I.free, I.freeC, I.pin, I.hok, I.len⟩
theorem SP.unwish {D : Ends} {f : Flow} {s' : Shared} (h : SP (X.wish E) pins D f s') : SP X pins D f s' := by
  cases f with
  | next => obtain ⟨σ', H', I, q⟩ := h; exact ⟨σ', H', I.unwish, q⟩
  | brk => obtain ⟨σ', H', I, q⟩ := h; exact ⟨σ', H', I.unwish, q⟩
  | cont => obtain ⟨σ', H', I, q⟩ := h; exact ⟨σ', H', I.unwish, q⟩
  | ret u => obtain ⟨v, σ', H', I, r, q⟩ := h; exact ⟨v, σ', H', I.unwish, r, q⟩
theorem PSs.nox {st : List Stmt} {t : TS} (h : PSs X.nox st t) : PSs X st t := fun pins s σ H D I hw =>
  wpAny_mono (h pins s σ H D (I.wish _) hw) (fun _ _ q => q.unwish) fun _ _ z => False.elim z
end

section
variable {X : Cx} {st : Stmt} {rest : List Stmt} {t u : TS} {e : Expr} {te : TE} {pos : Pos}
def tNext : TS := fun D σ H => D.nx σ H
def tSeq (t u : TS) : TS := fun D σ H => t { D with nx := u D } σ H
theorem pss_nil : PSs X [] tNext := fun _ _ σ H _ I h => wpAny_execs_nil ⟨σ, H, I, h⟩
theorem pss_cons (h1 : PS X st t) (h2 : PSs X rest u) : PSs X (st :: rest) (tSeq t u) := by
  intro pins s σ H D I h
  refine wpAny_execs_cons (thn (h1 pins s σ H { D with nx := u D } I h) fun f s1 q => ?_)
  cases f with
  | next =>
    obtain ⟨σ', H', I', q⟩ := q
    exact h2 pins s1 σ' H' D I' q
  | ret v => exact q
  | brk => exact q
  | cont => exact q
theorem pss_one (h1 : PS X st t) : PSs X [st] t := by
  intro pins s σ H D I h
  refine wpAny_execs_cons (thn (h1 pins s σ H D I h) fun f s1 q => ?_)
  cases f with
  | next => exact wpAny_execs_nil q
  | ret v => exact q
  | brk => exact q
  | cont => exact q
theorem Inv.quiet {pins : List (Addr × Obj)} {σ : St} {H : Hp} {s : Shared} (I : Inv X pins σ H s) : interactive X.env = false := by simp [interactive, I.ok.kind]
def tDrop (te : TE) : TS := fun D σ H => te σ H fun _ H1 => D.nx σ H1
theorem ps_expr (he : PE X e te) (hs : swapsWith e none pos.line X.env = pure false := by rfl) : PS X (.Expr e pos) (tDrop te) := by
  intro pins s σ H D I h
  exact wpAny_Expr_any (thn (he pins s σ H _ I h) fun v s1 ⟨x, H1, I1, r1, q1⟩ => ⟨σ, H1, I1, q1⟩) I.quiet hs
def tRet (te : TE) : TS := fun D σ H => te σ H D.rt
theorem ps_ret (he : PE X e te) : PS X (.Return (some e) pos) (tRet te) := by
  intro pins s σ H D I h
  exact wpAny_Return_some (thn (he pins s σ H _ I h) fun v s1 ⟨x, H1, I1, r1, q1⟩ => ⟨x, σ, H1, I1, r1, q1⟩)
def tIfS (c : TT) (t u : TS) : TS := fun D σ H => c σ H fun b H1 => if b = true then t D σ H1 else u D σ H1
theorem ps_if {c : Expr} {a b : List Stmt} {tc : TT} (hc : PT X c tc) (ha : PSs X a t) (hb : PSs X b u) : PS X (.If c a b pos) (tIfS tc t u) := by
  intro pins s σ H D I h
  refine wpAny_If (thn (hc pins s σ H _ I h) fun d s1 ⟨H1, I1, q1⟩ => ?_)
  cases d with
  | true => exact ha pins s1 σ H1 D I1 q1
  | false => exact hb pins s1 σ H1 D I1 q1
end

abbrev TG := V → St → Hp → (St → Hp → Prop) → Prop
def PG (X : Cx) (target : Expr) (t : TG) : Prop :=
  ∀ (pins : List (Addr × Obj)) (s : Shared) (σ : St) (H : Hp) (v : V) (u : Value) (Q : St → Hp → Prop), Inv X pins σ H s → RelV v u → t v σ H Q →
    wpAny (model X.prog X.w) X.A (assign target X.env u) (fun _ s' => ∃ σ' H', Inv X pins σ' H' s' ∧ Q σ' H') X.xe s
abbrev TIp := V → V → Hp → VK → Prop
def PIp (X : Cx) (op : Operator) (t : TIp) : Prop :=
  ∀ (pins : List (Addr × Obj)) (s : Shared) (σ : St) (H : Hp) (x y : V) (v u : Value) (Q : VK), Inv X pins σ H s → RelV x v → RelV y u → t x y H Q →
    wpAny (model X.prog X.w) X.A (inplaceOp op v u) (EP X pins σ Q) X.xe s
section
variable {X : Cx} {pos : Pos}
def gName (i : Nat) : TG := fun v σ H Q => Q (σ.set i (some v)) H
theorem pg_name {i : Nat} {x : Str} (hN : X.N.Nodup) (hi : X.N[i]? = some x) (hx : Loc X.env.scope x) (hf : X.fn x = true ∨ X.env.scope.names.lookup x = some .local := by first | exact .inl rfl | exact .inr rfl | assumption) : PG X (.Name x pos) (gName i) := by
  intro pins s σ H v u Q I r h
  exact wpAny_assign_Name (store_ok I hN hi hx r (fun s' I' => ⟨_, H, I', h⟩) hf)
def tAsg (te : TE) (g : TG) : TS := fun D σ H => te σ H fun x H1 => g x σ H1 D.nx
theorem ps_set {i : Nat} {x : Str} {e : Expr} {te : TE} {pos' : Pos} (hN : X.N.Nodup) (hi : X.N[i]? = some x) (hx : Loc X.env.scope x) (he : PE X e te) (hs : swapsWith e (some (.Name x pos')) pos.line X.env = pure false := by rfl) (hf : X.fn x = true ∨ X.env.scope.names.lookup x = some .local := by first | exact .inl rfl | exact .inr rfl | assumption) :
    PS X (.Assign [.Name x pos'] e pos) (tAsg te (gName i)) := by
  intro pins s σ H D I h
  refine wpAny_Assign_Name (thn (he pins s σ H _ I h) fun v s1 ⟨y, H1, I1, r1, q1⟩ => ?_) hs
  exact store_ok I1 hN hi hx r1 (fun s2 I2 => ⟨_, H1, I2, q1⟩) hf
def tAug (i : Nat) (te : TE) (ti : TIp) : TS := fun D σ H => RdVar i σ H fun x H0 => te σ H0 fun y H1 => ti x y H1 fun z H2 => D.nx (σ.set i (some z)) H2
theorem ps_aug {i : Nat} {x : Str} {e : Expr} {te : TE} {op : Operator} {ti : TIp} {pos' : Pos} (hN : X.N.Nodup) (hi : X.N[i]? = some x) (hx : Loc X.env.scope x) (he : PE X e te) (ho : PIp X op ti) (hf : X.fn x = true ∨ X.env.scope.names.lookup x = some .local := by first | exact .inl rfl | exact .inr rfl | assumption) :
    PS X (.AugAssign (.Name x pos') op e pos) (tAug i te ti) := by
  intro pins s σ H D I h
  obtain ⟨v, e1, h⟩ := h
  obtain ⟨m, hn, hl⟩ := I.loc
  have vis : Vis X.env.scope x := by rcases hx with k | k; exact .inl k; exact .inr (.inl k)
  obtain ⟨u, r, l⟩ := hl i x v hi e1 vis
  refine wpAny_AugAssign_Name ?_
  have go : wpAny (model X.prog X.w) X.A (eval e X.env) (fun w s₂ => wpAny (model X.prog X.w) X.A (inplaceOp op u w) (fun r s₃ => wpAny (model X.prog X.w) X.A (storeName X.env x r) (fun _ => SP X pins D .next) X.xe s₃) X.xe s₂) X.xe s := by
    refine thn (he pins s σ H _ I h) fun w s1 ⟨y, H1, I1, r1, q1⟩ => ?_
    refine thn (ho pins s1 σ H1 v y u w _ I1 r r1 q1) fun z s2 ⟨zv, H2, I2, r2, q2⟩ => ?_
    exact store_ok I2 hN hi hx r2 (fun s3 I3 => ⟨_, H2, I3, q2⟩) hf
  rcases l with ⟨hk, hm⟩ | ⟨hk, c, hc, hcell⟩
  · exact wpAny_loadName_local I.ok.kind hk hn hm go
  · rcases hk with hk | hk
    · exact wpAny_loadName_cell I.ok.kind hk hc hcell go
    · rcases hx with k | k
      · have : X.env.scope.names.lookup x = some .free := hk
        rw [k] at this; cases this
      · have : X.env.scope.names.lookup x = some .free := hk
        rw [k] at this; cases this
inductive RdIp (f : Int → Int → Int) (x y : V) (H : Hp) (Q : VK) : Prop
  | mk (i j : Int) (e : x = .int i) (g : y = .int j) (q : Q (.int (f i j)) H) : RdIp f x y H Q
def ipI (f : Int → Int → Int) : TIp := fun x y H Q => RdIp f x y H Q
theorem ip_add : PIp X .Add (ipI fun i j => i + j) := by
  intro pins s σ H x y v u Q I r1 r2 h
  obtain ⟨i, j, e1, e2, q⟩ := h
  subst e1; subst e2
  obtain ⟨t, rfl⟩ := r1
  obtain ⟨t', rfl⟩ := r2
  exact iadd_int ⟨.int _, H, I.tok _, ⟨_, rfl⟩, q⟩
end

section
variable {X : Cx} {pos : Pos}
def tWhile (c : TT) (tb : TS) : TS := fun D σ H => ∃ W : Nat → St → Hp → Prop, (∃ m, W m σ H) ∧ ∀ m σ H, W m σ H →
  c σ H fun b H1 => if b = true then ∃ N : St → Hp → Prop, (∀ σ' H', N σ' H' → ∃ m', m' < m ∧ W m' σ' H') ∧ tb { D with nx := N, ct := N, bk := D.nx } σ H1 else D.nx σ H1
theorem ps_while {c : Expr} {body : List Stmt} {tc : TT} {tb : TS} (hp : PassesOwn (model X.prog X.w) X.A X.env X.xe) (hc : PT X c tc) (hb : PSs X body tb) : PS X (.While c body [] pos) (tWhile tc tb) := by
  intro pins s σ H D I h
  obtain ⟨W, ⟨m0, w0⟩, turn⟩ := h
  refine wpAny_While (codeAny_whileLoop (fun n s' => ∃ σ' H', Inv X pins σ' H' s' ∧ W n σ' H') ?_ m0 ⟨σ, H, I, w0⟩)
  rintro n s1 ⟨σ1, H1, I1, w1⟩
  refine wpAny_passesOwn hp (thn (hc pins s1 σ1 H1 _ I1 (turn n σ1 H1 w1)) fun b s2 ⟨H2, I2, q2⟩ => ?_)
  cases b with
  | true =>
    obtain ⟨N, hN, q2⟩ := q2
    rw [if_pos rfl]
    refine wpAny_passesOwn hp (thn (hb pins s2 σ1 H2 _ I2 q2) fun f s3 q3 => ?_)
    cases f with
    | next =>
      obtain ⟨σ3, H3, I3, n3⟩ := q3
      obtain ⟨m', hm, w3⟩ := hN σ3 H3 n3
      exact ⟨m', hm, σ3, H3, I3, w3⟩
    | cont =>
      obtain ⟨σ3, H3, I3, n3⟩ := q3
      obtain ⟨m', hm, w3⟩ := hN σ3 H3 n3
      exact ⟨m', hm, σ3, H3, I3, w3⟩
    | brk => exact q3
    | ret v => exact q3
  | false =>
    rw [if_neg Bool.false_ne_true]
    exact wpAny_execs_nil ⟨σ1, H2, I2, q2⟩
end

structure It where
  go : Nat → Hp → Prop
  yld : Nat → Hp → V → Hp → Prop
  stop : Nat → Hp → Prop
def FpOk (X : Cx) (pins : List (Addr × Obj)) (H : Hp) (b : Addr) : Prop :=
  H b = none ∧ b ≠ X.env.locals ∧ b ∉ X.fs ∧ (b ∈ X.ex ∨ X.s_0.heap.objs.size ≤ b) ∧ (∀ x c, X.env.cells.lookup x = some c → c ≠ b) ∧ ∀ p ∈ X.pn ++ pins, p.1 ≠ b
theorem Inv.fpOk {X : Cx} {pins : List (Addr × Obj)} {σ : St} {H H' : Hp} {s : Shared} {b : Addr} (I : Inv X pins σ H s) (hb : s.heap.objs.size ≤ b) (hn : H' b = none) : FpOk X pins H' b := by
  refine ⟨hn, Nat.ne_of_gt (Nat.lt_of_lt_of_le I.lt hb), I.nofs hb, .inr (Nat.le_trans I.sz hb), fun x c e z => ?_, fun p hp z => ?_⟩
  · obtain ⟨v, q⟩ := I.cell x c e
    exact absurd (Nat.lt_of_lt_of_le q.lt (by rw [z]; exact hb)) (Nat.lt_irrefl _)
  · exact absurd (Nat.lt_of_lt_of_le (Heap.lt_size (I.pin p hp).1) (by rw [z]; exact hb)) (Nat.lt_irrefl _)
structure Turn (P : Program) (w : World) (K : PySem.W.Frag) (tg : Expr) (J : It) (fp : List Addr) (it : Addr) (tn : Nat → Heap → Prop) : Prop where
  mem : it ∈ fp
  obj : ∀ i h, tn i h → ∀ b ∈ fp, ∃ o, h.get? b = some o ∧ ∀ v, o.data ≠ .cell v
  keep : ∀ i h h', tn i h → (∀ b ∈ fp, ∀ o, h.get? b = some o → h'.get? b = some o) → tn i h'
  item : ∀ (X : Cx), X.prog = P → X.w = w → X.K = K → X.calm = true → ∀ (i : Nat) (pins : List (Addr × Obj)) (s : Shared) (σ : St) (H : Hp) (E : Value → Shared → Prop), Inv X pins σ H s → (∀ b ∈ fp, FpOk X pins H b) → tn i s.heap → J.go i H →
    wpAny (model P w) X.A (pyNext (.ref it)) (fun r s1 => ∃ u, r = some u ∧
      wpAny (model P w) X.A (letOwnedTupleGo tg (.ref it) u) (fun _ s2 => ∃ x H', Inv X pins σ H' s2 ∧ RelV x u ∧ J.yld i H x H' ∧ tn (i + 1) s2.heap ∧ ∀ b ∈ fp, H' b = none) E s1) E s
  done : ∀ (X : Cx), X.prog = P → X.w = w → X.K = K → X.calm = true → ∀ (i : Nat) (pins : List (Addr × Obj)) (s : Shared) (σ : St) (H : Hp) (E : Value → Shared → Prop), Inv X pins σ H s → (∀ b ∈ fp, FpOk X pins H b) → tn i s.heap → J.stop i H →
    wpAny (model P w) X.A (pyNext (.ref it)) (fun r s1 => r = none ∧ Inv X pins σ H s1) E s
  self : ∀ (A : Around) (i : Nat) (s : Shared) (Q : Value → Shared → Prop) (E : Value → Shared → Prop), tn i s.heap → Q (.ref it) s → wpAny (model P w) A (pyIter (.ref it)) Q E s
abbrev TI := St → Hp → (It → Hp → Prop) → Prop
def PIE (X : Cx) (pins : List (Addr × Obj)) (σ : St) (tg : Expr) (R : It → Hp → Prop) (itv : Value) (s2 : Shared) : Prop :=
  ∃ (it : Addr) (fp : List Addr) (tn : Nat → Heap → Prop) (J : It) (H' : Hp), itv = .ref it ∧ Inv X pins σ H' s2 ∧ Turn X.prog X.w X.K tg J fp it tn ∧ tn 0 s2.heap ∧ (∀ b ∈ fp, FpOk X pins H' b) ∧ R J H'
def PI (X : Cx) (tg iter : Expr) (wi : TI) : Prop :=
  ∀ (pins : List (Addr × Obj)) (s : Shared) (σ : St) (H : Hp) (R : It → Hp → Prop), Inv X pins σ H s → wi σ H R →
    wpAny (model X.prog X.w) X.A (eval iter X.env) (fun v s1 => wpAny (model X.prog X.w) X.A (pyIter v) (PIE X pins σ tg R) X.xe s1) X.xe s

theorem go_of {M : Model} {A : Around} {E : Value → Shared → Prop} {s : Shared} {tg : Expr} {it : Addr} {u : Value} {o : Obj} {n : String} {vs : Array Value} {Q : Unit → Shared → Prop} (ho : s.heap.get? it = some o) (hc : o.cls = .type n) (hd : o.data = .fields vs)
    (hn : ["enumerate", "zip", "dict_itemiterator", "dict_reverseitemiterator", "odict_iterator", "itertools.zip_longest", "itertools.pairwise"].contains n = false) (hQ : Q () s) : wpAny M A (letOwnedTupleGo tg (.ref it) u) Q E s := by
  unfold letOwnedTupleGo
  cases tg <;> first
    | exact wpAny_pure hQ
    | (cases u <;> first
        | exact wpAny_pure hQ
        | (refine wpAny_bind (wpAny_load ho ?_)
           rw [hc, hd]
           show wpAny M A (if (["enumerate", "zip", "dict_itemiterator", "dict_reverseitemiterator", "odict_iterator", "itertools.zip_longest", "itertools.pairwise"].contains n && vs[0]? == some (rawInt _)) = true then _ else _) Q E s
           rw [if_neg (by intro h; rw [hn, Bool.false_and] at h; cases h)]
           exact wpAny_pure hQ))

def Itl (K : PySem.W.Frag) (a : Addr) : It :=
  ⟨fun i H => ∃ xs x, SqL K H a xs ∧ xs[i]? = some x, fun i H x H' => H' = H ∧ ∀ xs, SqL K H a xs → xs[i]? = some x, fun i H => ∃ xs, SqL K H a xs ∧ xs.length ≤ i⟩
def Itt (K : PySem.W.Frag) (a : Addr) : It :=
  ⟨fun i H => ∃ xs x, SqT K H a xs ∧ xs[i]? = some x, fun i H x H' => H' = H ∧ ∀ xs, SqT K H a xs → xs[i]? = some x, fun i H => ∃ xs, SqT K H a xs ∧ xs.length ≤ i⟩
def Itr (lo : Int) (n : Nat) : It := ⟨fun i _ => i < n, fun i H x H' => H' = H ∧ x = .int (lo + i), fun i _ => n ≤ i⟩
theorem turn_list {P : Program} {w : World} {K : PySem.W.Frag} {tg : Expr} (a it : Addr) : Turn P w K tg (Itl K a) [it] it (fun i h => h.IsListIter it a i) where
  mem := by simp
  obj := fun i h st b hb => by
    have e : b = it := by simpa using hb
    subst e
    obtain ⟨o, e, c, d⟩ := st
    exact ⟨o, e, fun v z => by rw [d] at z; cases z⟩
  keep := fun i h h' st k => st.at fun o e => k it (by simp) o e
  item := by
    intro X hP hw hK hc i pins s σ H E I hf st hg
    subst hP hw hK
    obtain ⟨xs, x, hq, hx⟩ := hg
    obtain ⟨its, rv, p, hz⟩ := I.list hq
    obtain ⟨u, hu, ru⟩ := rv.get hx
    obtain ⟨f0, f1, f2, f3, f4, f5⟩ := hf it (by simp)
    refine wpAny_pyNext_list_item st p.isList (x := u) (by simpa using hu) fun h' st' sb => ?_
    have I1 : Inv X pins σ H { s with heap := h' } := I.turned (t' := s.toks) (fun b o hb e => (sb.2 b hb).trans e) f0 f1 f3 f4 f5
    obtain ⟨o, e, c, d⟩ := id st'
    exact ⟨u, rfl, go_of (s := { s with heap := h' }) e c d (by decide) ⟨x, H, I1, ru, ⟨rfl, fun ys hy => by rw [I.list_inj hy hq]; exact hx⟩, st', fun b hb => (hf b hb).1⟩⟩
  done := by
    intro X hP hw hK hc i pins s σ H E I hf st hg
    subst hP hw hK
    obtain ⟨xs, hq, hx⟩ := hg
    obtain ⟨its, rv, p, hz⟩ := I.list hq
    obtain ⟨f0, f1, f2, f3, f4, f5⟩ := hf it (by simp)
    have hl := rv.length
    exact wpAny_pyNext_list_end (I.ok.hd hc) st p.isList (by simp; omega) fun h' eb => ⟨rfl, I.turned (t' := s.toks) (fun b o hb e => eb b o hb e) f0 f1 f3 f4 f5⟩
  self := fun _ _ _ _ _ st h => wpAny_pyIter_listiter st h
theorem turn_tuple {P : Program} {w : World} {K : PySem.W.Frag} {tg : Expr} (a it : Addr) : Turn P w K tg (Itt K a) [it] it (fun i h => h.IsTupleIter it a i) where
  mem := by simp
  obj := fun i h st b hb => by
    have e : b = it := by simpa using hb
    subst e
    obtain ⟨o, e, c, d⟩ := st
    exact ⟨o, e, fun v z => by rw [d] at z; cases z⟩
  keep := fun i h h' st k => st.at fun o e => k it (by simp) o e
  item := by
    intro X hP hw hK hc i pins s σ H E I hf st hg
    subst hP hw hK
    obtain ⟨xs, x, hq, hx⟩ := hg
    obtain ⟨its, rv, p, hz⟩ := I.tuple hq
    obtain ⟨u, hu, ru⟩ := rv.get hx
    obtain ⟨f0, f1, f2, f3, f4, f5⟩ := hf it (by simp)
    refine wpAny_pyNext_tuple_item st (show s.heap.IsTuple a its.toArray from p) (x := u) (by simpa using hu) fun h' st' sb => ?_
    have I1 : Inv X pins σ H { s with heap := h' } := I.turned (t' := s.toks) (fun b o hb e => (sb.2 b hb).trans e) f0 f1 f3 f4 f5
    obtain ⟨o, e, c, d⟩ := id st'
    exact ⟨u, rfl, go_of (s := { s with heap := h' }) e c d (by decide) ⟨x, H, I1, ru, ⟨rfl, fun ys hy => by rw [I.tuple_inj hy hq]; exact hx⟩, st', fun b hb => (hf b hb).1⟩⟩
  done := by
    intro X hP hw hK hc i pins s σ H E I hf st hg
    subst hP hw hK
    obtain ⟨xs, hq, hx⟩ := hg
    obtain ⟨its, rv, p, hz⟩ := I.tuple hq
    obtain ⟨f0, f1, f2, f3, f4, f5⟩ := hf it (by simp)
    have hl := rv.length
    exact wpAny_pyNext_tuple_end (I.ok.hd hc) st (show s.heap.IsTuple a its.toArray from p) (by simp; omega) fun h' eb => ⟨rfl, I.turned (t' := s.toks) (fun b o hb e => eb b o hb e) f0 f1 f3 f4 f5⟩
  self := fun _ _ _ _ _ st h => wpAny_pyIter_tupleiter st h
theorem turn_range {P : Program} {w : World} {K : PySem.W.Frag} {tg : Expr} (it : Addr) (lo : Int) (n : Nat) : Turn P w K tg (Itr lo n) [it] it (fun i h => IsRangeIter h it (lo + (i : Nat) * 1) ((n : Int) - (i : Nat)) 1) where
  mem := by simp
  obj := fun i h st b hb => by
    have e : b = it := by simpa using hb
    subst e
    exact ⟨_, st, fun v z => by
      have z' : Data.fields _ = Data.cell v := z
      cases z'⟩
  keep := fun i h h' st k => k it (by simp) _ st
  item := by
    intro X hP hw hK hc i pins s σ H E I hf st hg
    subst hP hw hK
    obtain ⟨f0, f1, f2, f3, f4, f5⟩ := hf it (by simp)
    have W := Walks.range (prog := X.prog) (w := X.w) (I.ok.hd hc) it lo 1 n
    refine W.item i s _ _ hg st fun v h' tk hv st' kk => ?_
    obtain ⟨t, rfl⟩ := hv
    have I1 : Inv X pins σ H { s with heap := h', toks := tk } := I.turned (fun b o hb e => kk b o (by simpa using hb) e) f0 f1 f3 f4 f5
    refine ⟨_, rfl, go_of (s := { s with heap := h', toks := tk }) (n := "range_iterator") st' rfl rfl (by decide) ⟨.int (lo + i), H, I1, ⟨t, ?_⟩, ⟨rfl, rfl⟩, st', fun b hb => (hf b hb).1⟩⟩
    rw [Int.mul_one]
  done := by
    intro X hP hw hK hc i pins s σ H E I hf st hg
    subst hP hw hK
    obtain ⟨f0, f1, f2, f3, f4, f5⟩ := hf it (by simp)
    exact wpAny_pyNext_range_end (I.ok.hd hc) st (by have : n ≤ i := hg; omega) fun h' eb => ⟨rfl, I.turned (t' := s.toks) (fun b o hb e => eb b o hb e) f0 f1 f3 f4 f5⟩
  self := fun _ _ _ _ _ st h => wpAny_pyIter_rangeiter st h
end L2

namespace L2
open PySem PySem.Spec PyProof.Rows
section
variable {X : Cx} {tg : Expr}
inductive RdItl (K : PySem.W.Frag) (x : V) (H : Hp) (R : It → Hp → Prop) : Prop
  | mk (a : Addr) (e : x = .ref a) (h : ∃ xs, SqL K H a xs) (q : R (Itl K a) H) : RdItl K x H R
def iList (K : PySem.W.Frag) (tl : TE) : TI := fun σ H R => tl σ H fun x H1 => RdItl K x H1 R
inductive RdItt (K : PySem.W.Frag) (x : V) (H : Hp) (R : It → Hp → Prop) : Prop
  | mk (a : Addr) (e : x = .ref a) (h : ∃ xs, SqT K H a xs) (q : R (Itt K a) H) : RdItt K x H R
def iTup (K : PySem.W.Frag) (tl : TE) : TI := fun σ H R => tl σ H fun x H1 => RdItt K x H1 R
theorem pi_list {l : Expr} {tl : TE} (hl : PE X l tl) : PI X tg l (iList X.K tl) := by
  intro pins s σ H R I h
  refine thn (hl pins s σ H _ I h) fun v s1 ⟨x, H1, I1, r1, q1⟩ => ?_
  obtain ⟨a, e, ⟨xs, hq⟩, q⟩ := q1
  subst e
  cases r1
  obtain ⟨its, rv, p, hz⟩ := I1.list hq
  refine wpAny_pyIter_list p.isList ?_
  refine ⟨s1.heap.objs.size, [s1.heap.objs.size], _, _, H1, rfl, I1.kept (t' := s1.toks) fun b o e => Heap.get?_push_of_some _ e, turn_list a _, ⟨_, Heap.get?_push_size _ rfl, rfl, rfl⟩, fun b hb => ?_, q⟩
  have e : b = s1.heap.objs.size := by simpa using hb
  subst e
  exact I1.fpOk (Nat.le_refl _) (I1.hok.fresh (Nat.le_refl _))
theorem pi_tup {l : Expr} {tl : TE} (hl : PE X l tl) : PI X tg l (iTup X.K tl) := by
  intro pins s σ H R I h
  refine thn (hl pins s σ H _ I h) fun v s1 ⟨x, H1, I1, r1, q1⟩ => ?_
  obtain ⟨a, e, ⟨xs, hq⟩, q⟩ := q1
  subst e
  cases r1
  obtain ⟨its, rv, p, hz⟩ := I1.tuple hq
  refine wpAny_pyIter_tuple (show s1.heap.IsTuple a its.toArray from p) ?_
  refine ⟨s1.heap.objs.size, [s1.heap.objs.size], _, _, H1, rfl, I1.kept (t' := s1.toks) fun b o e => Heap.get?_push_of_some _ e, turn_tuple a _, ⟨_, Heap.get?_push_size _ rfl, rfl, rfl⟩, fun b hb => ?_, q⟩
  have e : b = s1.heap.objs.size := by simpa using hb
  subst e
  exact I1.fpOk (Nat.le_refl _) (I1.hok.fresh (Nat.le_refl _))
theorem range_it {pins : List (Addr × Obj)} {σ : St} {H : Hp} {s : Shared} {R : It → Hp → Prop} {E : Value → Shared → Prop} {lo hi : Int} {t u v : Tok} {tk : Nat} (I : Inv X pins σ H s) (h1 : -(2 ^ 62) ≤ lo) (h2 : lo < 2 ^ 62) (h3 : -(2 ^ 62) ≤ hi) (h4 : hi < 2 ^ 62)
    (q : R (Itr lo (hi - lo).toNat) H) : wpAny (model X.prog X.w) X.A (pyIter (.ref s.heap.objs.size)) (PIE X pins σ tg R) E { s with heap := s.heap.push { cls := .type "range", data := .fields #[.int lo t, .int hi u, .int 1 v] }, toks := tk } := by
  refine wpAny_pyIter_range (IsRange.new ..) (small_one h1 h2 h3 h4) ?_
  have I1 : Inv X pins σ H { s with heap := s.heap.push { cls := .type "range", data := .fields #[.int lo t, .int hi u, .int 1 v] }, toks := tk } := I.kept fun b o e => Heap.get?_push_of_some _ e
  refine ⟨(s.heap.push { cls := .type "range", data := .fields #[.int lo t, .int hi u, .int 1 v] }).objs.size, [(s.heap.push { cls := .type "range", data := .fields #[.int lo t, .int hi u, .int 1 v] }).objs.size], _, _, H, rfl,
    I1.kept (t' := tk) fun b o e => Heap.get?_push_of_some _ e, turn_range _ lo (hi - lo).toNat, ?_, fun b hb => ?_, q⟩
  · have e1 : lo + ((0 : Nat) : Int) * 1 = lo := by simp
    have e2 : (((hi - lo).toNat : Nat) : Int) - ((0 : Nat) : Int) = Builtin.Range.rangeSize lo hi 1 := by rw [rangeSize_one]; split <;> omega
    show IsRangeIter _ _ (lo + ((0 : Nat) : Int) * 1) ((((hi - lo).toNat : Nat) : Int) - ((0 : Nat) : Int)) 1
    rw [e1, e2]
    exact Heap.get?_push_size _ rfl
  · have e : b = (s.heap.push { cls := .type "range", data := .fields #[.int lo t, .int hi u, .int 1 v] }).objs.size := by simpa using hb
    subst e
    exact I1.fpOk (Nat.le_refl _) (I1.hok.fresh (Nat.le_refl _))
inductive RdRng (vs : List V) (H : Hp) (R : It → Hp → Prop) : Prop
  | mk (j : Int) (e : vs = [.int j]) (l : -(2 ^ 62) ≤ j) (h : j < 2 ^ 62) (q : R (Itr 0 j.toNat) H) : RdRng vs H R
def iRng1 (ta : TA) : TI := fun σ H R => ta σ H fun vs H1 => RdRng vs H1 R
theorem pi_range1 {a : Expr} {ta : TA} {p pos : Pos} (hg : Gl X "range") (hm : X.mg "range" = none) (ha : PA X [a] ta) (hs : starEach [a] X.env = [(false, eval a X.env)] := by rfl) : PI X tg (.Call (.Name "range" p) [a] [] pos) (iRng1 ta) := by
  intro pins s σ H R I h
  refine Call_ (ld_blt I hg hm boot_range (PyProof.Rows.callWith_type1 (thn (ha pos pins s σ H _ I h) fun us s1 ⟨vs, H1, I1, r1, q1⟩ => ?_) hs rfl))
  obtain ⟨j, e, q1, q2, q⟩ := q1
  subst e
  cases r1 with
  | cons r rr =>
    cases rr
    obtain ⟨t, rfl⟩ := r
    exact call_range_1 (range_it I1 (by omega) (by omega) q1 q2 (by simpa using q))
def tFor (wi : TI) (g : TG) (tb : TS) : TS := fun D σ H => wi σ H fun J H1 => ∃ W : Nat → Nat → St → Hp → Prop, (∃ m, W 0 m σ H1) ∧ ∀ i m σ H, W i m σ H →
  (J.stop i H ∧ D.nx σ H) ∨ (J.go i H ∧ ∃ N : St → Hp → Prop, (∀ σ' H', N σ' H' → ∃ m', m' < m ∧ W (i + 1) m' σ' H') ∧ ∀ x H', J.yld i H x H' → g x σ H' fun σ2 H2 => tb { D with nx := N, ct := N, bk := D.nx } σ2 H2)
def pinsAt (fp : List Addr) (h : Heap) : List (Addr × Obj) := fp.filterMap fun b => (h.get? b).map fun o => (b, o)
theorem mem_pinsAt {fp : List Addr} {h : Heap} {b : Addr} {o : Obj} (hb : b ∈ fp) (e : h.get? b = some o) : (b, o) ∈ pinsAt fp h := List.mem_filterMap.mpr ⟨b, hb, by rw [e]; rfl⟩
theorem of_pinsAt {fp : List Addr} {h : Heap} {p : Addr × Obj} (hp : p ∈ pinsAt fp h) : p.1 ∈ fp ∧ h.get? p.1 = some p.2 := by
  obtain ⟨b, hb, e⟩ := List.mem_filterMap.mp hp
  cases q : h.get? b with
  | none => rw [q] at e; cases e
  | some o =>
    rw [q] at e
    have e' : (b, o) = p := Option.some.inj e
    subst e'
    exact ⟨hb, q⟩
theorem Inv.pinned {pins : List (Addr × Obj)} {σ : St} {H : Hp} {s : Shared} {fp : List Addr} (I : Inv X pins σ H s) (hf : ∀ b ∈ fp, FpOk X pins H b) (ho : ∀ b ∈ fp, ∃ o, s.heap.get? b = some o ∧ ∀ v, o.data ≠ .cell v) : Inv X (pins ++ pinsAt fp s.heap) σ H s :=
  I.pins_of fun p hp => (List.mem_append.mp hp).elim (fun z => I.pin p (List.mem_append_right _ z)) fun z => by
    obtain ⟨hb, e⟩ := of_pinsAt z
    obtain ⟨f0, f1, f2, _⟩ := hf p.1 hb
    obtain ⟨o, e', d⟩ := ho p.1 hb
    rw [e] at e'; cases e'
    exact ⟨e, f0, f1, f2, d⟩
theorem Inv.unpinned {pins pl : List (Addr × Obj)} {σ : St} {H : Hp} {s : Shared} (I : Inv X (pins ++ pl) σ H s) : Inv X pins σ H s := I.pins_of fun p hp => I.pin p (List.mem_append_right _ (List.mem_append_left _ hp))
theorem ps_for {iter : Expr} {body : List Stmt} {wi : TI} {g : TG} {tb : TS} {pos : Pos} (hp : PassesOwn (model X.prog X.w) X.A X.env X.xe) (hc : X.calm = true) (hi : PI X tg iter wi) (hg : PG X tg g) (hb : PSs X body tb)
    (hs : ∀ x, foldedSetIterable iter X.env x = pure x := by intro _; rfl) : PS X (.For tg iter body [] pos) (tFor wi g tb) := by
  intro pins s σ H D I h
  refine wpAny_For (thn (hi pins s σ H _ I h) fun v s1 h1 => thn h1 fun itv s2 h2 => ?_) hs
  obtain ⟨it, fp, tn, J, H2, e, I2, T, st2, f2, W, ⟨m0, w0⟩, turn⟩ := h2
  subst e
  -- what stays true of the iterator's objects through the loop
  have stat : ∀ {H' : Hp}, (∀ b ∈ fp, H' b = none) → ∀ b ∈ fp, FpOk X pins H' b := fun hn b hb => ⟨hn b hb, (f2 b hb).2⟩
  refine codeAny_forLoop_any (fun n s' => ∃ i σ' H', Inv X pins σ' H' s' ∧ tn i s'.heap ∧ (∀ b ∈ fp, H' b = none) ∧ W i n σ' H') ?_ m0 ⟨0, σ, H2, I2, st2, fun b hb => (f2 b hb).1, w0⟩
  rintro n s3 ⟨i, σ3, H3, I3, st3, fr3, w3⟩
  rcases turn i n σ3 H3 w3 with ⟨stop, qn⟩ | ⟨go, N, hN, step⟩
  · refine wpAny_passesOwn hp (thn (T.done X rfl rfl rfl hc i pins s3 σ3 H3 X.xe I3 (stat fr3) st3 stop) fun r s4 ⟨hr, I4⟩ => ?_)
    subst hr
    exact wpAny_execs_nil ⟨σ3, H3, I4, qn⟩
  · refine wpAny_passesOwn hp (thn (T.item X rfl rfl rfl hc i pins s3 σ3 H3 X.xe I3 (stat fr3) st3 go) fun r s4 ⟨u, hr, h4⟩ => ?_)
    subst hr
    refine wpAny_passesOwn hp (thn h4 fun _ s5 ⟨x, H5, I5, r5, y5, st5, fr5⟩ => ?_)
    have I5' := I5.pinned (stat fr5) (T.obj _ _ st5)
    refine wpAny_passesOwn hp (thn (hg _ s5 σ3 H5 x u _ I5' r5 (step x H5 y5)) fun _ s6 ⟨σ6, H6, I6, q6⟩ => ?_)
    refine wpAny_passesOwn hp (thn (hb _ s6 σ6 H6 _ I6 q6) fun f s7 q7 => ?_)
    have again : ∀ {σ7 : St} {H7 : Hp}, Inv X (pins ++ pinsAt fp s5.heap) σ7 H7 s7 → N σ7 H7 → ∃ m, m < n ∧ ∃ i σ' H', Inv X pins σ' H' s7 ∧ tn i s7.heap ∧ (∀ b ∈ fp, H' b = none) ∧ W i m σ' H' := fun {σ7 H7} I7 n7 => by
      obtain ⟨m', hm, w7⟩ := hN σ7 H7 n7
      refine ⟨m', hm, i + 1, σ7, H7, I7.unpinned, T.keep _ _ _ st5 fun b hb o e => (I7.pin (b, o) (List.mem_append_right _ (List.mem_append_right _ (mem_pinsAt hb e)))).1, fun b hb => ?_, w7⟩
      obtain ⟨o, e, d⟩ := T.obj _ _ st5 b hb
      exact (I7.pin (b, o) (List.mem_append_right _ (List.mem_append_right _ (mem_pinsAt hb e)))).2.1
    cases f with
    | next => obtain ⟨σ7, H7, I7, n7⟩ := q7; exact again I7 n7
    | cont => obtain ⟨σ7, H7, I7, n7⟩ := q7; exact again I7 n7
    | brk => obtain ⟨σ7, H7, I7, q7⟩ := q7; exact ⟨σ7, H7, I7.unpinned, q7⟩
    | ret v => obtain ⟨x7, σ7, H7, I7, r7, q7⟩ := q7; exact ⟨x7, σ7, H7, I7.unpinned, r7, q7⟩
end

theorem for_list {K : PySem.W.Frag} {a : Addr} {xs : List V} {g : TG} {tb : TS} {D : Ends} {σ : St} {H : Hp} (Pv : Nat → St → Hp → Prop) (h0 : Pv 0 σ H) (hl : ∀ i σ H, i ≤ xs.length → Pv i σ H → SqL K H a xs)
    (hs : ∀ i x σ H, xs[i]? = some x → Pv i σ H → g x σ H fun σ2 H2 => tb { D with nx := Pv (i + 1), ct := Pv (i + 1), bk := D.nx } σ2 H2) (hd : ∀ σ H, Pv xs.length σ H → D.nx σ H) :
    ∃ W : Nat → Nat → St → Hp → Prop, (∃ m, W 0 m σ H) ∧ ∀ i m σ H, W i m σ H →
      ((Itl K a).stop i H ∧ D.nx σ H) ∨ ((Itl K a).go i H ∧ ∃ N : St → Hp → Prop, (∀ σ' H', N σ' H' → ∃ m', m' < m ∧ W (i + 1) m' σ' H') ∧ ∀ x H', (Itl K a).yld i H x H' → g x σ H' fun σ2 H2 => tb { D with nx := N, ct := N, bk := D.nx } σ2 H2) := by
  refine ⟨fun i m σ H => m = xs.length - i ∧ i ≤ xs.length ∧ Pv i σ H, ⟨xs.length, by simp, Nat.zero_le _, h0⟩, ?_⟩
  rintro i m σ H ⟨rfl, hi, p⟩
  have q := hl i σ H hi p
  by_cases hlt : i < xs.length
  · refine .inr ⟨⟨xs, xs[i], q, by simp [hlt]⟩, Pv (i + 1), fun σ' H' p' => ⟨xs.length - (i + 1), by omega, rfl, hlt, p'⟩, fun x H' y => ?_⟩
    obtain ⟨e, y⟩ := y
    subst e
    exact hs i x σ _ (y xs q) p
  · have e : i = xs.length := by omega
    subst e
    exact .inl ⟨⟨xs, q, Nat.le_refl _⟩, hd σ H p⟩
theorem for_tup {K : PySem.W.Frag} {a : Addr} {xs : List V} {g : TG} {tb : TS} {D : Ends} {σ : St} {H : Hp} (Pv : Nat → St → Hp → Prop) (h0 : Pv 0 σ H) (hl : ∀ i σ H, i ≤ xs.length → Pv i σ H → SqT K H a xs)
    (hs : ∀ i x σ H, xs[i]? = some x → Pv i σ H → g x σ H fun σ2 H2 => tb { D with nx := Pv (i + 1), ct := Pv (i + 1), bk := D.nx } σ2 H2) (hd : ∀ σ H, Pv xs.length σ H → D.nx σ H) :
    ∃ W : Nat → Nat → St → Hp → Prop, (∃ m, W 0 m σ H) ∧ ∀ i m σ H, W i m σ H →
      ((Itt K a).stop i H ∧ D.nx σ H) ∨ ((Itt K a).go i H ∧ ∃ N : St → Hp → Prop, (∀ σ' H', N σ' H' → ∃ m', m' < m ∧ W (i + 1) m' σ' H') ∧ ∀ x H', (Itt K a).yld i H x H' → g x σ H' fun σ2 H2 => tb { D with nx := N, ct := N, bk := D.nx } σ2 H2) := by
  refine ⟨fun i m σ H => m = xs.length - i ∧ i ≤ xs.length ∧ Pv i σ H, ⟨xs.length, by simp, Nat.zero_le _, h0⟩, ?_⟩
  rintro i m σ H ⟨rfl, hi, p⟩
  have q := hl i σ H hi p
  by_cases hlt : i < xs.length
  · refine .inr ⟨⟨xs, xs[i], q, by simp [hlt]⟩, Pv (i + 1), fun σ' H' p' => ⟨xs.length - (i + 1), by omega, rfl, hlt, p'⟩, fun x H' y => ?_⟩
    obtain ⟨e, y⟩ := y
    subst e
    exact hs i x σ _ (y xs q) p
  · have e : i = xs.length := by omega
    subst e
    exact .inl ⟨⟨xs, q, Nat.le_refl _⟩, hd σ H p⟩
theorem for_range {lo : Int} {n : Nat} {g : TG} {tb : TS} {D : Ends} {σ : St} {H : Hp} (Pv : Nat → St → Hp → Prop) (h0 : Pv 0 σ H)
    (hs : ∀ i σ H, i < n → Pv i σ H → g (.int (lo + i)) σ H fun σ2 H2 => tb { D with nx := Pv (i + 1), ct := Pv (i + 1), bk := D.nx } σ2 H2) (hd : ∀ σ H, Pv n σ H → D.nx σ H) :
    ∃ W : Nat → Nat → St → Hp → Prop, (∃ m, W 0 m σ H) ∧ ∀ i m σ H, W i m σ H →
      ((Itr lo n).stop i H ∧ D.nx σ H) ∨ ((Itr lo n).go i H ∧ ∃ N : St → Hp → Prop, (∀ σ' H', N σ' H' → ∃ m', m' < m ∧ W (i + 1) m' σ' H') ∧ ∀ x H', (Itr lo n).yld i H x H' → g x σ H' fun σ2 H2 => tb { D with nx := N, ct := N, bk := D.nx } σ2 H2) := by
  refine ⟨fun i m σ H => m = n - i ∧ i ≤ n ∧ Pv i σ H, ⟨n, by simp, Nat.zero_le _, h0⟩, ?_⟩
  rintro i m σ H ⟨rfl, hi, p⟩
  by_cases hlt : i < n
  · refine .inr ⟨hlt, Pv (i + 1), fun σ' H' p' => ⟨n - (i + 1), by omega, rfl, hlt, p'⟩, fun x H' y => ?_⟩
    obtain ⟨e, y⟩ := y
    subst e y
    exact hs i σ _ hlt p
  · have e : i = n := by omega
    subst e
    exact .inl ⟨Nat.le_refl _, hd σ H p⟩
theorem while_by {c : TT} {tb : TS} {D : Ends} {σ : St} {H : Hp} (Pv : St → Hp → Prop) (μ : St → Hp → Nat) (h0 : Pv σ H)
    (hs : ∀ σ H, Pv σ H → c σ H fun b H1 => if b = true then tb { D with nx := fun σ' H' => Pv σ' H' ∧ μ σ' H' < μ σ H, ct := fun σ' H' => Pv σ' H' ∧ μ σ' H' < μ σ H, bk := D.nx } σ H1 else D.nx σ H1)
    (mono : ∀ σ H Q Q', (∀ b H1, Q b H1 → Q' b H1) → c σ H Q → c σ H Q') : tWhile c tb D σ H := by
  refine ⟨fun m σ H => m = μ σ H ∧ Pv σ H, ⟨_, rfl, h0⟩, ?_⟩
  rintro m σ H ⟨rfl, p⟩
  refine mono σ H _ _ (fun b H1 q => ?_) (hs σ H p)
  cases b with
  | true => exact ⟨_, fun σ' H' ⟨p', l⟩ => ⟨_, l, rfl, p'⟩, q⟩
  | false => exact q
end L2

namespace L2
open PySem PySem.Spec PyProof.Rows

abbrev R2 := V → V → Hp → VK → Prop
def OpR (X : Cx) (f : Value → Value → Sem Value) (r : R2) : Prop :=
  ∀ (pins : List (Addr × Obj)) (s : Shared) (σ : St) (H : Hp) (x y : V) (v u : Value) (Q : VK), Inv X pins σ H s → RelV x v → RelV y u → r x y H Q →
    wpAny (model X.prog X.w) X.A (f v u) (EP X pins σ Q) X.xe s
def UnR (X : Cx) (f : Value → Sem Value) (r : V → Hp → VK → Prop) : Prop :=
  ∀ (pins : List (Addr × Obj)) (s : Shared) (σ : St) (H : Hp) (x : V) (v : Value) (Q : VK), Inv X pins σ H s → RelV x v → r x H Q →
    wpAny (model X.prog X.w) X.A (f v) (EP X pins σ Q) X.xe s
def CallR (X : Cx) (f : Value) (r : List V → Hp → VK → Prop) : Prop :=
  ∀ (pins : List (Addr × Obj)) (s : Shared) (σ : St) (H : Hp) (xs : List V) (us : List Value) (Q : VK), Inv X pins σ H s → Vals xs us → r xs H Q →
    wpAny (model X.prog X.w) X.A (call f us) (EP X pins σ Q) X.xe s
def tOp (r : R2) (ta tb : TE) : TE := fun σ H Q => ta σ H fun x H1 => tb σ H1 fun y H2 => r x y H2 Q
def tUn (r : V → Hp → VK → Prop) (ta : TE) : TE := fun σ H Q => ta σ H fun x H1 => r x H1 Q
inductive RdI (C : Int → Int → Prop) (g : Int → Int → V) (x y : V) (H : Hp) (Q : VK) : Prop
  | mk (i j : Int) (e : x = .int i) (f : y = .int j) (c : C i j) (q : Q (g i j) H) : RdI C g x y H Q
def rI (C : Int → Int → Prop) (g : Int → Int → V) : R2 := fun x y H Q => RdI C g x y H Q
inductive RdI0 (g : Int → Int → V) (x y : V) (H : Hp) (Q : VK) : Prop
  | mk (i j : Int) (e : x = .int i) (f : y = .int j) (q : Q (g i j) H) : RdI0 g x y H Q
def rI0 (g : Int → Int → V) : R2 := fun x y H Q => RdI0 g x y H Q
def rU (g : Int → V) : V → Hp → VK → Prop := fun x H Q => ∃ i, x = .int i ∧ Q (g i) H

section
variable {X : Cx} {a b c : Expr} {ta tb tc : TE} {pos : Pos}

theorem binT (ha : PE X a ta) (hb : PE X b tb) {pins : List (Addr × Obj)} {s : Shared} {σ : St} {H : Hp} {R : V → V → Hp → Prop} (I : Inv X pins σ H s)
    (h : ta σ H fun x H1 => tb σ H1 fun y H2 => R x y H2) {Q : Value → Shared → Prop} {f : Value → Value → Sem Value}
    (hf : ∀ v u s2 x y H2, Inv X pins σ H2 s2 → RelV x v → RelV y u → R x y H2 → wpAny (model X.prog X.w) X.A (f v u) Q X.xe s2) :
    wpAny (model X.prog X.w) X.A (eval a X.env) (fun v s₁ => wpAny (model X.prog X.w) X.A (eval b X.env) (fun u s₂ => wpAny (model X.prog X.w) X.A (f v u) Q X.xe s₂) X.xe s₁) X.xe s := by
  refine thn (ha pins s σ H _ I h) fun v s1 ⟨x, H1, I1, r1, q1⟩ => ?_
  refine thn (hb pins s1 σ H1 _ I1 q1) fun u s2 ⟨y, H2, I2, r2, q2⟩ => ?_
  exact hf v u s2 x y H2 I2 r1 r2 q2

theorem pe_op {op : Operator} {r : R2} (ho : OpR X (binaryOp op) r) (ha : PE X a ta) (hb : PE X b tb) : PE X (.BinOp a op b pos) (tOp r ta tb) := by
  intro pins s σ H Q I h
  exact wpAny_BinOp (binT ha hb I h fun v u s2 x y H2 I2 rx ry q => ho pins s2 σ H2 x y v u Q I2 rx ry q)
theorem pe_un {op : UnaryOp} {r : V → Hp → VK → Prop} (ho : UnR X (unaryOp op) r) (ha : PE X a ta) : PE X (.UnaryOp op a pos) (tUn r ta) := by
  intro pins s σ H Q I h
  exact UnaryOp_ (thn (ha pins s σ H _ I h) fun v s1 ⟨x, H1, I1, r1, q1⟩ => ho pins s1 σ H1 x v Q I1 r1 q1)
theorem opI {f : Value → Value → Sem Value} {C : Int → Int → Prop} {g : Int → Int → Int}
    (rule : ∀ (i j : Int) (t u : Tok) (s : Shared) (Q : Value → Shared → Prop) (E : Value → Shared → Prop), C i j → Q (.int (g i j) s.toks) { s with toks := s.toks + 1 } → wpAny (model X.prog X.w) X.A (f (.int i t) (.int j u)) Q E s) :
    OpR X f (rI C fun i j => .int (g i j)) := by
  intro pins s σ H x y v u Q I rx ry h
  obtain ⟨i, j, rfl, rfl, hc, q⟩ := h
  obtain ⟨t, rfl⟩ := rx
  obtain ⟨t', rfl⟩ := ry
  exact rule i j t t' s _ _ hc ⟨.int (g i j), H, I.tok _, ⟨_, rfl⟩, q⟩
theorem opI0 {f : Value → Value → Sem Value} {g : Int → Int → Int}
    (rule : ∀ (i j : Int) (t u : Tok) (s : Shared) (Q : Value → Shared → Prop) (E : Value → Shared → Prop), Q (.int (g i j) s.toks) { s with toks := s.toks + 1 } → wpAny (model X.prog X.w) X.A (f (.int i t) (.int j u)) Q E s) :
    OpR X f (rI0 fun i j => .int (g i j)) := by
  intro pins s σ H x y v u Q I rx ry h
  obtain ⟨i, j, rfl, rfl, q⟩ := h
  obtain ⟨t, rfl⟩ := rx
  obtain ⟨t', rfl⟩ := ry
  exact rule i j t t' s _ _ ⟨.int (g i j), H, I.tok _, ⟨_, rfl⟩, q⟩
theorem opB0 {f : Value → Value → Sem Value} {g : Int → Int → Bool}
    (rule : ∀ (i j : Int) (t u : Tok) (s : Shared) (Q : Value → Shared → Prop) (E : Value → Shared → Prop), Q (.bool (g i j)) s → wpAny (model X.prog X.w) X.A (f (.int i t) (.int j u)) Q E s) :
    OpR X f (rI0 fun i j => .bl (g i j)) := by
  intro pins s σ H x y v u Q I rx ry h
  obtain ⟨i, j, rfl, rfl, q⟩ := h
  obtain ⟨t, rfl⟩ := rx
  obtain ⟨t', rfl⟩ := ry
  exact rule i j t t' s _ _ ⟨.bl (g i j), H, I, rfl, q⟩

def CPow (i j : Int) : Prop := 0 ≤ j ∧ j ≤ 1000000 ∧ i.natAbs < 2 ^ 64
theorem two_pow_nn (k : Nat) : (0 : Int) ≤ 2 ^ k := by
  rw [two_pow_cast]
  exact Int.natCast_nonneg _

theorem op_add : OpR X (binaryOp .Add) (rI0 fun i j => .int (i + j)) := opI0 fun _ _ _ _ _ _ _ q => add_int q
theorem op_shl : OpR X (binaryOp .LShift) (rI CPow fun i j => .int (i * 2 ^ j.toNat)) := opI fun _ _ _ _ _ _ _ hc q => lshift_int_small hc.1 hc.2.1 hc.2.2 q
theorem op_shr : OpR X (binaryOp .RShift) (rI (fun _ j => 0 ≤ j) fun i j => .int (i / 2 ^ j.toNat)) := opI fun i j _ _ _ _ _ hc q =>
  rshift_int hc (by rw [Int.fdiv_eq_ediv_of_nonneg i (two_pow_nn _)]; exact q)
theorem op_and : OpR X (binaryOp .BitAnd) (rI0 fun i j => .int (Builtin.bitAnd i j)) := opI0 fun _ _ _ _ _ _ _ q => and_int q
theorem op_xor : OpR X (binaryOp .BitXor) (rI0 fun i j => .int (Builtin.bitXor i j)) := opI0 fun _ _ _ _ _ _ _ q => xor_int q

theorem unI {f : Value → Sem Value} {g : Int → Int}
    (rule : ∀ (i : Int) (t : Tok) (s : Shared) (Q : Value → Shared → Prop) (E : Value → Shared → Prop), Q (.int (g i) s.toks) { s with toks := s.toks + 1 } → wpAny (model X.prog X.w) X.A (f (.int i t)) Q E s) :
    UnR X f (rU fun i => .int (g i)) := by
  intro pins s σ H x v Q I rx h
  obtain ⟨i, rfl, q⟩ := h
  obtain ⟨t, rfl⟩ := rx
  exact rule i t s _ _ ⟨.int (g i), H, I.tok _, ⟨_, rfl⟩, q⟩
theorem un_neg : UnR X (unaryOp .USub) (rU fun i => .int (-i)) := unI fun _ _ _ _ _ q => neg_int q
end

def scal : V → V → Bool
  | .non, .non => true | .non, .int _ => true | .int _, .non => true | .non, .bl _ => true | .bl _, .non => true | .non, .str _ => true | .str _, .non => true
  | .int _, .int _ => true | .bl _, .bl _ => true | .str _, .str _ => true | .byt _, .byt _ => true
  | .int _, .str _ => true | .str _, .int _ => true | .bl _, .str _ => true | .str _, .bl _ => true
  | _, _ => false
inductive RdEq (x y : V) (H : Hp) (Q : VK) : Prop
  | mk (h : scal x y = true) (q : Q (.bl (decide (x = y))) H) : RdEq x y H Q
def rEq : R2 := fun x y H Q => RdEq x y H Q
inductive RdNe (x y : V) (H : Hp) (Q : VK) : Prop
  | mk (h : scal x y = true) (q : Q (.bl (!decide (x = y))) H) : RdNe x y H Q
def rNe : R2 := fun x y H Q => RdNe x y H Q

theorem dec_int {i j : Int} : decide (V.int i = V.int j) = (i == j) := by
  rw [Bool.eq_iff_iff]
  simp
theorem dec_bl {i j : Bool} : decide (V.bl i = V.bl j) = (i == j) := by
  rw [Bool.eq_iff_iff]
  simp
theorem dec_str {i j : Str} : decide (V.str i = V.str j) = (i == j) := by
  rw [Bool.eq_iff_iff]
  simp
theorem dec_byt {i j : Array UInt8} : decide (V.byt i = V.byt j) = (i.toList == j.toList) := by
  rw [Bool.eq_iff_iff]
  cases i
  cases j
  simp

section
variable {X : Cx} {a b c : Expr} {ta tb tc : TE} {pos : Pos}
theorem fin_bl {pins : List (Addr × Obj)} {σ : St} {H : Hp} {s : Shared} {Q : VK} {k k' : Bool} (I : Inv X pins σ H s) (q : Q (.bl k) H) (e : k = k') : EP X pins σ Q (.bool k') s := by
  subst e
  exact ⟨.bl k, H, I, rfl, q⟩
theorem op_eq : OpR X (compareOp .Eq) rEq := by
  intro pins s σ H x y v u Q I rx ry h
  obtain ⟨hs, q⟩ := h
  cases x with
  | non =>
    cases rx
    cases y with
    | non => cases ry; exact PySem.EqNone.eq_none_none (fin_bl I q (by simp))
    | bl j => cases ry; exact PySem.EqNone.eq_none_bool (fin_bl I q (by simp))
    | int j => obtain ⟨t', rfl⟩ := ry; exact PySem.EqNone.eq_none_int (fin_bl I q (by simp))
    | str j => obtain ⟨t', rfl⟩ := ry; exact PySem.EqNone.eq_none_str (fin_bl I q (by simp))
    | _ => exact absurd (show false = true from hs) Bool.false_ne_true
  | bl i =>
    cases rx
    cases y with
    | non => cases ry; exact PySem.EqNone.eq_bool_none (fin_bl I q (by simp))
    | bl j => cases ry; exact eq_bool (fin_bl I q dec_bl)
    | str j => obtain ⟨t', rfl⟩ := ry; exact PySem.EqMixed.eq_bool_str (fin_bl I q (by simp))
    | _ => exact absurd (show false = true from hs) Bool.false_ne_true
  | int i =>
    obtain ⟨t, rfl⟩ := rx
    cases y with
    | non => cases ry; exact PySem.EqNone.eq_int_none (fin_bl I q (by simp))
    | int j => obtain ⟨t', rfl⟩ := ry; exact eq_int (fin_bl I q dec_int)
    | str j => obtain ⟨t', rfl⟩ := ry; exact PySem.EqMixed.eq_int_str (fin_bl I q (by simp))
    | _ => exact absurd (show false = true from hs) Bool.false_ne_true
  | str i =>
    obtain ⟨t, rfl⟩ := rx
    cases y with
    | non => cases ry; exact PySem.EqNone.eq_str_none (fin_bl I q (by simp))
    | bl j => cases ry; exact PySem.EqMixed.eq_str_bool (fin_bl I q (by simp))
    | int j => obtain ⟨t', rfl⟩ := ry; exact PySem.EqMixed.eq_str_int (fin_bl I q (by simp))
    | str j => obtain ⟨t', rfl⟩ := ry; exact eq_str (fin_bl I q dec_str)
    | _ => exact absurd (show false = true from hs) Bool.false_ne_true
  | byt i =>
    obtain ⟨t, rfl⟩ := rx
    cases y with
    | byt j => obtain ⟨t', rfl⟩ := ry; exact PySem.W.eq_bytes (fin_bl I q dec_byt)
    | _ => exact absurd (show false = true from hs) Bool.false_ne_true
  | _ => cases y <;> exact absurd (show false = true from hs) Bool.false_ne_true
theorem op_ne : OpR X (compareOp .NotEq) rNe := by
  intro pins s σ H x y v u Q I rx ry h
  obtain ⟨hs, q⟩ := h
  cases x with
  | non =>
    cases rx
    cases y with
    | non => cases ry; exact PySem.EqNone.ne_none_none (fin_bl I q (by simp))
    | bl j => cases ry; exact PySem.EqNone.ne_none_bool (fin_bl I q (by simp))
    | int j => obtain ⟨t', rfl⟩ := ry; exact PySem.EqNone.ne_none_int (fin_bl I q (by simp))
    | str j => obtain ⟨t', rfl⟩ := ry; exact PySem.EqNone.ne_none_str (fin_bl I q (by simp))
    | _ => exact absurd (show false = true from hs) Bool.false_ne_true
  | bl i =>
    cases rx
    cases y with
    | non => cases ry; exact PySem.EqNone.ne_bool_none (fin_bl I q (by simp))
    | bl j => cases ry; exact ne_bool (fin_bl I q (congrArg not dec_bl))
    | str j => obtain ⟨t', rfl⟩ := ry; exact PySem.EqMixed.ne_bool_str (fin_bl I q (by simp))
    | _ => exact absurd (show false = true from hs) Bool.false_ne_true
  | int i =>
    obtain ⟨t, rfl⟩ := rx
    cases y with
    | non => cases ry; exact PySem.EqNone.ne_int_none (fin_bl I q (by simp))
    | int j => obtain ⟨t', rfl⟩ := ry; exact ne_int (fin_bl I q (congrArg not dec_int))
    | str j => obtain ⟨t', rfl⟩ := ry; exact PySem.EqMixed.ne_int_str (fin_bl I q (by simp))
    | _ => exact absurd (show false = true from hs) Bool.false_ne_true
  | str i =>
    obtain ⟨t, rfl⟩ := rx
    cases y with
    | non => cases ry; exact PySem.EqNone.ne_str_none (fin_bl I q (by simp))
    | bl j => cases ry; exact PySem.EqMixed.ne_str_bool (fin_bl I q (by simp))
    | int j => obtain ⟨t', rfl⟩ := ry; exact PySem.EqMixed.ne_str_int (fin_bl I q (by simp))
    | str j => obtain ⟨t', rfl⟩ := ry; exact ne_str (fin_bl I q (congrArg not dec_str))
    | _ => exact absurd (show false = true from hs) Bool.false_ne_true
  | byt i =>
    obtain ⟨t, rfl⟩ := rx
    cases y with
    | byt j => obtain ⟨t', rfl⟩ := ry; exact PySem.W.ne_bytes (fin_bl I q (congrArg not dec_byt))
    | _ => exact absurd (show false = true from hs) Bool.false_ne_true
  | _ => cases y <;> exact absurd (show false = true from hs) Bool.false_ne_true

theorem op_lt : OpR X (compareOp .Lt) (rI0 fun i j => .bl (decide (i < j))) := opB0 fun _ _ _ _ _ _ _ q => lt_int q
theorem op_gt : OpR X (compareOp .Gt) (rI0 fun i j => .bl (decide (j < i))) := opB0 fun _ _ _ _ _ _ _ q => gt_int q
theorem op_ge : OpR X (compareOp .GtE) (rI0 fun i j => .bl (decide (j ≤ i))) := opB0 fun _ _ _ _ _ _ _ q => ge_int q
theorem nomark (b : Expr) {op : CmpOp} (h : op ≠ .In := by decide) (h2 : op ≠ .NotIn := by decide) : behindInMarks op b = false := by
  have e1 : (op == CmpOp.In) = false := by cases op <;> first | rfl | exact absurd rfl h
  have e2 : (op == CmpOp.NotIn) = false := by cases op <;> first | rfl | exact absurd rfl h2
  cases b <;> simp [behindInMarks, e1, e2]
theorem pe_cmpR {op : CmpOp} {r : R2} (ho : OpR X (compareOp op) r) (ha : PE X a ta) (hb : PE X b tb) (hm : behindInMarks op b = false) : PE X (.Compare a [op] [b] pos) (tOp r ta tb) := by
  intro pins s σ H Q I h
  exact wpAny_Compare1 (binT ha hb I h fun v u s2 x y H2 I2 rx ry q => ho pins s2 σ H2 x y v u Q I2 rx ry q) hm
def tTest (t : TE) : TT := fun σ H Q => t σ H fun x H' => RdBl x H' Q
theorem pt_cmpR {op : CmpOp} {r : R2} (ho : OpR X (compareOp op) r) (ha : PE X a ta) (hb : PE X b tb) (hm : behindInMarks op b = false) : PT X (.Compare a [op] [b] pos) (tTest (tOp r ta tb)) := by
  intro pins s σ H Q I h
  refine wpAny_isTrue_Compare1 (thn (ha pins s σ H _ I h) fun v s1 ⟨x, H1, I1, r1, q1⟩ => thn (hb pins s1 σ H1 _ I1 q1) fun u s2 ⟨y, H2, I2, r2, q2⟩ =>
    thn (ho pins s2 σ H2 x y v u _ I2 r1 r2 q2) fun c s3 ⟨z, H3, I3, r3, k, e, q3⟩ => ?_) hm
  subst e
  cases r3
  exact wpAny_truthy_bool ⟨H3, I3, q3⟩
theorem line63 : (sizeLine : Nat) < 2 ^ 63 := by rw [sizeLine_eq]; decide
theorem vals1 {x : V} {us : List Value} (r : Vals [x] us) : ∃ u, us = [u] ∧ RelV x u := by
  cases r with
  | cons r1 r2 => cases r2; exact ⟨_, rfl, r1⟩
end
end L2

namespace L2
open PySem PySem.Spec PyProof.Rows

structure ObjM (h : Heap) (x dx C : Addr) (mA : Str → Option Value) : Prop where
  obj : h.get? x = some (PySem.W.instObj C dx)
  ns : h.Ns1 dx mA
  ne : dx ≠ x

theorem lookIn_ns {h : Heap} {dx : Addr} {mA : Str → Option Value} (n : h.Ns1 dx mA) : ∃ od, h.get? dx = some od ∧ ∀ name, PySem.W.lookIn name od = some (mA name) := by
  obtain ⟨o, es, ep, ho, hd, hk, _, hm⟩ := n
  refine ⟨o, ho, fun name => ?_⟩
  have e := hm name
  unfold nsFind findBy at e
  rw [← Array.find?_toList] at e
  unfold PySem.W.lookIn
  rw [hd]
  dsimp only
  split
  · rename_i y q
    rw [q] at e
    exact congrArg some e
  · rename_i q
    rw [q] at e
    have a : es.toList.any (·.refKey) = false := by
      rw [List.any_eq_false]
      intro y hy
      obtain ⟨z, t, hkey⟩ := hk y (Array.mem_toList_iff.mp hy)
      simp [DictEntry.refKey, hkey]
    have a' : ¬ es.toList.any (·.refKey) = true := by rw [a]; exact Bool.false_ne_true
    rw [if_neg a']
    exact congrArg some e

theorem ObjM.look {h : Heap} {x dx C : Addr} {mA : Str → Option Value} (I : ObjM h x dx C mA) : ∃ od, PySem.W.InstAt h x (PySem.W.instObj C dx) C (some od) ∧ ∀ name, PySem.W.lookIn name od = some (mA name) :=
  let ⟨od, ho, hl⟩ := lookIn_ns I.ns
  ⟨od, ⟨I.obj, rfl, rfl, ho⟩, hl⟩

section
variable {prog : Program} {w : World} {A : Around} {E : Value → Shared → Prop} {s : Shared} {K : PySem.W.Frag} {x dx C f : Addr} {mA : Str → Option Value} {name : Str} {v : Value}

theorem get_map {expr : Bool} {Q : Value → Shared → Prop} (X : K.In s.heap) (I : ObjM s.heap x dx C mA) (hg : PySem.W.plainGet K C name = true) (hh : PySem.W.hasDictIn K C = true)
    (ha : PySem.W.findIn K (.ref C) name = some none) (hv : mA name = some v) (hv' : PySem.W.handedIn v = true) (h : Q v { s with toks := s.toks + 1 }) :
    wpAny (model prog w) A (getAttr (.ref x) name expr) Q E s := by
  obtain ⟨od, J, hl⟩ := I.look
  exact PySem.W.get_value X J (PySem.W.plainGet_of hg).1 (PySem.W.findObj_own hh ha rfl (by rw [hl, hv])) hv' h

theorem set_map {ns : List Str} {Q : Unit → Shared → Prop} (X : K.In s.heap) (I : ObjM s.heap x dx C mA)
    (hs : PySem.W.findIn K (.ref C) "__setattr__" = some (some (.builtin "object.__setattr__"))) (hp : PySem.W.plainOver K C = true) (ht : PySem.W.takerIn K C name = some none) (hh : PySem.W.hasDictIn K C = true)
    (hw : PySem.Within mA ns) (hsz : ns.length ≤ sizeLine)
    (h : ∀ h', ObjM h' x dx C (fun y => if y = name then some v else mA y) → Heap.SameBut dx s.heap h' → Q () { s with heap := h', toks := s.toks + 2 }) :
    wpAny (model prog w) A (setAttr (.ref x) name v) Q E s := by
  obtain ⟨od, J, hl⟩ := I.look
  refine PySem.W.set_plain X J hs (PySem.W.osa_open (s := { s with toks := s.toks + 1 }) (r := none) X J hp ht fun b => ?_)
  obtain ⟨cd, hc, hd'⟩ := PySem.W.any_some hh
  have hx : s.heap.get? x = some ⟨.ref C, some dx, .plain, #[]⟩ := I.obj
  refine wpAny_bind (wpAny_pure (wpAny_bind (wpAny_bind (wpAny_loadPart hx (wpAny_bind (PySem.W.Looks.here (s := { s with toks := s.toks + 1 }) (PySem.W.looks_clsIn X hc) ?_))))))
  rw [hd']
  refine wpAny_pure (a := some dx) (wpAny_bind (wpAny_pure (wpAny_bind ?_)))
  refine wpAny_nsSet1 (s := { s with toks := s.toks + 1 }) I.ns fun h' hn2 hs2 => ?_
  obtain ⟨oD, esD, epD, hoD, hdD, hcD⟩ := hn2.count (PySem.Within.cons name v hw)
  refine wpAny_bind (wpAny_lookBehind hoD (by rw [hdD]; exact pastItsLine_dict (Nat.le_trans hcD (by rw [List.length_cons]; omega))) ?_)
  exact wpAny_pure (h _ ⟨(hs2.2 _ (Ne.symm I.ne)).trans I.obj, hn2, I.ne⟩ hs2)

theorem make_map {R : Result → Shared → Prop} {vs : List Value} {kw : List (Str × Value)} (X : K.In s.heap) (hm : PySem.W.makesIn K C = true)
    (hi : PySem.W.findIn K (.ref C) "__init__" = some (some (.ref f))) (hf : PySem.W.typeIn K (.ref f) = some (.type "function"))
    (h : codeAny (model prog w) (A.under (.builtin "type.__call__" ⟨.ref C :: vs, kw⟩)) (.call (.ref f) ⟨.ref (s.heap.objs.size + 1) :: vs, kw⟩) (PySem.W.InitBack (s.heap.objs.size + 1) R)
      { s with heap := (s.heap.push PySem.W.emptyDict).push (PySem.W.instObj C s.heap.objs.size) }) :
    codeAny (model prog w) A (.call (.ref C) ⟨vs, kw⟩) R s := by
  obtain ⟨hh, g, d, t, os⟩ := s
  exact PySem.W.make_core (PySem.W.makes_of X hm) (PySem.W.looks_findIn X hi) (fun self => PySem.W.bind_fn X self hf) (.inl rfl) h
end

def putF (f : Str) (v : V) : List (Str × V) → List (Str × V)
  | [] => [(f, v)]
  | (g, x) :: r => if g = f then (g, v) :: r else (g, x) :: putF f v r
theorem lookup_putF (f g : Str) (v : V) : ∀ fs : List (Str × V), (putF f v fs).lookup g = if g = f then some v else fs.lookup g
  | [] => by
    show List.lookup g [(f, v)] = _
    by_cases h : g = f
    · have hb : (g == f) = true := beq_iff_eq.mpr h
      simp only [List.lookup, hb, if_pos h]
    · have hb : (g == f) = false := beq_eq_false_iff_ne.mpr h
      simp only [List.lookup, hb, if_neg h]
  | (k, x) :: r => by
    have ih := lookup_putF f g v r
    rw [show putF f v ((k, x) :: r) = (if k = f then (k, v) :: r else (k, x) :: putF f v r) from rfl]
    by_cases hk : k = f
    · rw [if_pos hk]
      by_cases h : g = k
      · have hb : (g == k) = true := beq_iff_eq.mpr h
        simp only [List.lookup, hb, if_pos (h.trans hk)]
      · have hb : (g == k) = false := beq_eq_false_iff_ne.mpr h
        simp only [List.lookup, hb, if_neg (fun e : g = f => h (e.trans hk.symm))]
    · rw [if_neg hk]
      by_cases h : g = k
      · have hb : (g == k) = true := beq_iff_eq.mpr h
        simp only [List.lookup, hb, if_neg (fun e : g = f => hk (h.symm.trans e))]
      · have hb : (g == k) = false := beq_eq_false_iff_ne.mpr h
        simp only [List.lookup, hb]
        exact ih
theorem keys_putF (f : Str) (v : V) : ∀ fs : List (Str × V), f ∈ (putF f v fs).map (·.1) ∧ ∀ g, g ∈ fs.map (·.1) → g ∈ (putF f v fs).map (·.1)
  | [] => ⟨by simp [putF], fun g h => by simp at h⟩
  | (k, x) :: r => by
    obtain ⟨i1, i2⟩ := keys_putF f v r
    rw [show putF f v ((k, x) :: r) = (if k = f then (k, v) :: r else (k, x) :: putF f v r) from rfl]
    by_cases hk : k = f
    · rw [if_pos hk]
      subst hk
      exact ⟨by simp, fun g h => by simpa using h⟩
    · rw [if_neg hk]
      refine ⟨?_, fun g h => ?_⟩
      · rw [List.map_cons]
        exact List.mem_cons_of_mem _ i1
      · rw [List.map_cons] at h ⊢
        rcases List.mem_cons.mp h with e | e
        · exact List.mem_cons.mpr (.inl e)
        · exact List.mem_cons_of_mem _ (i2 g e)
theorem length_putF (f : Str) (v : V) : ∀ fs : List (Str × V), (putF f v fs).length ≤ fs.length + 1
  | [] => by simp [putF]
  | (k, x) :: r => by
    have ih := length_putF f v r
    rw [show putF f v ((k, x) :: r) = (if k = f then (k, v) :: r else (k, x) :: putF f v r) from rfl]
    by_cases hk : k = f
    · rw [if_pos hk, List.length_cons, List.length_cons]; omega
    · rw [if_neg hk, List.length_cons, List.length_cons]; omega

theorem RelO.some_of {v : V} {o : Option Value} (r : RelO (some v) o) : ∃ u, o = some u ∧ RelV v u := by
  cases o with
  | none => exact (show False from r).elim
  | some u => exact ⟨u, rfl, r⟩
theorem handed_of {v : V} {u : Value} (r : RelV v u) : PySem.W.handedIn u = true := by
  cases v with
  | non => cases (show u = Value.none from r); rfl
  | bl b => cases (show u = Value.bool b from r); rfl
  | int i => obtain ⟨t, e⟩ := (show ∃ t, u = Value.int i t from r); cases e; rfl
  | str x => obtain ⟨t, e⟩ := (show ∃ t, u = Value.str x t from r); cases e; rfl
  | byt b => obtain ⟨t, e⟩ := (show ∃ t, u = Value.bytes b t from r); cases e; rfl
  | flt b => obtain ⟨t, e⟩ := (show ∃ t, u = Value.float b t from r); cases e; rfl
  | ref a => cases (show u = Value.ref a from r); rfl
  | ty n => cases (show u = Value.type n from r); rfl

section
variable {P : Program} {w : World} {H H' : Hp} {h h' : Heap} {a C dx : Addr} {fs fs' : List (Str × V)}
theorem ins_get (hok : HOk P w H h) (e : H a = some (.ins C dx fs)) : ∃ mA, ObjM h a dx C mA ∧ (∀ f, RelO (fs.lookup f) (mA f)) ∧ PySem.Within mA (fs.map (·.1)) ∧ fs.length ≤ 1000 ∧ H dx = some (.own a) := by
  obtain ⟨d, z, ne, ob, mA, n, r, q⟩ := (show ObjOk P w H h a (.ins C dx fs) from hok a _ e)
  exact ⟨mA, ⟨ob, n, ne⟩, r, q, z, d⟩
end

structure Cls (K : PySem.W.Frag) (C : Addr) : Prop where
  pg : PySem.W.plainGet K C Str.empty = true
  hd : PySem.W.hasDictIn K C = true
  po : PySem.W.plainOver K C = true
  sa : PySem.W.findIn K (.ref C) "__setattr__" = some (some (.builtin "object.__setattr__"))
theorem Cls.get {K : PySem.W.Frag} {C : Addr} (c : Cls K C) (f : Str) : PySem.W.plainGet K C f = true := c.pg
def NoAttr (K : PySem.W.Frag) (C : Addr) (f : Str) : Prop := PySem.W.findIn K (.ref C) f = some none
theorem NoAttr.taker {K : PySem.W.Frag} {C : Addr} {f : Str} (n : NoAttr K C f) : PySem.W.takerIn K C f = some none := by
  unfold PySem.W.takerIn
  rw [show PySem.W.findIn K (.ref C) f = some none from n]
  rfl
section
variable {X : Cx} {pins : List (Addr × Obj)} {σ : St} {H : Hp} {s : Shared} {a C dx : Addr} {fs : List (Str × V)} {f : Str} {v : V} {A : Around} {E : Value → Shared → Prop}

theorem getattr_ok {b : Bool} {Q : Value → Shared → Prop} (I : Inv X pins σ H s) (e : H a = some (.ins C dx fs)) (c : Cls X.K C) (n : NoAttr X.K C f) (l : fs.lookup f = some v)
    (h : ∀ u s', Inv X pins σ H s' → RelV v u → Q u s') : wpAny (model X.prog X.w) A (getAttr (.ref a) f b) Q E s := by
  obtain ⟨mA, O, r, _, _, _⟩ := ins_get I.hok e
  obtain ⟨u, hu, ru⟩ := RelO.some_of (v := v) (o := mA f) (by rw [← l]; exact r f)
  exact get_map I.kIn O (c.get f) c.hd n hu (handed_of ru) (h u _ (I.tok _) ru)

theorem setattr_ok {y : V} {u : Value} {Q : Unit → Shared → Prop} (I : Inv X pins σ H s) (e : H a = some (.ins C dx fs)) (c : Cls X.K C) (n : NoAttr X.K C f) (hl : fs.length < 1000) (ry : RelV y u)
    (h : ∀ s', Inv X pins σ (upd H a (.ins C dx (putF f y fs))) s' → Q () s') : wpAny (model X.prog X.w) A (setAttr (.ref a) f u) Q E s := by
  obtain ⟨mA, O, r, wi, _, ho⟩ := ins_get I.hok e
  have hz : (fs.map (·.1)).length ≤ sizeLine := by rw [List.length_map, sizeLine_eq]; omega
  refine set_map I.kIn O c.sa c.po n.taker c.hd wi hz fun h' O' sb => h _ ?_
  have hd : ∃ o, h'.get? dx = some o := let ⟨o, _, _, e', _⟩ := O'.ns; ⟨o, e'⟩
  refine I.write (x := a) (e := dx) (by rw [e]; exact True.intro) (.inr ho) (fun b q hb z => (sb.2 b hb).trans z) hd ?_
  refine ⟨by rw [upd_ne O.ne]; exact ho, ?_, O.ne, O'.obj, _, O'.ns, fun g => ?_, fun g hg => ?_⟩
  · have := length_putF f y fs; omega
  · show RelO ((putF f y fs).lookup g) (if g = f then some u else mA g)
    rw [lookup_putF]
    by_cases q : g = f
    · rw [if_pos q, if_pos q]; exact ry
    · rw [if_neg q, if_neg q]; exact r g
  · by_cases q : g = f
    · rw [q]; exact (keys_putF f y fs).1
    · refine (keys_putF f y fs).2 g (wi g fun z => hg ?_)
      show (if g = f then some u else mA g) = none
      rw [if_neg q]; exact z

theorem Inv.made (I : Inv X pins σ H s) : Inv X pins σ (upd (upd H s.heap.objs.size (.own (s.heap.objs.size + 1))) (s.heap.objs.size + 1) (.ins C s.heap.objs.size []))
    { s with heap := (s.heap.push PySem.W.emptyDict).push (PySem.W.instObj C s.heap.objs.size) } := by
  have e1 : (s.heap.push PySem.W.emptyDict).get? s.heap.objs.size = some PySem.W.emptyDict := Heap.get?_push_size s.heap rfl
  have e2 : ((s.heap.push PySem.W.emptyDict).push (PySem.W.instObj C s.heap.objs.size)).get? (s.heap.objs.size + 1) = some (PySem.W.instObj C s.heap.objs.size) := by
    have := Heap.get?_push_size (s.heap.push PySem.W.emptyDict) (o := PySem.W.instObj C s.heap.objs.size) rfl
    rwa [Heap.size_push] at this
  have e3 : (s.heap.push PySem.W.emptyDict).Ns s.heap.objs.size (fun _ => none) := ⟨PySem.W.emptyDict, #[], _, e1, rfl, (fun e he => absurd he (by simp)), fun _ => rfl⟩
  have I1 := I.laid (a := s.heap.objs.size) (o := .own (s.heap.objs.size + 1)) (h' := s.heap.push PySem.W.emptyDict) (t' := s.toks) (fun b u q => Heap.get?_push_of_some _ q) (Nat.le_refl _) ⟨_, e1⟩
  refine I1.laid (a := s.heap.objs.size + 1) (o := .ins C s.heap.objs.size []) (t' := s.toks) (fun b u q => Heap.get?_push_of_some _ q) (Nat.le_of_eq (Heap.size_push _ _)) ?_
  have ne : s.heap.objs.size ≠ s.heap.objs.size + 1 := Nat.ne_of_lt (Nat.lt_succ_self _)
  refine ⟨by rw [upd_ne ne, upd_same], Nat.zero_le _, ne, e2, fun _ => none, (Heap.Ns1.of_empty e3).at fun o q => Heap.get?_push_of_some _ q, fun _ => True.intro, fun y hy => absurd rfl hy⟩

theorem attr_of {prog : Program} {w : World} {env : Env} {e : Expr} {f : Str} {pos : Pos} {s : Shared} {Q : Value → Shared → Prop} (hb : attributeBase e f env (eval e env) = eval e env)
    (h : wpAny (model prog w) A (eval e env) (fun o s₁ => wpAny (model prog w) A (getAttr o f true) Q E s₁) E s) : wpAny (model prog w) A (eval (.Attribute e f pos) env) Q E s :=
  Attribute_any_ h (by rw [arm_eval_Attribute, hb])
end

inductive RdFld (K : PySem.W.Frag) (f : Str) (x : V) (H : Hp) (Q : VK) : Prop
  | mk (a C dx : Addr) (fs : List (Str × V)) (v : V) (e : x = .ref a) (h : H a = some (.ins C dx fs)) (c : Cls K C) (n : NoAttr K C f) (l : fs.lookup f = some v) (q : Q v H) : RdFld K f x H Q
def tFld (K : PySem.W.Frag) (ta : TE) (f : Str) : TE := fun σ H Q => ta σ H fun x H1 => RdFld K f x H1 Q
inductive RdSFld (K : PySem.W.Frag) (f : Str) (x y : V) (H : Hp) (Q : Hp → Prop) : Prop
  | mk (a C dx : Addr) (fs : List (Str × V)) (e : x = .ref a) (h : H a = some (.ins C dx fs)) (c : Cls K C) (n : NoAttr K C f) (l : fs.length < 1000) (q : Q (upd H a (.ins C dx (putF f y fs)))) : RdSFld K f x y H Q
def sFld (K : PySem.W.Frag) (ta tv : TE) (f : Str) : TS := fun D σ H => tv σ H fun y H1 => ta σ H1 fun x H2 => RdSFld K f x y H2 fun H3 => D.nx σ H3
section
variable {X : Cx} {o e value : Expr} {f : Str} {pos pos' tpos : Pos} {ta tv : TE}
theorem pe_fld (he : PE X e ta) (hb : attributeBase e f X.env (eval e X.env) = eval e X.env) : PE X (.Attribute e f pos) (tFld X.K ta f) := by
  intro pins s σ H Q I h
  refine attr_of hb (thn (he pins s σ H _ I h) fun u s1 ⟨x, H1, I1, rx, a, C, dx, fs, v, ex, ea, c, n, l, q⟩ => ?_)
  subst ex
  obtain rfl : u = Value.ref a := rx
  exact getattr_ok I1 ea c n l fun u' s2 I2 ru => ⟨v, H1, I2, ru, q⟩
theorem ps_fld (ha : PE X o ta) (hv : PE X value tv) (hs : swapsWith value (some (.Attribute o f pos')) pos.line X.env = pure false) : PS X (.Assign [.Attribute o f pos'] value pos) (sFld X.K ta tv f) := by
  intro pins s σ H D I h
  refine plainObj_wpAny_Assign_Attribute (thn (hv pins s σ H _ I h) fun u s1 ⟨y, H1, I1, ry, q⟩ => thn (ha pins s1 σ H1 _ I1 q) fun ov s2 ⟨x, H2, I2, rx, a, C, dx, fs, ex, ea, c, n, l, q2⟩ => ?_) hs
  subst ex
  obtain rfl : ov = Value.ref a := rx
  exact setattr_ok I2 ea c n l ry fun s3 I3 => ⟨σ, _, I3, q2⟩
end

section
variable {X : Cx} {pins : List (Addr × Obj)} {σ : St} {H : Hp} {s : Shared} {A : Around} {E : Value → Shared → Prop} {Q : Value → Shared → Prop} {c : Value} {b : Bool}
end
end L2

namespace L2
open PySem PySem.Spec PyProof.Rows

structure Room (k : Nat) (A : Around) : Prop where
  hd : A.handled = none
  dp : A.depth + 3 * k + 5 < recursionLimit
  un : A.units + 16 * k + 200 < cLine
theorem Room.mono {j k : Nat} {A : Around} (r : Room k A) (h : j ≤ k) : Room j A := ⟨r.hd, by have := r.dp; omega, by have := r.un; omega⟩
theorem Room.deeper {k : Nat} {A : Around} (r : Room (k + 1) A) (env : Env) : Room k (A.deeper env) :=
  ⟨r.hd, by have := r.dp; show A.depth + 1 + 3 * k + 5 < _; omega, by have := r.un; show A.units + 3 + 16 * k + 200 < _; omega⟩
theorem Room.in1 {k : Nat} {A : Around} (r : Room (k + 1) A) : Room k A.in1 :=
  ⟨r.hd, by have := r.dp; show A.depth + 3 * k + 5 < _; omega, by have := r.un; show A.units + 1 + 16 * k + 200 < _; omega⟩
theorem make_depth {A : Around} {C : Addr} {us : List Value} {kw : List (Str × Value)} : (A.under (.builtin "type.__call__" ⟨.ref C :: us, kw⟩)).depth = A.depth + 1 := by
  first | rfl | simp [Around.under, Code.weight, Code.isCreation, Code.isGuard, Code.isCaller, Code.frames, Code.isFrame, guardIds]
theorem make_units {A : Around} {C : Addr} {us : List Value} {kw : List (Str × Value)} : (A.under (.builtin "type.__call__" ⟨.ref C :: us, kw⟩)).units = A.units + 1 := by
  first | rfl | simp [Around.under, Code.cUnits, Code.frames, Code.isFrame]
theorem Room.make {k : Nat} {A : Around} (r : Room (k + 1) A) (C : Addr) (us : List Value) (kw : List (Str × Value)) : Room k (A.under (.builtin "type.__call__" ⟨.ref C :: us, kw⟩)) :=
  ⟨r.hd, by have := r.dp; rw [make_depth]; omega, by have := r.un; rw [make_units]; omega⟩
theorem Room.depth {k : Nat} {A : Around} (r : Room k A) : A.depth < recursionLimit := by have := r.dp; omega
theorem Room.units {k : Nat} {A : Around} (r : Room k A) : A.units + 64 < cLine := by have := r.un; omega
def tNil : TA := fun _ H Q => Q [] H
def tCons (ta : TE) (tr : TA) : TA := fun σ H Q => ta σ H fun x H1 => tr σ H1 fun xs H2 => Q (x :: xs) H2
section
variable {X : Cx} {e : Expr} {es : List Expr} {te : TE} {t : TA} {pos : Pos}
theorem pa_nil : PA X [] tNil := fun _ _ _ _ H Q I h => Calls.spliced_nil ⟨[], H, I, .nil, h⟩
theorem pa_cons (ha : PE X e te) (hr : PA X es t) (hs : starEach (e :: es) X.env = (false, eval e X.env) :: starEach es X.env := by rfl) : PA X (e :: es) (tCons te t) := by
  intro pos pins s σ H Q I h
  rw [hs]
  show wpAny _ _ (spliced ((false, eval e X.env) :: backTo pos (starEach es X.env))) _ _ s
  refine Calls.spliced_cons (thn (ha pins s σ H _ I h) fun u s1 ⟨x, H1, I1, r1, q1⟩ => ?_)
  exact thn (hr pos pins s1 σ H1 _ I1 q1) fun us s2 ⟨xs, H2, I2, r2, q2⟩ => ⟨x :: xs, H2, I2, .cons r1 r2, q2⟩

def tTup (t : TA) : TE := fun σ H Q => t σ H fun xs H1 => xs.length ≤ sizeLine ∧ ∀ p, H1 p = none → Q (.ref p) (upd H1 p (.tup xs))
inductive RdLst (xs : List V) (H : Hp) (Q : VK) : Prop
  | mk (h : xs.length ≤ sizeLine) (q : ∀ p, H p = none → Q (.ref p) (upd H p (.lst xs))) : RdLst xs H Q
def tLst (t : TA) : TE := fun σ H Q => t σ H fun xs H1 => RdLst xs H1 Q
theorem pe_tup {x1} (h : PA X es t) : PE X (.Tuple es x1 pos) (tTup t) := by
  intro pins s σ H Q I hq
  refine wpAny_Tuple_spliced (thn (h pos pins s σ H _ I hq) fun us s1 ⟨xs, H1, I1, r, z, q⟩ => ⟨by rw [← r.length]; exact z, ?_⟩)
  have hf : H1 s1.heap.objs.size = none := I1.hok.fresh (Nat.le_refl _)
  refine ⟨.ref s1.heap.objs.size, upd H1 s1.heap.objs.size (.tup xs), I1.laid (t' := s1.toks) (fun b u e => Heap.get?_push_of_some _ e) (Nat.le_refl _) ?_, rfl, q _ hf⟩
  exact ⟨z, us, r, ⟨_, Heap.get?_push_size _ rfl, rfl, _, rfl⟩⟩
theorem pe_lst (h : PA X es t) : PE X (.List es pos) (tLst t) := by
  intro pins s σ H Q I hq
  refine wpAny_List_spliced (thn (h pos pins s σ H _ I hq) fun us s1 ⟨xs, H1, I1, r, z, q⟩ => ⟨by rw [← r.length]; exact z, ?_⟩)
  have hf : H1 s1.heap.objs.size = none := I1.hok.fresh (Nat.le_refl _)
  refine ⟨.ref s1.heap.objs.size, upd H1 s1.heap.objs.size (.lst xs), I1.laid (t' := s1.toks) (fun b u e => Heap.get?_push_of_some _ e) (Nat.le_refl _) ?_, rfl, q _ hf⟩
  exact ⟨z, us, 0, r, Heap.get?_push_size _ rfl⟩
end

abbrev Sp := List V → Hp → VK → XK → Prop
abbrev CXT := List Env → Hp → Shared → XK → Value → Shared → Prop

structure Env0 (P : Program) (w : World) (K : PySem.W.Frag) (mg : Str → Option Value) (base : Heap) (A : Around) (outer : List Env) (s : Shared) (H : Hp) : Prop where
  frames : A.frames = some outer
  mod : Mod K mg base
  bs : ∀ b o, base.get? b = some o → s.heap.get? b = some o ∧ H b = none
  bsz : base.objs.size ≤ s.heap.objs.size
  funs : s.heap.FunFrames base outer
  frf : ∀ b ∈ frs outer, H b = none
  hok : HOk P w H s.heap
  bare : AllBare s.gens
def CE (outer : List Env) (P : Program) (w : World) (H : Hp) (s : Shared) (Q : VK) (u : Value) (s' : Shared) : Prop :=
  ∃ v H', s'.os = s.os ∧ AllBare s'.gens ∧ Un (frs outer) [] H H' s.heap s'.heap ∧ HOk P w H' s'.heap ∧ RelV v u ∧ Q v H'
def CR (CX : CXT) (outer : List Env) (P : Program) (w : World) (H : Hp) (s : Shared) (Q : VK) (E : XK) (r : Result) (s' : Shared) : Prop :=
  match r with
  | .ok (.ret u) => CE outer P w H s Q u s'
  | .ok _ => False
  | .error e => CX outer H s E e s'
structure FnOk (P : Program) (w : World) (K : PySem.W.Frag) (mg : Str → Option Value) (base : Heap) (CX : CXT) (k : Nat) (f : Addr) (fd : FuncData) (ps : List Str) (sp : Sp) : Prop where
  len : ∀ vs H Q E, sp vs H Q E → vs.length = ps.length
  run : ∀ (A : Around) (outer : List Env) (s : Shared) (H : Hp) (args : Args) (us : List Value) (vs : List V) (Q : VK) (E : XK), Room k A → Env0 P w K mg base A outer s H → BindsTo s fd args (ps.zip us) → Vals vs us → sp vs H Q E →
    codeAny (model P w) A (.call (.ref f) args) (CR CX outer P w H s Q E) s
theorem FnOk.mono {P : Program} {w : World} {K : PySem.W.Frag} {mg : Str → Option Value} {base : Heap} {CX : CXT} {j k : Nat} {f : Addr} {fd : FuncData} {ps : List Str} {sp : Sp} (F : FnOk P w K mg base CX j f fd ps sp) (h : j ≤ k) :
    FnOk P w K mg base CX k f fd ps sp := ⟨F.len, fun A outer s H args us vs Q E hr => F.run A outer s H args us vs Q E (hr.mono h)⟩
theorem Env0.make {P : Program} {w : World} {K : PySem.W.Frag} {mg : Str → Option Value} {base : Heap} {A : Around} {outer : List Env} {s : Shared} {H : Hp} (e : Env0 P w K mg base A outer s H) (C : Addr) (us : List Value) (kw : List (Str × Value)) :
    Env0 P w K mg base (A.under (.builtin "type.__call__" ⟨.ref C :: us, kw⟩)) outer s H := ⟨by first | exact e.frames | (simpa [Around.under, Code.envs, Code.isFrame, pushEnvs] using e.frames), e.mod, e.bs, e.bsz, e.funs, e.frf, e.hok, e.bare⟩
section
variable {X : Cx} {pins : List (Addr × Obj)} {σ : St} {H : Hp} {s s' : Shared}
theorem Inv.env0 (I : Inv X pins σ H s) : Env0 X.prog X.w X.K X.mg X.base X.A X.stack s H :=
  ⟨I.ok.frames, I.ok.mod, I.bs, Nat.le_trans I.ok.bsz I.sz, I.stack, I.stkFree, I.hok, I.bare⟩
theorem Inv.after {Q : VK} {u : Value} (I : Inv X pins σ H s) (h : CE X.stack X.prog X.w H s Q u s') : EP X pins σ Q u s' := by
  obtain ⟨v, H', os, bare, un, hok, r, q⟩ := h
  obtain ⟨hh, g, d, t, os'⟩ := s'
  obtain rfl : os' = s.os := os
  exact ⟨v, H', I.call (h' := hh) (g' := g) (d' := d) (t' := t) (ch := []) un hok bare (fun b z => absurd z (by simp)), r, q⟩
end

def tCall (sp : Sp) (dvs : List V) (E : XK) (t : TA) : TE := fun σ H Q => t σ H fun vs H1 => sp (vs ++ dvs) H1 Q E
def tMake (C : Addr) (sp : Sp) (dvs : List V) (E : XK) (t : TA) : TE := fun σ H Q => t σ H fun vs H1 => ∀ x dx, H1 x = none → H1 dx = none → dx ≠ x →
  sp (.ref x :: (vs ++ dvs)) (upd (upd H1 dx (.own x)) x (.ins C dx [])) (fun v H2 => v = .non ∧ Q (.ref x) H2) E

def Binds (K : PySem.W.Frag) (fd : FuncData) (ps : List Str) (ds : List Value) : Prop :=
  ∀ (s : Shared) (us : List Value), K.In s.heap → (us ++ ds).length = ps.length → BindsTo s fd ⟨us, []⟩ (ps.zip (us ++ ds))
theorem Binds.all {K : PySem.W.Frag} {fd : FuncData} {ps : List Str} (h : ∀ us : List Value, us.length = ps.length → bindArgs fd ⟨us, []⟩ = pure (ps.zip us)) : Binds K fd ps [] := fun s us _ hl => by
  rw [List.append_nil] at hl ⊢
  exact .of_eq (h us hl)

def Passes (CX : CXT) (X : Cx) (E : XK) : Prop := ∀ (pins : List (Addr × Obj)) (σ : St) (H : Hp) (s : Shared) (e : Value) (s' : Shared), Inv X pins σ H s → CX X.stack H s E e s' → X.xe e s'

section
variable {X : Cx} {CX : CXT} {k : Nat} {f C : Addr} {fd : FuncData} {ps : List Str} {sp : Sp} {dvs : List V} {ds : List Value} {E : XK} {x m : Str} {p pos apos : Pos} {e o : Expr} {es : List Expr} {ta : TE} {t : TA}

theorem run_fn {pins : List (Addr × Obj)} {σ : St} {H : Hp} {s : Shared} {Q : VK} {us : List Value} {vs : List V} (F : FnOk X.prog X.w X.K X.mg X.base CX k f fd ps sp) (hr : Room k X.A) (hb : Binds X.K fd ps ds) (hd : Vals dvs ds) (hx : Passes CX X E)
    (I : Inv X pins σ H s) (r : Vals vs us) (h : sp (vs ++ dvs) H Q E) : wpAny (model X.prog X.w) X.A (call (.ref f) us) (EP X pins σ Q) X.xe s := by
  have r2 : Vals (vs ++ dvs) (us ++ ds) := r.append hd
  have hl : (us ++ ds).length = ps.length := by rw [← r2.length]; exact F.len _ _ _ _ h
  refine wpAny_call (codeAny_mono (F.run X.A X.stack s H ⟨us, []⟩ (us ++ ds) (vs ++ dvs) Q E hr I.env0 (hb s us I.kIn hl) r2 h) fun r s' hq => ?_)
  cases r with
  | error e => exact hx pins σ H s e s' I hq
  | ok fl =>
    cases fl with
    | ret u => exact I.after hq
    | next => exact False.elim hq
    | brk => exact False.elim hq
    | cont => exact False.elim hq

theorem pe_call (F : FnOk X.prog X.w X.K X.mg X.base CX k f fd ps sp) (hr : Room k X.A) (hg : Gl X x) (hm : X.mg x = some (.ref f)) (hk : PySem.W.keepIn X.K (.ref f) = true) (hb : Binds X.K fd ps ds) (hd : Vals dvs ds) (hx : Passes CX X E)
    (ha : PA X (e :: es) t) (hdb : (x == ("__debug__" : Str)) = false := by decide) (he : starEach (e :: es) X.env = (false, eval e X.env) :: starEach es X.env := by rfl) (hpl : (backTo pos (starEach es X.env)).any (·.1) = false := by rfl) :
    PE X (.Call (.Name x p) (e :: es) [] pos) (tCall sp dvs E t) := by
  intro pins s σ H Q I h
  refine wpAny_Call_Name_kw (ld_glob I hg hm ?_ hdb)
  refine PySem.W.callWith_K (h₀ := X.base) I.ok.mod.kin hk (thn (ha pos pins s σ H _ I h) fun us s1 ⟨vs, H1, I1, r, q⟩ => ⟨I1.kIn, ?_⟩) he hpl
  exact run_fn F hr hb hd hx I1 r q
structure Mk (K : PySem.W.Frag) (C f : Addr) : Prop where
  makes : PySem.W.makesIn K C = true
  init : PySem.W.findIn K (.ref C) "__init__" = some (some (.ref f))
  fn : PySem.W.isFn K (.ref f) = true
  kp : PySem.W.keepIn K (.ref C) = true

theorem run_make {pins : List (Addr × Obj)} {σ : St} {H : Hp} {s : Shared} {Q : VK} {us : List Value} {vs : List V} (M : Mk X.K C f) (F : FnOk X.prog X.w X.K X.mg X.base CX k f fd ps sp) (hr : Room (k + 1) X.A) (hb : Binds X.K fd ps ds) (hd : Vals dvs ds)
    (hx : Passes CX X E) (I : Inv X pins σ H s) (r : Vals vs us)
    (h : ∀ x dx, H x = none → H dx = none → dx ≠ x → sp (.ref x :: (vs ++ dvs)) (upd (upd H dx (.own x)) x (.ins C dx [])) (fun v H2 => v = .non ∧ Q (.ref x) H2) E) :
    wpAny (model X.prog X.w) X.A (call (.ref C) us) (EP X pins σ Q) X.xe s := by
  have hq := h (s.heap.objs.size + 1) s.heap.objs.size (I.hok.fresh (Nat.le_succ _)) (I.hok.fresh (Nat.le_refl _)) (Nat.ne_of_lt (Nat.lt_succ_self _))
  have I2 := Inv.made (C := C) I
  have r2 : Vals (V.ref (s.heap.objs.size + 1) :: (vs ++ dvs)) (Value.ref (s.heap.objs.size + 1) :: (us ++ ds)) := .cons rfl (r.append hd)
  have hl : (Value.ref (s.heap.objs.size + 1) :: us ++ ds).length = ps.length := by
    have e := r2.length
    rw [F.len _ _ _ _ hq] at e
    exact e.symm
  refine wpAny_call (make_map (f := f) I.kIn M.makes M.init (beq_iff_eq.mp M.fn) (codeAny_mono (F.run _ X.stack _ _ ⟨Value.ref (s.heap.objs.size + 1) :: us, []⟩ (Value.ref (s.heap.objs.size + 1) :: (us ++ ds)) _ _ E (hr.make C us [])
    (I2.env0.make C us []) (hb _ (Value.ref (s.heap.objs.size + 1) :: us) I2.kIn hl) r2 hq) fun r s' hq' => ?_))
  cases r with
  | error e => exact hx pins σ _ _ e s' I2 hq'
  | ok fl =>
    cases fl with
    | ret u =>
      obtain ⟨v, H', I3, rv, ev, q3⟩ := I2.after hq'
      subst ev
      exact ⟨rv, ⟨V.ref (s.heap.objs.size + 1), H', I3, rfl, q3⟩⟩
    | next => exact False.elim hq'
    | brk => exact False.elim hq'
    | cont => exact False.elim hq'
theorem pe_make0 (M : Mk X.K C f) (F : FnOk X.prog X.w X.K X.mg X.base CX k f fd ps sp) (hr : Room (k + 1) X.A) (hg : Gl X x) (hm : X.mg x = some (.ref C)) (hb : Binds X.K fd ps ds) (hd : Vals dvs ds) (hx : Passes CX X E)
    (hdb : (x == ("__debug__" : Str)) = false := by decide) : PE X (.Call (.Name x p) [] [] pos) (tMake C sp dvs E tNil) := by
  intro pins s σ H Q I h
  refine wpAny_Call_Name_kw (ld_glob I hg hm ?_ hdb)
  exact PySem.W.callWith_K0 I.kIn M.kp (run_make (us := []) M F hr hb hd hx I .nil h)
end

section
variable {X : Cx} {CX : CXT} {k : Nat} {f C : Addr} {fd : FuncData} {ps ks : List Str} {sp : Sp} {E : XK} {x m : Str} {p pos apos kpos : Pos} {e o : Expr} {es : List Expr} {kws : List Keyword} {te ta : TE} {t tk : TA} {nm : Option Str}
variable {g : List Value → List Value → List Value} {gV : List V → List V → List V}
end

structure FnScope (N P : List Str) (sc : Scope) : Prop where
  kind : sc.kind = .function
  co : sc.isCoroutine = false
  gen : sc.isGenerator = false
  nd : N.Nodup
  pre : N.take P.length = P
  par : ∀ x ∈ P, sc.names.lookup x = some .local ∨ sc.names.lookup x = some .cell
  nofree : ∀ y ∈ sc.names, y.2 ≠ .free

theorem bindL_out {kindOf : Str → Option NameKind} {x : Str} : ∀ {binds : List (Str × Value)} {m : Str → Option Value}, (∀ v, (x, v) ∉ binds) → bindL kindOf binds m x = m x
  | [], _, _ => rfl
  | (n, v) :: r, m, h => by
    unfold bindL
    rw [bindL_out fun w hw => h w (List.mem_cons_of_mem _ hw)]
    split
    · have : x ≠ n := by rintro rfl; exact h v List.mem_cons_self
      simp [this]
    · rfl
theorem bindC_out {kindOf : Str → Option NameKind} {x : Str} : ∀ {binds : List (Str × Value)} {m : Str → Option Value}, (∀ v, (x, v) ∉ binds) → bindC kindOf binds m x = m x
  | [], _, _ => rfl
  | (n, v) :: r, m, h => by
    unfold bindC
    rw [bindC_out fun w hw => h w (List.mem_cons_of_mem _ hw)]
    split
    · rfl
    · have : x ≠ n := by rintro rfl; exact h v List.mem_cons_self
      simp [this]
theorem bindL_get {kindOf : Str → Option NameKind} {x : Str} {v : Value} : ∀ {P : List Str} {vs : List Value} {i : Nat} {m : Str → Option Value}, P.Nodup → P[i]? = some x → vs[i]? = some v → kindOf x = some .local →
    bindL kindOf (P.zip vs) m x = some v
  | [], _, _, _, _, h, _, _ => by simp at h
  | _ :: _, [], _, _, _, _, h, _ => by simp at h
  | p :: P, w :: vs, 0, m, nd, h1, h2, hk => by
    simp at h1 h2; subst h1; subst h2
    show bindL kindOf ((p, w) :: P.zip vs) m p = _
    unfold bindL
    rw [bindL_out fun v hv => (List.nodup_cons.mp nd).1 (List.of_mem_zip hv).1, if_pos hk]
    simp
  | p :: P, w :: vs, i + 1, m, nd, h1, h2, hk => by
    show bindL kindOf ((p, w) :: P.zip vs) m x = _
    unfold bindL
    exact bindL_get (i := i) (List.nodup_cons.mp nd).2 (by simpa using h1) (by simpa using h2) hk
theorem bindC_get {kindOf : Str → Option NameKind} {x : Str} {v : Value} : ∀ {P : List Str} {vs : List Value} {i : Nat} {m : Str → Option Value}, P.Nodup → P[i]? = some x → vs[i]? = some v → kindOf x ≠ some .local →
    bindC kindOf (P.zip vs) m x = some v
  | [], _, _, _, _, h, _, _ => by simp at h
  | _ :: _, [], _, _, _, _, h, _ => by simp at h
  | p :: P, w :: vs, 0, m, nd, h1, h2, hk => by
    simp at h1 h2; subst h1; subst h2
    show bindC kindOf ((p, w) :: P.zip vs) m p = _
    unfold bindC
    rw [bindC_out fun v hv => (List.nodup_cons.mp nd).1 (List.of_mem_zip hv).1, if_neg hk]
    simp
  | p :: P, w :: vs, i + 1, m, nd, h1, h2, hk => by
    show bindC kindOf ((p, w) :: P.zip vs) m x = _
    unfold bindC
    exact bindC_get (i := i) (List.nodup_cons.mp nd).2 (by simpa using h1) (by simpa using h2) hk

def start (N : List Str) (vs : List V) : St := vs.map some ++ List.replicate (N.length - vs.length) none

def cxOf (CX : CXT) (P : Program) (w : World) (K : PySem.W.Frag) (mg : Str → Option Value) (base : Heap) (N : List Str) (qual : Str) (scope : Scope) (f : Addr) (cd : Value) (A : Around) (outer : List Env) (s : Shared) (H : Hp) (E : XK) : Cx where
  prog := P
  w := w
  K := K
  mg := mg
  base := base
  A := A.deeper (envOfC qual scope s.heap.objs.size f cd)
  N := N
  s_0 := s
  H_0 := H
  env := envOfC qual scope s.heap.objs.size f cd
  outer := outer
  stack := envOfC qual scope s.heap.objs.size f cd :: outer
  ex := []
  calm := true
  fn := fun _ => true
  pn := []
  xe := fun e s' => wpAny (model P w) (A.deeper (envOfC qual scope s.heap.objs.size f cd)) (leaving (envOfC qual scope s.heap.objs.size f cd) e) (fun _ s'' => CX outer H s E e s'') (fun e' s'' => CX outer H s E e' s'') s'

theorem cell_has {sc : Scope} {n : Nat} {x : Str} (h : sc.names.lookup x = some .cell) : ∃ c, (cellsFrom n sc.names []).lookup x = some c := by
  have q := PySem.W.cellsFrom_some sc.names n [] (.inl h)
  exact Option.isSome_iff_exists.mp q

theorem inv_start {CX : CXT} {P : Program} {w : World} {K : PySem.W.Frag} {mg : Str → Option Value} {base : Heap} {N ps : List Str} {qual : Str} {scope : Scope} {f : Addr} {cd : Value} {A : Around} {outer : List Env} {s s1 : Shared} {H : Hp} {E : XK} {us : List Value} {vs : List V}
    (S : FnScope N ps scope) (hd : A.handled = none) (e0 : Env0 P w K mg base A outer s H) (hl : vs.length = ps.length) (r : Vals vs us)
    (x : InCallC s s.heap.objs.size (bindL (envOfC qual scope s.heap.objs.size f cd).kindOf (ps.zip us) fun _ => none) (cellsFrom (s.heap.objs.size + 1) scope.names []) (bindC (envOfC qual scope s.heap.objs.size f cd).kindOf (ps.zip us) fun _ => none) s1) :
    Inv (cxOf CX P w K mg base N qual scope f cd A outer s H E) [] (start N vs) H s1 := by
  have hpl : ps.length ≤ N.length := by have := congrArg List.length S.pre; rw [List.length_take] at this; omega
  obtain ⟨h1, tk, rfl, hk⟩ := x.done
  have noA : ∀ b : Addr, b ∉ (cxOf CX P w K mg base N qual scope f cd A outer s H E).ex := fun b z => absurd (show b ∈ ([] : List Addr) from z) (by simp)
  refine ⟨⟨e0.mod, S.kind, rfl, rfl, Nat.le_refl _, fun y z c h1 h2 => ?_, fun y hy => ?_, fun y c _ h => ?_, fun _ => hd, Around.frames_deeper e0.frames, .inr ⟨rfl, rfl⟩, fun b z => absurd z (noA b), e0.bs, e0.bsz, fun b _ _ => noA b, fun b z => absurd z (noA b), e0.funs, e0.frf⟩,
    rfl, e0.bare, Un.kept hk, ⟨_, x.toInCall.ns, fun i y v h1 h2 h3 => ?_⟩, fun y c h => ⟨_, x.cell y c h⟩, e0.hok.fresh (Nat.le_refl _), fun y c h => ?_, fun p hp => absurd (show p ∈ ([] : List (Addr × Obj)) from hp) (by simp), e0.hok.kept hk, ?_⟩
  · exact name_of_addr x.apart (PySem.mem_of_lookup h1) (PySem.mem_of_lookup h2)
  · have hy : scope.names.lookup y = some .cell ∨ scope.names.lookup y = some .free := hy
    rcases hy with hy | hy
    · exact cell_has hy
    · exact absurd rfl (S.nofree _ (PySem.mem_of_lookup hy))
  · exact Nat.le_of_lt (x.above y c (PySem.mem_of_lookup h))
  · have hi : i < vs.length := by
      unfold start at h2
      by_cases hi : i < vs.length
      · exact hi
      · rw [List.getElem?_append_right (by simpa using hi)] at h2
        rw [List.getElem?_replicate] at h2
        split at h2 <;> cases h2
    have ha : vs[i]? = some v := by
      unfold start at h2
      rw [List.getElem?_append_left (by simpa using hi), List.getElem?_map] at h2
      cases e : vs[i]? with
      | none => rw [e] at h2; cases h2
      | some a => rw [e] at h2; cases h2; rfl
    obtain ⟨u, hu, rv⟩ := r.get ha
    have hp : ps[i]? = some y := by
      rw [← S.pre, List.getElem?_take_of_lt (by omega)]; exact h1
    have ndP : ps.Nodup := by rw [← S.pre]; exact S.nd.sublist (List.take_sublist _ _)
    refine ⟨u, rv, ?_⟩
    rcases S.par y (List.mem_of_getElem? hp) with k | k
    · exact .inl ⟨k, bindL_get ndP hp hu k⟩
    · obtain ⟨c, e⟩ := cell_has (n := s.heap.objs.size + 1) k
      refine .inr ⟨.inl k, c, e, ?_⟩
      have q := x.cell y c e
      rw [bindC_get ndP hp hu (by show scope.names.lookup y ≠ _; rw [k]; decide)] at q
      exact q
  · exact e0.hok.fresh (Nat.le_of_lt (x.above y c (PySem.mem_of_lookup h)))
  · unfold start
    show _ = N.length
    rw [List.length_append, List.length_map, List.length_replicate]
    omega

theorem fn_of {CX : CXT} {P : Program} {w : World} {K : PySem.W.Frag} {mg : Str → Option Value} {base : Heap} {k : Nat} {f : Addr} {name qual : Str} {params : Arguments} {body : List Stmt} {scope : Scope} {dV kV doc pm cdv ct oc : Value} {an od : Option Addr}
    {osl : Array (Option Value)} {N ps : List Str} {sp : Sp} (lk : K.lookup f = some ⟨oc, od, .func (PySem.W.fnOf name qual params body scope dV kV doc pm an cdv ct), osl⟩) (hcd : PySem.W.codeIn K cdv qual = true) (S : FnScope N ps scope)
    (len : ∀ vs H Q E, sp vs H Q E → vs.length = ps.length)
    (hbody : ∀ (A : Around) (outer : List Env) (s : Shared) (H : Hp) (vs : List V) (Q : VK) (E : XK), Room k (A.deeper (envOfC qual scope s.heap.objs.size f cdv)) → sp vs H Q E →
      ∃ t, PSs (cxOf CX P w K mg base N qual scope f cdv A outer s H E) body t ∧ t { nx := fun _ H' => Q .non H', rt := Q } (start N vs) H) :
    FnOk P w K mg base CX (k + 1) f (PySem.W.fnOf name qual params body scope dV kV doc pm an cdv ct) ps sp := by
  refine ⟨len, fun A outer s H args us vs Q E hr e0 hb r hsp => ?_⟩
  have hl := len _ _ _ _ hsp
  have KX : K.In s.heap := e0.mod.kin.keeps fun b o e => (e0.bs b o e).1
  have lim : s.heap.NoLimit := e0.mod.nolimit.keeps fun b o e => (e0.bs b o e).1
  have hkind : ∀ y ∈ ps.zip us, scope.names.lookup y.1 = some .local ∨ (scope.names.lookup y.1 = some .cell ∧ ((cellsFrom (s.heap.objs.size + 1) scope.names []).lookup y.1).isSome = true) := fun ⟨n, v⟩ hy => by
    rcases S.par n (List.of_mem_zip hy).1 with q | q
    · exact .inl q
    · exact .inr ⟨q, PySem.W.cellsFrom_some _ _ _ (.inl q)⟩
  refine codeAny_call_function hr.depth (KX _ _ lk) rfl S.co S.gen rfl (PySem.W.codeRec_of KX hcd) (hb _ _ _ _ ?_)
  refine wpAny_newFunctionEnv_cells S.kind hkind fun env he s1 x => ?_
  subst he
  refine ⟨lim.keeps x.toInCall.keep, codeAny_func ?_⟩
  obtain ⟨t, ht, hq⟩ := hbody A outer s H vs Q E (hr.deeper _) hsp
  have I : Inv (cxOf CX P w K mg base N qual scope f cdv A outer s H E) [] (start N vs) H s1 := inv_start S hr.hd e0 hl r x
  refine wpAny_mono (ht [] s1 (start N vs) H _ I hq) (fun fl s' hs => ?_) fun e s' hs => hs
  have fin : ∀ {σ' : St} {H' : Hp} {v : V} {u : Value}, Inv (cxOf CX P w K mg base N qual scope f cdv A outer s H E) [] σ' H' s' → RelV v u → Q v H' → CE outer P w H s Q u s' :=
    fun {σ' H' v u} J rv q => ⟨v, H', J.os, J.bare, J.base, J.hok, rv, q⟩
  cases fl with
  | ret u =>
    obtain ⟨v, σ', H', J, rv, q⟩ := hs
    exact fin J rv q
  | next =>
    obtain ⟨σ', H', J, q⟩ := hs
    exact fin (v := V.non) (u := Value.none) J rfl q
  | brk =>
    obtain ⟨_, _, _, q⟩ := hs
    exact False.elim q
  | cont =>
    obtain ⟨_, _, _, q⟩ := hs
    exact False.elim q
end L2

namespace L2
open PySem PySem.Spec PyProof.Rows
section
variable {X : Cx} {x : Str} {p pos : Pos} {e : Expr} {es : List Expr} {t : TA} {id T : String} {r : List V → Hp → VK → Prop}

def tCB (r : List V → Hp → VK → Prop) (t : TA) : TE := fun σ H Q => t σ H fun vs H1 => r vs H1 Q
theorem pe_callB (hc : CallR X (.builtin id) r) (hg : Gl X x) (hm : X.mg x = none) (hv : bootBuiltins x = some (.builtin id)) (ha : PA X (e :: es) t) (hn : x ≠ "__name__" := by decide) (hdb : (x == ("__debug__" : Str)) = false := by decide)
    (he : starEach (e :: es) X.env = (false, eval e X.env) :: starEach es X.env := by rfl) (hpl : (backTo pos (starEach es X.env)).any (·.1) = false := by rfl) : PE X (.Call (.Name x p) (e :: es) [] pos) (tCB r t) := by
  intro pins s σ H Q I h
  refine wpAny_Call_Name_kw (ld_blt I hg hm hv ?_ hn hdb)
  exact PyProof.Rows.callWith_builtin1 (thn (ha pos pins s σ H _ I h) fun us s1 ⟨vs, H1, I1, r1, q1⟩ => hc pins s1 σ H1 vs us Q I1 r1 q1) he hpl
theorem pe_callTy (hc : CallR X (.type T) r) (hg : Gl X x) (hm : X.mg x = none) (hv : bootBuiltins x = some (.type T)) (ha : PA X (e :: es) t) (hn : x ≠ "__name__" := by decide) (hdb : (x == ("__debug__" : Str)) = false := by decide)
    (he : starEach (e :: es) X.env = (false, eval e X.env) :: starEach es X.env := by rfl) (hpl : (backTo pos (starEach es X.env)).any (·.1) = false := by rfl) : PE X (.Call (.Name x p) (e :: es) [] pos) (tCB r t) := by
  intro pins s σ H Q I h
  refine wpAny_Call_Name_kw (ld_blt I hg hm hv ?_ hn hdb)
  exact PyProof.Rows.callWith_type1 (thn (ha pos pins s σ H _ I h) fun us s1 ⟨vs, H1, I1, r1, q1⟩ => hc pins s1 σ H1 vs us Q I1 r1 q1) he hpl
end
end L2

namespace HT
open PySem PyProof.Rows

section
open PySem.SeqAt
open PySem.AutoSeq1 (wpAny_loadPart')
open PySem.MeetsSeq PySem.MeetsSeq2 PySem.MeetsSeq3

end

section
variable {prog : Program} {w : World} {A : Around} {E : Value → Shared → Prop} {s : Shared}

def sIx (n d : Nat) : Option Int → Nat
  | none => d
  | some v => if v < 0 then (v + (n : Int)).toNat else min v.toNat n
theorem sIx_none (n d : Nat) : sIx n d none = d := rfl
theorem sIx_nat (n d k : Nat) : sIx n d (some (k : Int)) = min k n := by
  show (if (k : Int) < 0 then ((k : Int) + (n : Int)).toNat else min (k : Int).toNat n) = min k n
  rw [if_neg (by omega), Int.toNat_natCast]
end
end HT

namespace L2
open PySem PySem.Spec PyProof.Rows

abbrev TO := St → Hp → (Option Int → Hp → Prop) → Prop
def PO (X : Cx) (e : Option Expr) (t : TO) : Prop :=
  ∀ (pins : List (Addr × Obj)) (s : Shared) (σ : St) (H : Hp) (Q : Option Int → Hp → Prop), Inv X pins σ H s → t σ H Q →
    wpAny (model X.prog X.w) X.A (evalPart e X.env) (fun u s' => ∃ o H', Inv X pins σ H' s' ∧ IsPart u o ∧ Q o H') X.xe s
def tNoPart : TO := fun _ H Q => Q none H
inductive RdPart (x : V) (H : Hp) (Q : Option Int → Hp → Prop) : Prop
  | mk (i : Int) (e : x = .int i) (q : Q (some i) H) : RdPart x H Q
def tPart (t : TE) : TO := fun σ H Q => t σ H fun x H1 => RdPart x H1 Q

section
variable {X : Cx} {e : Expr} {te : TE} {lo hi : Option Expr} {tl th : TO} {pos p2 : Pos}

theorem po_none : PO X none tNoPart := by
  intro pins s σ H Q I h
  rw [evalPart_none]
  exact wpAny_pure ⟨none, H, I, .none, h⟩
theorem po_some (h : PE X e te) : PO X (some e) (tPart te) := by
  intro pins s σ H Q I hw
  rw [evalPart_some]
  refine thn (h pins s σ H _ I hw) fun u s1 ⟨x, H1, I1, r1, q1⟩ => ?_
  obtain ⟨i, rfl, q⟩ := q1
  obtain ⟨t, rfl⟩ := r1
  exact ⟨some i, H1, I1, .int i t, q⟩

def SlR (X : Cx) (r : V → Option Int → Option Int → Hp → VK → Prop) : Prop :=
  ∀ (pins : List (Addr × Obj)) (s : Shared) (σ : St) (H : Hp) (x : V) (v vl vu : Value) (lo hi : Option Int) (sl : Addr) (Q : VK), Inv X pins σ H s → RelV x v → s.heap.IsSliceOf sl vl vu .none → IsPart vl lo → IsPart vu hi → r x lo hi H Q →
    ∃ T id, typeLookup (.type T) "__getitem__" = pure (some (.builtin id)) ∧ s.TypeIs v T ∧ wpAny (model X.prog X.w) X.A (getItem v (.ref sl)) (EP X pins σ Q) X.xe s
def tSl (r : V → Option Int → Option Int → Hp → VK → Prop) (te : TE) (tl th : TO) : TE := fun σ H Q => te σ H fun x H1 => tl σ H1 fun l H2 => th σ H2 fun u H3 => r x l u H3 Q
theorem pe_slice {r : V → Option Int → Option Int → Hp → VK → Prop} (hr : SlR X r) (he : PE X e te) (hl : PO X lo tl) (hu : PO X hi th) : PE X (.Subscript e (.Slice lo hi none p2) pos) (tSl r te tl th) := by
  intro pins s σ H Q I h
  refine Subscript_ (thn (he pins s σ H _ I h) fun v s1 ⟨x, H1, I1, r1, q1⟩ => ?_)
  refine wpAny_Slice (thn (hl pins s1 σ H1 _ I1 q1) fun vl s2 ⟨l, H2, I2, pl, q2⟩ => thn (hu pins s2 σ H2 _ I2 q2) fun vu s3 ⟨u, H3, I3, pu, q3⟩ => ?_)
  rw [evalPart_none]
  refine wpAny_pure ?_
  have I4 : Inv X pins σ H3 { s3 with heap := s3.heap.push { cls := .type "slice", data := .fields #[vl, vu, .none] } } := I3.kept (t' := s3.toks) fun b ob q => Heap.get?_push_of_some _ q
  obtain ⟨T, id, hT, ht, hg⟩ := hr pins { s3 with heap := s3.heap.push { cls := .type "slice", data := .fields #[vl, vu, .none] } } σ H3 x v vl vu l u s3.heap.objs.size Q I4 r1 (Heap.IsSliceOf.new ..) pl pu q3
  show wpAny (model X.prog X.w) X.A (subscriptTail e (.Slice lo hi none p2) v (.ref s3.heap.objs.size)) (EP X pins σ Q) X.xe { s3 with heap := s3.heap.push { cls := .type "slice", data := .fields #[vl, vu, .none] } }
  exact tail_any (ops := [.ref s3.heap.objs.size, v]) ht hT hg (by with_unfolding_all rfl)

def cutV (xs : List V) (lo hi : Option Int) : List V := (xs.drop (HT.sIx xs.length 0 lo)).take (HT.sIx xs.length xs.length hi - HT.sIx xs.length 0 lo)
theorem cutV_length (xs : List V) (lo hi : Option Int) : (cutV xs lo hi).length ≤ xs.length := by
  unfold cutV
  rw [List.length_take, List.length_drop]
  omega
end
end L2

namespace L2
open PySem PySem.Spec PyProof.Rows

def ixN (n : Nat) (i : Int) : Option Nat := if 0 ≤ i then (if i < n then some i.toNat else none) else if -(n : Int) ≤ i then some (i + n).toNat else none
def atI {α : Type} (xs : List α) (i : Int) : Option α := (ixN xs.length i).bind fun j => xs[j]?
theorem ixN_seq {n : Nat} {i : Int} {j : Nat} (h : ixN n i = some j) : seqIndex? i n = some j ∧ j < n ∧ -(n : Int) ≤ i ∧ i < n := by
  unfold ixN at h
  by_cases h0 : 0 ≤ i
  · rw [if_pos h0] at h
    by_cases h1 : i < n
    · rw [if_pos h1] at h
      have e : i.toNat = j := Option.some.inj h
      exact ⟨by rw [seqIndex_of h0 h1, e], by omega, by omega, h1⟩
    · rw [if_neg h1] at h; cases h
  · rw [if_neg h0] at h
    by_cases h1 : -(n : Int) ≤ i
    · rw [if_pos h1] at h
      have e : (i + n).toNat = j := Option.some.inj h
      exact ⟨by rw [seqIndex_neg (by omega) h1, e], by omega, h1, by omega⟩
    · rw [if_neg h1] at h; cases h
theorem atI_get {α : Type} {xs : List α} {i : Int} {v : α} (h : atI xs i = some v) : ∃ j, seqIndex? i xs.length = some j ∧ xs[j]? = some v ∧ j < xs.length ∧ -(xs.length : Int) ≤ i ∧ i < xs.length := by
  unfold atI at h
  cases e : ixN xs.length i with
  | none => rw [e] at h; cases h
  | some j =>
    rw [e] at h
    obtain ⟨h1, h2, h3, h4⟩ := ixN_seq e
    exact ⟨j, h1, h, h2, h3, h4⟩
theorem atI_nat {α : Type} {xs : List α} {j : Nat} {v : α} (h : xs[j]? = some v) : atI xs (j : Int) = some v := by
  have hj : j < xs.length := (List.getElem?_eq_some_iff.mp h).1
  have e : ixN xs.length (j : Int) = some j := by
    unfold ixN
    rw [if_pos (by omega), if_pos (by omega)]; simp
  unfold atI; rw [e]; exact h
def PlainIx (b : Expr) : Prop := ∀ o i, subscripted b false o i = operate [o, i] (getItem o i)
def IxR (X : Cx) (r : R2) : Prop :=
  ∀ (value slice : Expr) (pins : List (Addr × Obj)) (s : Shared) (σ : St) (H : Hp) (x y : V) (v u : Value) (Q : VK), Inv X pins σ H s → RelV x v → RelV y u → r x y H Q →
    subscripted slice false v u = operate [v, u] (getItem v u) → wpAny (model X.prog X.w) X.A (subscriptTail value slice v u) (EP X pins σ Q) X.xe s
def MtR (X : Cx) (id : String) (r : V → List V → Hp → VK → Prop) : Prop :=
  ∀ (pins : List (Addr × Obj)) (s : Shared) (σ : St) (H : Hp) (x : V) (xs : List V) (v : Value) (us : List Value) (Q : VK), Inv X pins σ H s → RelV x v → Vals xs us → r x xs H Q →
    wpAny (model X.prog X.w) X.A (call (.builtin id) (v :: us)) (EP X pins σ Q) X.xe s
section
variable {X : Cx} {a b : Expr} {ta tb : TE} {pos : Pos}
theorem pe_ix {r : R2} (hr : IxR X r) (ha : PE X a ta) (hb : PE X b tb) (hs : PlainIx b) : PE X (.Subscript a b pos) (tOp r ta tb) := by
  intro pins s σ H Q I h
  exact Subscript_ (binT ha hb I h fun v u s2 x y H2 I2 rx ry q => hr a b pins s2 σ H2 x y v u Q I2 rx ry q (hs _ _))

inductive RdIxL (K : PySem.W.Frag) (x y : V) (H : Hp) (Q : VK) : Prop
  | mk (p : Addr) (xs : List V) (i : Int) (v : V) (e : x = .ref p) (f : y = .int i) (h : SqL K H p xs) (l : atI xs i = some v) (q : Q v H) : RdIxL K x y H Q
def rIxL (K : PySem.W.Frag) : R2 := fun x y H Q => RdIxL K x y H Q
inductive RdIxT (K : PySem.W.Frag) (x y : V) (H : Hp) (Q : VK) : Prop
  | mk (p : Addr) (xs : List V) (i : Int) (v : V) (e : x = .ref p) (f : y = .int i) (h : SqT K H p xs) (l : atI xs i = some v) (q : Q v H) : RdIxT K x y H Q
def rIxT (K : PySem.W.Frag) : R2 := fun x y H Q => RdIxT K x y H Q
theorem ix_list : IxR X (rIxL X.K) := by
  intro value slice pins s σ H x y v u Q I rx ry h hs
  obtain ⟨p, xs, i, z, rfl, rfl, hq, he, q⟩ := h
  cases rx
  obtain ⟨t, rfl⟩ := ry
  obtain ⟨its, r, pl, hz⟩ := I.list hq
  obtain ⟨j, h1, h2, h3, h4, h5⟩ := atI_get he
  obtain ⟨w, ew, rw'⟩ := r.get h2
  have hl := r.length
  have hn := line63
  have fin : EP X pins σ Q w s := ⟨z, H, I, rw', q⟩
  by_cases h0 : 0 ≤ i
  · have hj : i.toNat = j := by
      rw [seqIndex_of h0 h5] at h1
      exact Option.some.inj h1
    exact item_listR pl.isList h0 (by omega) (by rw [hj]; simpa using ew) fin hs
  · have hj : (i + (its.toArray.size : Int)).toNat = j := by
      rw [seqIndex_neg (by omega) h4] at h1
      rw [List.size_toArray, ← hl]
      exact Option.some.inj h1
    exact subscriptTail_builtinR (x := w) pl.isList.typeIs slot_list_getitem.lookup
      (wpAny_getItem_list_neg (Q := fun r s' => r = w ∧ EP X pins σ Q r s') pl.isList (by omega) (by rw [List.size_toArray] <;> omega) (by omega) (by rw [hj]; simpa using ew) ⟨rfl, fin⟩) hs
theorem ix_tup : IxR X (rIxT X.K) := by
  intro value slice pins s σ H x y v u Q I rx ry h hs
  obtain ⟨p, xs, i, z, rfl, rfl, hq, he, q⟩ := h
  cases rx
  obtain ⟨t, rfl⟩ := ry
  obtain ⟨its, r, pl, hz⟩ := I.tuple hq
  obtain ⟨j, h1, h2, h3, h4, h5⟩ := atI_get he
  obtain ⟨w, ew, rw'⟩ := r.get h2
  have hl := r.length
  have hn := line63
  have fin : EP X pins σ Q w s := ⟨z, H, I, rw', q⟩
  exact subscriptTail_builtinR (x := w) pl.typeIs slot_tuple_getitem.lookup
    (getItem_tuple (j := j) (Q := fun r s' => r = w ∧ EP X pins σ Q r s') pl (by omega) (by omega) (by rw [List.size_toArray, ← hl]; exact h1) (by simpa using ew) ⟨rfl, fin⟩) hs
theorem slice_bounds (lo hi : Option Int) (n : Nat) : (sliceBounds lo hi none n).1 = ((HT.sIx n 0 lo : Nat) : Int) ∧ (sliceBounds lo hi none n).2.1 = ((HT.sIx n n hi : Nat) : Int) ∧ (sliceBounds lo hi none n).2.2 = 1 := by
  refine ⟨?_, ?_, rfl⟩
  · cases lo with
    | none => simp [sliceBounds, HT.sIx]
    | some i =>
      simp only [sliceBounds, HT.sIx, Option.getD_none, show (1 : Int) > 0 by decide, if_true]
      by_cases h : i < 0
      · simp only [h, if_true] <;> omega
      · simp only [h, if_false] <;> omega
  · cases hi with
    | none => simp [sliceBounds, HT.sIx]
    | some i =>
      simp only [sliceBounds, HT.sIx, Option.getD_none, show (1 : Int) > 0 by decide, if_true]
      by_cases h : i < 0
      · simp only [h, if_true] <;> omega
      · simp only [h, if_false] <;> omega
theorem slicePick_cut (its : List Value) (lo hi : Option Int) : slicePick its.toArray lo hi none = ((its.drop (HT.sIx its.length 0 lo)).take (HT.sIx its.length its.length hi - HT.sIx its.length 0 lo)).toArray := by
  obtain ⟨h1, h2, h3⟩ := slice_bounds lo hi its.toArray.size
  unfold slicePick
  rw [h1, h2, h3]
  simp only [sliceRange_one, pick_run, List.size_toArray] <;> rfl
inductive RdSl (K : PySem.W.Frag) (x : V) (lo hi : Option Int) (H : Hp) (Q : VK) : Prop
  | mk (a : Addr) (xs : List V) (e : x = .ref a) (h : SqL K H a xs) (q : ∀ p, H p = none → Q (.ref p) (upd H p (.lst (cutV xs lo hi)))) : RdSl K x lo hi H Q
def rSlL (K : PySem.W.Frag) : V → Option Int → Option Int → Hp → VK → Prop := fun x lo hi H Q => RdSl K x lo hi H Q
theorem sl_list : SlR X (rSlL X.K) := by
  intro pins s σ H x v vl vu lo hi sl Q I rx hs pl pu h
  obtain ⟨a, xs, rfl, hx, q⟩ := h
  cases rx
  obtain ⟨its, r, ht, hz⟩ := I.list hx
  have hlen := r.length
  refine ⟨"list", _, slot_list_getitem.lookup, ht.isList.typeIs, ?_⟩
  refine wpAny_getItem_list_slice ht.isList hs pl pu .none (by simp) ?_ (by rw [List.size_toArray] <;> omega)
  rw [slicePick_cut, ← hlen]
  refine ⟨.ref s.heap.objs.size, _, I.laid (t' := s.toks) (o := .lst (cutV xs lo hi)) (fun b ob q => Heap.get?_push_of_some _ q) (Nat.le_refl _) ?_, rfl, q _ (I.hok.fresh (Nat.le_refl _))⟩
  exact ⟨Nat.le_trans (cutV_length xs lo hi) hz, _, 0, (r.drop (HT.sIx xs.length 0 lo)).take (HT.sIx xs.length xs.length hi - HT.sIx xs.length 0 lo), Heap.get?_push_size _ rfl⟩

theorem call_len_seq : CallR X (.builtin "len") (fun xs H Q => ∃ p ys, xs = [.ref p] ∧ (SqL X.K H p ys ∨ SqT X.K H p ys) ∧ Q (.int ys.length) H) := by
  intro pins s σ H xs us Q I r h
  obtain ⟨p, ys, rfl, hq, q⟩ := h
  obtain ⟨u, rfl, rx⟩ := vals1 r
  cases rx
  have hn := line63
  rcases hq with hq | hq
  · obtain ⟨its, r', pl, hz⟩ := I.list hq
    have hlen := r'.length
    exact Calls.call_len_list pl.isList (by simp only [List.size_toArray] <;> omega) ⟨.int ys.length, H, I.tok _, ⟨s.toks + 1, by rw [List.size_toArray, hlen]⟩, q⟩
  · obtain ⟨its, r', pl, hz⟩ := I.tuple hq
    have hlen := r'.length
    exact len_tuple pl (by simp only [List.size_toArray] <;> omega) ⟨.int ys.length, H, I.tok _, ⟨s.toks + 1, by rw [List.size_toArray, hlen]⟩, q⟩
def tyV (K : PySem.W.Frag) (T : String) (x : V) (H : Hp) : Prop := match x with
  | .str _ => T = "str"
  | .int _ => T = "int"
  | .ref p => (T = "list" ∧ ∃ xs, SqL K H p xs) ∨ (T = "tuple" ∧ ∃ o, K.lookup p = some o ∧ o.cls = .type "tuple" ∧ o.dict = none) ∨
      (T = "dict" ∧ ((∃ kvs, H p = some (.dK kvs)) ∨ ∃ kvs, H p = some (.dT kvs))) ∨ (T = "set" ∧ ∃ S n, H p = some (.set S n))
  | _ => False
theorem tyV_is {pins : List (Addr × Obj)} {σ : St} {H : Hp} {s : Shared} {T : String} {x : V} {v : Value} (I : Inv X pins σ H s) (r : RelV x v) (ty : tyV X.K T x H) :
    s.TypeIs v T ∧ ∀ a, v = .ref a → ∃ ob, s.heap.get? a = some ob ∧ ob.dict = none := by
  cases x with
  | str z =>
    obtain ⟨t, rfl⟩ := r
    cases (show T = "str" from ty)
    exact ⟨typeIs_str s z t, fun _ e => nomatch e⟩
  | int i =>
    obtain ⟨t, rfl⟩ := r
    cases (show T = "int" from ty)
    exact ⟨typeIs_int s i t, fun _ e => nomatch e⟩
  | ref p =>
    cases r
    rcases ty with ⟨rfl, xs, hq⟩ | ⟨rfl, o, hk, hc, hd⟩ | ⟨rfl, hk⟩ | ⟨rfl, S, n, hk⟩
    · obtain ⟨its, _, pl, _⟩ := I.list hq
      refine ⟨pl.isList.typeIs, fun a e => ?_⟩
      cases e
      obtain ⟨o, n, e, c, hd, _⟩ := pl
      exact ⟨o, e, hd⟩
    · refine ⟨⟨o, I.kIn p o hk, hc⟩, fun a e => ?_⟩
      cases e
      exact ⟨o, I.kIn _ o hk, hd⟩
    · have z : ∃ o, s.heap.get? p = some o ∧ o.ExactDict := by
        rcases hk with ⟨kvs, hk⟩ | ⟨kvs, hk⟩
        · obtain ⟨_, _, _, _, o, _, _, e, ex, _⟩ := I.hok p _ hk
          exact ⟨o, e, ex⟩
        · obtain ⟨_, _, _, _, o, _, _, e, ex, _⟩ := I.hok p _ hk
          exact ⟨o, e, ex⟩
      obtain ⟨o, e, ex⟩ := z
      refine ⟨⟨o, e, ex.1⟩, fun a e2 => ?_⟩
      cases e2
      exact ⟨o, e, ex.2.1⟩
    · obtain ⟨o, _, _, _, e, ex, _⟩ := I.hok p _ hk
      refine ⟨⟨o, e, ex.1⟩, fun a e2 => ?_⟩
      cases e2
      exact ⟨o, e, ex.2.1⟩
  | _ => exact False.elim ty
def tBM (K : PySem.W.Frag) (T : String) (r : V → List V → Hp → VK → Prop) (to : TE) (t : TA) : TE := fun σ H Q => to σ H fun x H1 => tyV K T x H1 ∧ t σ H1 fun xs H2 => r x xs H2 Q
variable {o e : Expr} {es : List Expr} {to : TE} {t : TA} {name : Str} {apos cpos : Pos} {T id : String} {r : V → List V → Hp → VK → Prop}
theorem pe_bm (pa : PlainAttrs T) (slot : Slot T name id) (hty : typeOf (.builtin id) = pure (.type "method_descriptor")) (hm : MtR X id r) (ho : PE X o to) (ha : PA X (e :: es) t)
    (hbase : attributeBase o name X.env (eval o X.env) = eval o X.env := by rfl)
    (hfew : ((backTo cpos (starEach (e :: es) X.env)).all (fun x => !x.1) && (backToKw cpos (keywordEach [] X.env)).all (fun x => x.1.isSome)
      && decide ((e :: es).length + ([] : List Keyword).length + (if ([] : List Keyword).isEmpty then 0 else 1) < 30)) = true := by rfl)
    (hline : (apos.endLine == cpos.line) = true := by rfl) (hs : starEach (e :: es) X.env = (false, eval e X.env) :: starEach es X.env := by rfl) (hplain : (backTo cpos (starEach es X.env)).any (·.1) = false := by rfl) :
    PE X (.Call (.Attribute o name apos) (e :: es) [] cpos) (tBM X.K T r to t) := by
  intro pins s σ H Q I h
  refine wpAny_Call_method_late hbase hfew hline rfl (thn (ho pins s σ H _ I h) fun v s1 ⟨x, H1, I1, r1, ty, q1⟩ => ?_)
  obtain ⟨h1, h2⟩ := tyV_is I1 r1 ty
  refine ⟨T, id, pa, slot, hty, h1, h2, ?_⟩
  have hA := ha cpos pins s1 σ H1 _ I1 q1
  rw [hs] at hA ⊢
  refine Calls.callWith_builtin (by show (false || (backTo cpos (starEach es X.env)).any (·.1)) = false; rw [hplain] <;> rfl) (Calls.evalArgs_plain ?_)
  exact thn hA fun us s2 ⟨vs, H2, I2, r2, q2⟩ => hm pins s2 σ H2 x vs v us Q I2 r1 r2 q2
end
end L2

namespace L2
open PySem PySem.Spec PyProof.Rows

def MtM (X : Cx) (id : String) (r : V → List V → Hp → VK → Prop) : Prop :=
  ∀ (pins : List (Addr × Obj)) (s : Shared) (σ : St) (H : Hp) (x : V) (xs : List V) (v : Value) (us : List Value) (Q : VK), Inv X pins σ H s → RelV x v → Vals xs us → r x xs H Q →
    wpAny (model X.prog X.w) X.A (call (.builtin id) (v :: us)) (EP X pins σ Q) X.xe s

theorem Vals.one : ∀ {x : V} {us : List Value}, Vals [x] us → ∃ u, us = [u] ∧ RelV x u
  | _, _, .cons r .nil => ⟨_, rfl, r⟩
section
variable {X : Cx} {pins : List (Addr × Obj)} {σ : St} {H : Hp} {s : Shared} {l b : Addr} {xs ys zs : List V}

theorem Inv.lset {its its' : List Value} {n : Nat} {f : Array Value → Array Value} {t' : Nat} (I : Inv X pins σ H s) (hH : H l = some (.lst xs))
    (e : s.heap.get? l = some { cls := .type "list", data := .seq its.toArray n }) (hf : f its.toArray = its'.toArray) (hv : Vals ys its') (hz : ys.length ≤ sizeLine) :
    Inv X pins σ (upd H l (.lst ys)) { s with heap := s.heap.update l (Obj.mapSeq f), toks := t' } := by
  have q := PySem.IsL.update e f
  rw [hf] at q
  refine I.write (x := l) (e := l) (by rw [hH]; exact trivial) (.inl rfl) (fun b' u hb hu => (Heap.get?_update_other s.heap (Obj.mapSeq f) (Ne.symm hb)).trans hu) ⟨_, q⟩ ?_
  exact ⟨hz, its', _, hv, q⟩
theorem Inv.lnew {its : List Value} {t' : Nat} (I : Inv X pins σ H s) (hv : Vals ys its) (hz : ys.length ≤ sizeLine) :
    Inv X pins σ (upd H s.heap.objs.size (.lst ys)) { s with heap := s.heap.push { cls := .type "list", data := .seq its.toArray }, toks := t' } :=
  I.laid (fun _ _ q => Heap.get?_push_of_some _ q) (Nat.le_refl _) ⟨hz, its, 0, hv, Heap.get?_push_size _ rfl⟩
theorem Inv.fresh (I : Inv X pins σ H s) : H s.heap.objs.size = none := I.hok.fresh (Nat.le_refl _)
theorem Inv.lstM (I : Inv X pins σ H s) (hH : H l = some (.lst xs)) : xs.length ≤ sizeLine ∧ ∃ (its : List Value) (n : Nat), Vals xs its ∧ xs.length = its.length ∧ s.heap.get? l = some { cls := .type "list", data := .seq its.toArray n } := by
  obtain ⟨z, its, n, r, e⟩ := I.hok l _ hH
  exact ⟨z, its, n, r, r.length, e⟩

theorem notLongL {n : Nat} (h : n ≤ sizeLine) : Builtin.List.listTooLong n = false := by
  unfold Builtin.List.listTooLong
  exact decide_eq_false (by omega)
end

section
variable {X : Cx}

inductive RdApp (x : V) (vs : List V) (H : Hp) (Q : VK) : Prop
  | mk (l : Addr) (xs : List V) (y : V) (e : x = .ref l) (f : vs = [y]) (h : H l = some (.lst xs)) (z : xs.length < sizeLine) (q : Q .non (upd H l (.lst (xs ++ [y])))) : RdApp x vs H Q
def rAppend : V → List V → Hp → VK → Prop := fun x vs H Q => RdApp x vs H Q
theorem mt_append : MtM X "list.append" rAppend := by
  intro pins s σ H x vs v us Q I rx rv h
  obtain ⟨l, xs, y, rfl, rfl, hH, hz, q⟩ := h
  cases rx
  obtain ⟨u, rfl, ru⟩ := rv.one
  obtain ⟨z, its, n, r, hl, e⟩ := I.lstM hH
  refine call_meets F.slot_list_append ⟨_, e, rfl⟩ F.entry_list_append (F.args_list_append_2 _ _) (PySem.list_append l its.toArray n u (by rw [List.size_toArray]; omega)) ⟨e, ?_⟩
  refine ⟨.non, _, I.lset (its' := its ++ [u]) hH e (by simp) (r.append (.cons ru .nil)) ?_, rfl, q⟩
  rw [List.length_append, List.length_singleton]
  omega

inductive RdExt (x : V) (vs : List V) (H : Hp) (Q : VK) : Prop
  | mk (l b : Addr) (xs zs : List V) (e : x = .ref l) (f : vs = [.ref b]) (h : H l = some (.lst xs)) (g : H b = some (.lst zs)) (z : xs.length + zs.length ≤ sizeLine) (q : Q .non (upd H l (.lst (xs ++ zs)))) : RdExt x vs H Q
def rExtend : V → List V → Hp → VK → Prop := fun x vs H Q => RdExt x vs H Q
theorem mt_extend : MtM X "list.extend" rExtend := by
  intro pins s σ H x vs v us Q I rx rv h
  obtain ⟨l, b, xs, zs, rfl, rfl, hH, hB, hz, q⟩ := h
  cases rx
  obtain ⟨u, rfl, ru⟩ := rv.one
  cases ru
  obtain ⟨z, its, n, r, hl, e⟩ := I.lstM hH
  obtain ⟨z2, its2, n2, r2, hl2, e2⟩ := I.lstM hB
  have hsz : its.toArray.size + its2.toArray.size ≤ sizeLine := by rw [List.size_toArray, List.size_toArray]; omega
  have hlong : ¬ (!its.toArray.isEmpty && Builtin.List.listTooLong (its.toArray.size + its2.toArray.size)) = true := by
    rw [notLongL hsz, Bool.and_false]
    exact Bool.false_ne_true
  refine call_meets F.slot_list_extend ⟨_, e, rfl⟩ F.entry_list_extend (F.args_list_extend_2 _ _)
    (AutoSeq1.list_extend_list_list_0 l its.toArray n b its2.toArray n2 hlong (by rw [List.size_toArray]; omega) (by omega)) ⟨e, e2, ?_⟩
  refine ⟨.non, _, I.lset (its' := its ++ its2) hH e (by simp) (r.append r2) ?_, rfl, q⟩
  rw [List.length_append]
  omega

inductive RdCat (x y : V) (H : Hp) (Q : VK) : Prop
  | mk (l b : Addr) (xs zs : List V) (e : x = .ref l) (f : y = .ref b) (h : H l = some (.lst xs)) (g : H b = some (.lst zs)) (z : xs.length + zs.length ≤ sizeLine) (q : ∀ p, H p = none → Q (.ref p) (upd H p (.lst (xs ++ zs)))) : RdCat x y H Q
def rCat : R2 := fun x y H Q => RdCat x y H Q
theorem op_cat : OpR X (binaryOp .Add) rCat := by
  intro pins s σ H x y v u Q I rx ry h
  obtain ⟨l, b, xs, zs, rfl, rfl, hH, hB, hz, q⟩ := h
  cases rx
  cases ry
  obtain ⟨z, its, n, r, hl, e⟩ := I.lstM hH
  obtain ⟨z2, its2, n2, r2, hl2, e2⟩ := I.lstM hB
  refine PySem.P.add_list e e2 ?_ (by rw [List.size_toArray, List.size_toArray]; omega)
  have ea : its.toArray ++ its2.toArray = (its ++ its2).toArray := by simp
  rw [ea]
  exact ⟨.ref _, _, I.lnew (t' := s.toks) (r.append r2) (by rw [List.length_append]; omega), rfl, q _ I.fresh⟩
end

section
variable {prog : Program} {w : World} {A : Around} {E : Value → Shared → Prop} {s : Shared}
set_option maxRecDepth 100000 in
end

section
variable {X : Cx}
end
end L2

namespace L2
open PySem PySem.Spec PyProof.Rows

theorem vals_of_ints : ∀ {us : List Value} {ns : List Int}, IntsAre us ns → Vals (ns.map V.int) us
  | _, _, .nil => by rw [List.map_nil]; exact Paired.nil
  | _, _, .cons n t h => by rw [List.map_cons]; exact Paired.cons (show RelV (V.int n) (Value.int n t) from ⟨t, rfl⟩) (vals_of_ints h)
theorem Vals.ref1 {a : Addr} {us : List Value} (r : Vals [V.ref a] us) : us = [Value.ref a] := by
  cases r with
  | cons r t =>
    cases t
    cases r
    rfl
section
variable {prog : Program} {w : World} {A : Around} {E : Value → Shared → Prop} {s : Shared} {l : Addr} {its : List Value} {ns : List Int} {Q : Value → Shared → Prop}
end

section
variable {X : Cx}
end

section
variable {X : Cx}
end

section
variable {X : Cx}
end

section
variable {X : Cx}
end

section
variable {X : Cx} {pins : List (Addr × Obj)} {σ : St} {H : Hp} {s : Shared}
end
section
variable {X : Cx}
end
end L2

namespace L2
open PySem PySem.Spec PyProof.Rows
abbrev CellAt (h : Heap) (c : Addr) (v : Option Value) : Prop := h.IsCell c v
def relS (scope sc : Scope) : Scope :=
  { scope with names := scope.names.map fun (n, k) => if (k == .free && sc.kind == .function && sc.names.lookup n == some .cell) then (n, .cell) else (n, k) }

def cloFrom (cells : List (Str × Addr)) : List (Str × NameKind) → List (Str × Addr) → List (Str × Addr)
  | [], acc => acc
  | (n, k) :: r, acc => if k == .free then cloFrom cells r ((n, (cells.lookup n).getD 0) :: acc) else cloFrom cells r acc

theorem closure_loop (env : Env) (f : Str × NameKind → List (Str × Addr) → Sem (ForInStep (List (Str × Addr))))
    (hf : ∀ n k c, f (n, k) c = if k == .free then (do let a ← cellOf env n; pure (.yield ((n, a) :: c))) else pure (.yield c)) :
    ∀ (names : List (Str × NameKind)) (acc : List (Str × Addr)), (∀ y ∈ names, y.2 = .free → ∃ c, env.cells.lookup y.1 = some c) → forIn names acc f = pure (cloFrom env.cells names acc)
  | [], acc, _ => by rw [List.forIn_nil]; rfl
  | (n, k) :: r, acc, h => by
    rw [List.forIn_cons, hf]
    have ih := fun acc => closure_loop env f hf r acc fun y hy => h y (List.mem_cons_of_mem _ hy)
    unfold cloFrom
    by_cases hk : (k == NameKind.free) = true
    · rw [if_pos hk, if_pos hk]
      obtain ⟨c, hc⟩ := h (n, k) List.mem_cons_self (by simpa using hk)
      have e : cellOf env n = pure c := by unfold cellOf; rw [hc]
      rw [e]
      have e2 : (env.cells.lookup n).getD 0 = c := by rw [hc]; rfl
      rw [e2]
      exact ih _
    · rw [if_neg hk, if_neg hk]
      exact ih _
theorem closure_ok {scope : Scope} {env : Env} (h : ∀ y ∈ scope.names, y.2 = .free → ∃ c, env.cells.lookup y.1 = some c) : closureFor scope env = pure (cloFrom env.cells scope.names []) := by
  simp only [closureFor]
  rw [closure_loop env _ (fun n k c => rfl) scope.names [] h]
  rfl

theorem mem_lookup {α : Type} : ∀ {l : List (Str × α)} {n : Str} {c : α}, (n, c) ∈ l → ∃ c', l.lookup n = some c'
  | (k, v) :: r, n, c, h => by
    rw [List.lookup_cons]
    cases hb : n == k with
    | true => exact ⟨_, rfl⟩
    | false =>
      rcases List.mem_cons.mp h with e | h
      · cases e; simp at hb
      · exact mem_lookup h

theorem cloFrom_mem {cells : List (Str × Addr)} : ∀ {names : List (Str × NameKind)} {acc : List (Str × Addr)} {n : Str} {c : Addr}, (n, c) ∈ cloFrom cells names acc → (n, c) ∈ acc ∨ ((n, .free) ∈ names ∧ c = (cells.lookup n).getD 0)
  | [], _, _, _, h => .inl h
  | (m, k) :: r, acc, n, c, h => by
    unfold cloFrom at h
    split at h
    · rename_i hk
      have hk : k = .free := by simpa using hk
      rcases cloFrom_mem h with h | ⟨h1, h2⟩
      · rcases List.mem_cons.mp h with e | h
        · cases e; exact .inr ⟨hk ▸ List.mem_cons_self, rfl⟩
        · exact .inl h
      · exact .inr ⟨List.mem_cons_of_mem _ h1, h2⟩
    · rcases cloFrom_mem h with h | ⟨h1, h2⟩
      · exact .inl h
      · exact .inr ⟨List.mem_cons_of_mem _ h1, h2⟩
theorem cloFrom_acc {cells : List (Str × Addr)} : ∀ {names : List (Str × NameKind)} {acc : List (Str × Addr)} {p : Str × Addr}, p ∈ acc → p ∈ cloFrom cells names acc
  | [], _, _, h => h
  | (m, k) :: r, acc, p, h => by
    unfold cloFrom
    split
    · exact cloFrom_acc (List.mem_cons_of_mem _ h)
    · exact cloFrom_acc h
theorem cloFrom_has {cells : List (Str × Addr)} : ∀ {names : List (Str × NameKind)} {acc : List (Str × Addr)} {n : Str}, (n, .free) ∈ names → (n, (cells.lookup n).getD 0) ∈ cloFrom cells names acc
  | (m, k) :: r, acc, n, h => by
    unfold cloFrom
    rcases List.mem_cons.mp h with e | h
    · cases e
      exact cloFrom_acc List.mem_cons_self
    · split
      · exact cloFrom_has h
      · exact cloFrom_has h

theorem cells_mem : ∀ {names : List (Str × NameKind)} {h : Heap} {acc : List (Str × Addr)} {x : Str} {c : Addr}, (x, c) ∈ cellsFrom h.objs.size names acc →
    (x, c) ∈ acc ∨ ((x, .cell) ∈ names ∧ h.objs.size ≤ c ∧ CellAt (pushCells h names) c none)
  | [], _, _, _, _, h => .inl h
  | (n, k) :: r, h, acc, x, c, hm => by
    unfold cellsFrom at hm
    unfold pushCells
    split at hm
    · rename_i hk
      rw [if_pos hk]
      have hk : k = .cell := by simpa using hk
      rw [← Heap.size_push h { cls := .type "cell", data := .cell none }] at hm
      rcases cells_mem hm with hm | ⟨h1, h2, h3⟩
      · rcases List.mem_cons.mp hm with e | hm
        · cases e
          exact .inr ⟨hk ▸ List.mem_cons_self, Nat.le_refl _, _, pushCells_keeps r _ _ _ (Heap.get?_push_size _ rfl), rfl⟩
        · exact .inl hm
      · rw [Heap.size_push] at h2
        exact .inr ⟨List.mem_cons_of_mem _ h1, Nat.le_of_succ_le h2, h3⟩
    · rename_i hk
      rw [if_neg hk]
      rcases cells_mem hm with hm | ⟨h1, h2, h3⟩
      · exact .inl hm
      · exact .inr ⟨List.mem_cons_of_mem _ h1, h2, h3⟩
theorem cells_acc : ∀ {names : List (Str × NameKind)} {n : Nat} {acc : List (Str × Addr)} {p : Str × Addr}, p ∈ acc → p ∈ cellsFrom n names acc
  | [], _, _, _, h => h
  | (m, k) :: r, n, acc, p, h => by
    unfold cellsFrom
    split
    · exact cells_acc (List.mem_cons_of_mem _ h)
    · exact cells_acc h
theorem cells_has : ∀ {names : List (Str × NameKind)} {n : Nat} {acc : List (Str × Addr)} {x : Str}, (x, .cell) ∈ names → ∃ c, (x, c) ∈ cellsFrom n names acc
  | (m, k) :: r, n, acc, x, h => by
    unfold cellsFrom
    rcases List.mem_cons.mp h with e | h
    · cases e
      exact ⟨n, cells_acc List.mem_cons_self⟩
    · split
      · exact cells_has h
      · exact cells_has h
theorem cells_inj : ∀ {names : List (Str × NameKind)} {h : Heap} {acc : List (Str × Addr)} {x y : Str} {c : Addr}, (∀ p ∈ acc, p.2 < h.objs.size) → (∀ x y c, (x, c) ∈ acc → (y, c) ∈ acc → x = y) →
    (x, c) ∈ cellsFrom h.objs.size names acc → (y, c) ∈ cellsFrom h.objs.size names acc → x = y
  | [], _, _, _, _, _, _, hi, h1, h2 => hi _ _ _ h1 h2
  | (n, k) :: r, h, acc, x, y, c, hl, hi, h1, h2 => by
    unfold cellsFrom at h1 h2
    split at h1
    · rename_i hk
      rw [if_pos hk] at h2
      rw [← Heap.size_push h { cls := .type "cell", data := .cell none }] at h1 h2
      refine cells_inj (h := h.push _) (fun p hp => ?_) (fun x y c a b => ?_) h1 h2
      · rw [Heap.size_push]
        rcases List.mem_cons.mp hp with rfl | hp
        · exact Nat.lt_succ_self _
        · exact Nat.lt_succ_of_lt (hl p hp)
      · rcases List.mem_cons.mp a with e | a <;> rcases List.mem_cons.mp b with e' | b
        · cases e; cases e'; rfl
        · cases e; exact absurd (hl _ b) (Nat.lt_irrefl _)
        · cases e'; exact absurd (hl _ a) (Nat.lt_irrefl _)
        · exact hi _ _ _ a b
    · rename_i hk
      rw [if_neg hk] at h2
      exact cells_inj hl hi h1 h2

theorem newEnv_comp {M : Model} {A : Around} {E : Value → Shared → Prop} {s : Shared} {scope : Scope} {globals : Addr} {closure : List (Str × Addr)} {qual : Str} {func : Option Addr} {code : Value} {around : Env} {builtins : Addr} {Q : Env → Shared → Prop}
    (h : Q (newEnv scope s.heap.objs.size globals (cellsFrom (s.heap.objs.size + 1) scope.names closure) qual func code (some around) builtins)
      { s with heap := pushCells (s.heap.push { cls := .type "dict", data := .dict #[] }) scope.names }) :
    wpAny M A (newFunctionEnv scope globals closure [] qual func code (some around) builtins) Q E s := by
  simp only [newFunctionEnv, Option.isSome_some, if_true]
  refine wpAny_bind (wpAny_alloc ?_)
  refine wpAny_bind (wpAny_layCells _ (fun n k c => rfl) scope.names closure _ _ ?_)
  rw [show ({ s with heap := s.heap.push { cls := .type "dict", data := .dict #[] } } : Shared).heap.objs.size = s.heap.objs.size + 1 from Heap.size_push ..]
  rw [List.forIn_nil]
  exact wpAny_bind (wpAny_pure (wpAny_pure h))

theorem lookup_relS {sc : Scope} : ∀ {names : List (Str × NameKind)} {x : Str} {k : NameKind},
    (names.map fun (n, k) => if (k == NameKind.free && sc.kind == .function && sc.names.lookup n == some .cell) then (n, NameKind.cell) else (n, k)).lookup x = some k →
    ∃ k', names.lookup x = some k' ∧ (k = k' ∨ (k' = .free ∧ k = .cell))
  | [], _, _, h => by simp at h
  | (n, k₀) :: r, x, k, h => by
    have ih := @lookup_relS sc r x k
    have h' : List.lookup x ((if (k₀ == NameKind.free && sc.kind == .function && sc.names.lookup n == some .cell) = true then (n, NameKind.cell) else (n, k₀)) :: (r.map _)) = some k := h
    cases hx : x == n with
    | true =>
      simp only [List.lookup_cons, hx]
      by_cases hc : (k₀ == NameKind.free && sc.kind == .function && sc.names.lookup n == some .cell) = true
      · rw [if_pos hc] at h'
        simp only [List.lookup_cons, hx] at h'
        cases h'
        simp only [Bool.and_eq_true, beq_iff_eq] at hc
        exact ⟨k₀, rfl, .inr ⟨hc.1.1, rfl⟩⟩
      · rw [if_neg hc] at h'
        simp only [List.lookup_cons, hx] at h'
        cases h'
        exact ⟨_, rfl, .inl rfl⟩
    | false =>
      simp only [List.lookup_cons, hx]
      by_cases hc : (k₀ == NameKind.free && sc.kind == .function && sc.names.lookup n == some .cell) = true
      · rw [if_pos hc] at h'
        simp only [List.lookup_cons, hx] at h'
        exact ih h'
      · rw [if_neg hc] at h'
        simp only [List.lookup_cons, hx] at h'
        exact ih h'
structure BlkOk (N : List Str) (sc scope : Scope) (own : List (Str × Nat)) : Prop where
  kind : scope.kind = .function
  uniq : ∀ y ∈ scope.names, scope.names.lookup y.1 = some y.2
  ix : ∀ p ∈ own, N[p.2]? = some p.1
  free : ∀ y ∈ scope.names, y.2 = .free → sc.names.lookup y.1 = some .cell ∨ sc.names.lookup y.1 = some .free
  own : ∀ y ∈ scope.names, y.2 = .local ∨ y.2 = .cell → y.1 ∈ own.map (·.1) ∨ y.1 ∉ N
def wipe (σ : St) : List Nat → St
  | [] => σ
  | v :: vs => (wipe σ vs).set v none
theorem wipe_length (σ : St) : ∀ vs : List Nat, (wipe σ vs).length = σ.length
  | [] => rfl
  | v :: vs => by unfold wipe; rw [List.length_set, wipe_length σ vs]
theorem wipe_some {σ : St} {i : Nat} {x : V} : ∀ {vs : List Nat}, (wipe σ vs)[i]? = some (some x) → σ[i]? = some (some x) ∧ i ∉ vs
  | [], h => ⟨h, by simp⟩
  | v :: vs, h => by
    unfold wipe at h
    by_cases hi : v = i
    · subst hi
      by_cases hv : v < (wipe σ vs).length
      · rw [List.getElem?_set_self hv] at h; cases h
      · rw [List.getElem?_eq_none (by simpa using hv)] at h; cases h
    · rw [List.getElem?_set_ne hi] at h
      obtain ⟨h1, h2⟩ := wipe_some h
      exact ⟨h1, by simp only [List.mem_cons, not_or]; exact ⟨fun e => hi e.symm, h2⟩⟩

abbrev Cx.blk (X : Cx) (s : Shared) (H : Hp) (scope : Scope) (cenv : Env) (fp : List Addr) : Cx := { X with s_0 := s, H_0 := H, env := cenv, outer := X.stack, ex := fp, fn := fun x => scope.names.lookup x == some .cell, pn := [], xe := fun _ _ => False }
section
variable {X : Cx} {pins : List (Addr × Obj)} {σ : St} {H : Hp} {s : Shared}
theorem block_start {scope : Scope} {own : List (Str × Nat)} {fp : List Addr} (I : Inv X pins σ H s) (ok : BlkOk X.N X.env.scope scope own) (hN : X.N.Nodup) (hfp : ∀ b ∈ fp, FpOk X pins H b ∧ b < s.heap.objs.size) :
    Inv (X.blk s H scope (compEnvC scope (cellsFrom (s.heap.objs.size + 1) scope.names (cloFrom X.env.cells scope.names [])) s.heap.objs.size X.env) fp) [] (wipe σ (own.map (·.2))) H { s with heap := pushCells (s.heap.push { cls := .type "dict", data := .dict #[] }) scope.names } := by
  have hfree : ∀ y ∈ scope.names, y.2 = .free → ∃ c, X.env.cells.lookup y.1 = some c := fun y hy e => by
    rcases ok.free y hy e with k | k
    · exact I.ok.has _ (.inl k)
    · exact I.ok.has _ (.inr k)
  generalize hcenv : compEnvC scope (cellsFrom (s.heap.objs.size + 1) scope.names (cloFrom X.env.cells scope.names [])) s.heap.objs.size X.env = cenv
  have kp : ∀ b o, s.heap.get? b = some o → (pushCells (s.heap.push { cls := .type "dict", data := .dict #[] }) scope.names).get? b = some o := fun b o e => pushCells_keeps _ _ _ _ (Heap.get?_push_of_some _ e)
  have hL : cenv.locals = s.heap.objs.size := by rw [← hcenv]; rfl
  have hcl : cenv.cells = cellsFrom (s.heap.objs.size + 1) scope.names (cloFrom X.env.cells scope.names []) := by rw [← hcenv]; rfl
  have hsc : cenv.scope = relS scope X.env.scope := by rw [← hcenv]; rfl
  rw [← Heap.size_push s.heap { cls := .type "dict", data := .dict #[] }] at hcl
  have cm : ∀ {y c}, (y, c) ∈ cloFrom X.env.cells scope.names [] → X.env.cells.lookup y = some c ∧ c < s.heap.objs.size := fun {y c} hm => by
    rcases cloFrom_mem hm with hm | ⟨h1, rfl⟩
    · cases hm
    · obtain ⟨c, hc⟩ := hfree _ h1 rfl
      rw [hc]
      obtain ⟨w, z⟩ := I.cell _ _ hc
      exact ⟨rfl, z.lt⟩
  have mem : ∀ {y c}, cenv.cells.lookup y = some c → (X.env.cells.lookup y = some c ∧ c < s.heap.objs.size) ∨ (s.heap.objs.size + 1 ≤ c ∧ CellAt (pushCells (s.heap.push { cls := .type "dict", data := .dict #[] }) scope.names) c none) := fun {y c} e => by
    rw [hcl] at e
    rcases cells_mem (PySem.mem_of_lookup e) with hm | ⟨_, h2, h3⟩
    · exact .inl (cm hm)
    · rw [Heap.size_push] at h2; exact .inr ⟨h2, h3⟩
  have look : ∀ {y}, scope.names.lookup y = some .free → ∃ c, cenv.cells.lookup y = some c ∧ X.env.cells.lookup y = some c := fun {y} hl => by
    have hy : (y, NameKind.free) ∈ scope.names := PySem.mem_of_lookup hl
    obtain ⟨c', e'⟩ := mem_lookup (cells_acc (names := scope.names) (n := (s.heap.push { cls := .type "dict", data := .dict #[] }).objs.size) (cloFrom_has (cells := X.env.cells) (acc := []) hy))
    rw [← hcl] at e'
    refine ⟨c', e', ?_⟩
    rw [hcl] at e'
    rcases cells_mem (PySem.mem_of_lookup e') with hm | ⟨h1, _, _⟩
    · exact (cm hm).1
    · have := ok.uniq _ h1
      rw [hl] at this; cases this
  have okB : (X.blk s H scope cenv fp).Ok := by
    refine ⟨I.ok.mod, by show cenv.scope.kind = _; rw [hsc]; exact ok.kind, by show cenv.globals = _; rw [← hcenv]; exact I.ok.glob, by show cenv.builtins = _; rw [← hcenv]; exact I.ok.blt, by show s.heap.objs.size ≤ cenv.locals; rw [hL]; exact Nat.le_refl _,
      fun y z c e1 e2 => ?_, fun y hy => ?_, fun y c z e => ?_, I.ok.hd, I.ok.frames, .inl rfl, fun b hb => ⟨?_, fun y c e z => ?_⟩, I.bs, Nat.le_trans I.ok.bsz I.sz, fun b o e hb => ?_, fun b hb z => ?_, I.stack, I.stkFree⟩
    · have e1 : cenv.cells.lookup y = some c := e1
      have e2 : cenv.cells.lookup z = some c := e2
      rw [hcl] at e1 e2
      refine cells_inj (fun p hp => ?_) (fun y z c a b => I.ok.inj y z c (cm a).1 (cm b).1) (PySem.mem_of_lookup e1) (PySem.mem_of_lookup e2)
      rw [Heap.size_push]
      exact Nat.lt_succ_of_lt (cm (y := p.1) (c := p.2) hp).2
    · show ∃ c, cenv.cells.lookup y = some c
      have key : ∀ k, cenv.kindOf y = some k → (k = .cell ∨ k = .free) → ∃ c, cenv.cells.lookup y = some c := fun k hk hk' => by
        unfold Env.kindOf at hk
        rw [hsc] at hk
        obtain ⟨k', e, r⟩ := lookup_relS hk
        have : k' = .cell ∨ k' = .free := by
          rcases r with rfl | ⟨rfl, _⟩
          · exact hk'
          · exact .inr rfl
        rcases this with rfl | rfl
        · obtain ⟨c, hm⟩ := cells_has (n := (s.heap.push { cls := .type "dict", data := .dict #[] }).objs.size) (acc := cloFrom X.env.cells scope.names []) (PySem.mem_of_lookup e)
          obtain ⟨c', e'⟩ := mem_lookup hm
          exact ⟨c', by rw [hcl]; exact e'⟩
        · obtain ⟨c, h1, _⟩ := look e
          exact ⟨c, h1⟩
      rcases hy with hy | hy
      · exact key _ hy (.inl rfl)
      · exact key _ hy (.inr rfl)
    · have z : (scope.names.lookup y == some NameKind.cell) = true := z
      have z : scope.names.lookup y = some .cell := by simpa using z
      have e : cenv.cells.lookup y = some c := e
      rw [hcl] at e
      rcases cells_mem (PySem.mem_of_lookup e) with hm | ⟨_, h2, _⟩
      · rcases cloFrom_mem hm with hm | ⟨h1, _⟩
        · cases hm
        · have q := ok.uniq _ h1
          rw [z] at q; cases q
      · rw [Heap.size_push] at h2
        exact Nat.le_of_succ_le h2
    · show b ≠ cenv.locals
      rw [hL]; exact Nat.ne_of_lt (hfp b hb).2
    · have e : cenv.cells.lookup y = some c := e
      rcases mem e with ⟨h1, _⟩ | ⟨h1, _⟩
      · exact (hfp b hb).1.2.2.2.2.1 y c h1 z
      · have h2 : s.heap.objs.size + 1 ≤ b := by rw [← z]; exact h1
        exact absurd (Nat.lt_of_lt_of_le (hfp b hb).2 (Nat.le_of_succ_le h2)) (Nat.lt_irrefl _)
    · rcases (hfp b hb).1.2.2.2.1 with z | z
      · exact I.ok.noex b o e z
      · exact absurd (Nat.lt_of_lt_of_le (Heap.lt_size e) (Nat.le_trans I.ok.bsz z)) (Nat.lt_irrefl _)
    · rcases List.mem_cons.mp (I.stkSub b z) with z | z
      · exact (hfp b hb).1.2.1 z
      · exact (hfp b hb).1.2.2.1 z
  refine ⟨okB, rfl, I.bare, Un.kept kp, ⟨fun _ => none, ?_, fun i y av e1 e2 e3 => ?_⟩, fun y c e => ?_, ?_, fun y c e => ?_, fun p hp => ?_, I.hok.kept kp, by rw [wipe_length]; exact I.len⟩
  · show Heap.Ns _ cenv.locals _
    rw [hL]
    exact Heap.Ns.keeps (Heap.Ns.new ..) fun b o e => pushCells_keeps _ _ _ _ e
  · obtain ⟨e2, hne⟩ := wipe_some e2
    have hfr : scope.names.lookup y = some .free ∧ (cenv.kindOf y = some .cell ∨ cenv.kindOf y = some .free) := by
      have key : ∀ k, cenv.scope.names.lookup y = some k → k = .local ∨ k = .cell ∨ k = .free → scope.names.lookup y = some .free ∧ (cenv.kindOf y = some .cell ∨ cenv.kindOf y = some .free) := fun k hk hk' => by
        have hk0 := hk
        rw [hsc] at hk
        obtain ⟨k', e, r⟩ := lookup_relS hk
        have no : ¬ (k' = .local ∨ k' = .cell) := fun hh => by
          rcases ok.own _ (PySem.mem_of_lookup e) hh with e' | e'
          · obtain ⟨p, hp, hpy⟩ := List.mem_map.mp e'
            have e3 := ok.ix p hp
            have : p.1 = y := hpy
            rw [this] at e3
            exact hne (List.mem_map.mpr ⟨p, hp, nodup_ix hN e3 e1⟩)
          · exact e' (List.mem_of_getElem? e1)
        rcases r with rfl | ⟨rfl, rfl⟩
        · rcases hk' with rfl | rfl | rfl
          · exact absurd (.inl rfl) no
          · exact absurd (.inr rfl) no
          · exact ⟨e, .inr hk0⟩
        · exact ⟨e, .inl hk0⟩
      have e3 : Vis cenv.scope y := e3
      rcases e3 with e3 | e3 | e3
      · exact key _ e3 (.inl rfl)
      · exact key _ e3 (.inr (.inl rfl))
      · exact key _ e3 (.inr (.inr rfl))
    obtain ⟨m, hn, hl⟩ := I.loc
    have hvis : Vis X.env.scope y := (ok.free _ (PySem.mem_of_lookup hfr.1) rfl).elim (fun k => .inr (.inl k)) (fun k => .inr (.inr k))
    obtain ⟨w, r, q⟩ := hl i y av e1 e2 hvis
    refine ⟨w, r, .inr ⟨hfr.2, ?_⟩⟩
    obtain ⟨c, h1, h2⟩ := look hfr.1
    rcases q with ⟨k, _⟩ | ⟨_, c', e', z⟩
    · have k : X.env.scope.names.lookup y = some .local := k
      rcases ok.free _ (PySem.mem_of_lookup hfr.1) rfl with k' | k' <;> rw [show X.env.scope.names.lookup y = _ from k'] at k <;> cases k
    · rw [h2] at e'; cases e'
      exact ⟨c, h1, z.keeps kp⟩
  · have e : cenv.cells.lookup y = some c := e
    rcases mem e with ⟨h1, _⟩ | ⟨_, z⟩
    · obtain ⟨w, z⟩ := I.cell y c h1
      exact ⟨w, z.keeps kp⟩
    · exact ⟨_, z⟩
  · show H cenv.locals = none
    rw [hL]; exact I.hok.fresh (Nat.le_refl _)
  · have e : cenv.cells.lookup y = some c := e
    rcases mem e with ⟨h1, _⟩ | ⟨h1, _⟩
    · exact I.freeC y c h1
    · exact I.hok.fresh (Nat.le_of_succ_le h1)
  · exact absurd (show p ∈ ([] : List (Addr × Obj)) ++ [] from hp) (by simp)

theorem app_ok {E : Value → Shared → Prop} {D : Addr} {xs : List V} {y : V} {v : Value} {Q : Value → Shared → Prop} (I : Inv X pins σ H s) (hD : H D = some (.lst xs)) (hz : xs.length < sizeLine) (r : RelV y v)
    (h : ∀ s', Inv X pins σ (upd H D (.lst (xs ++ [y]))) s' → Q .none s') : wpAny (model X.prog X.w) X.A (call (.builtin "list.append") [.ref D, v]) Q E s := by
  obtain ⟨hz', its, n, ri, e⟩ := I.hok D _ hD
  have hl := ri.length
  refine append_at (hsz := by rw [List.size_toArray]; omega) e fun h' sb ho' => ?_
  refine h { s with heap := h' } (I.write (t' := s.toks) (by rw [hD]; trivial) (.inl rfl) (fun b u hb q => (sb.2 b hb).trans q) ⟨_, ho'⟩ ⟨by rw [List.length_append]; exact hz, its ++ [v], n + 1, ri.append (.cons r .nil), ?_⟩)
  rw [ho']
  simp

def PTs (X : Cx) (ifs : List Expr) (t : TT) : Prop :=
  ∀ (pins : List (Addr × Obj)) (s : Shared) (σ : St) (H : Hp) (Q : Bool → Hp → Prop), Inv X pins σ H s → t σ H Q →
    wpAny (model X.prog X.w) X.A (forIn ifs true fun c r => if r = true then do let ok ← isTrue c X.env (eval c X.env); pure (ForInStep.yield ok) else pure (ForInStep.yield r)) (TP X pins σ Q) X.xe s
def tYes : TT := fun _ H Q => Q true H
theorem pts_nil : PTs X [] tYes := fun _ _ _ H _ I h => wpAny_tests_nil ⟨H, I, h⟩
theorem pts_one {c : Expr} {t : TT} (h : PT X c t) : PTs X [c] t := fun pins s σ H Q I hw => wpAny_tests_one (h pins s σ H Q I hw)
end

theorem thnF {α : Type} {t : Sem α} {Q Q' : α → Shared → Prop} {M : Model} {A : Around} {E : Value → Shared → Prop} {s : Shared} (h : wpAny M A t Q (fun _ _ => False) s) (hQ : ∀ a s, Q a s → Q' a s) : wpAny M A t Q' E s := wpAny_mono h hQ fun _ _ z => False.elim z

theorem compLoop_any {prog : Program} {w : World} {A : Around} {R : Result → Shared → Prop} {s : Shared} {elt target iter : Expr} {ifs : List Expr} {scope : Scope} {pos : Pos} {it acc : Value} {env : Env} (I : Nat → Shared → Prop)
    (turn : ∀ n s, I n s → wpAny (model prog w) A (pyNext it) (fun r s₁ => match r with
      | none => R (.ok .next) s₁
      | some v => wpAny (model prog w) A (letOwnedTupleGo target it v) (fun _ s₁' => wpAny (model prog w) A (assign target env v) (fun _ s₂ =>
          wpAny (model prog w) A (forIn ifs true fun c r => if r = true then do let ok ← isTrue c env (eval c env); pure (ForInStep.yield ok) else pure (ForInStep.yield r)) (fun ok s₃ =>
            if ok = true then wpAny (model prog w) A (eval elt env) (fun x s₄ =>
              wpAny (model prog w) A (call (.builtin "list.append") [acc, x]) (fun _ s₅ => ∃ m, m < n ∧ I m s₅) (notedBy (model prog w) A env fun e s' => R (.error e) s') s₄) (notedBy (model prog w) A env fun e s' => R (.error e) s') s₃
            else ∃ m, m < n ∧ I m s₃) (notedBy (model prog w) A env fun e s' => R (.error e) s') s₂) (notedBy (model prog w) A env fun e s' => R (.error e) s') s₁') (notedBy (model prog w) A env fun e s' => R (.error e) s') s₁) (notedBy (model prog w) A env fun e s' => R (.error e) s') s)
    (n : Nat) (h : I n s) :
    codeAny (model prog w) A (.compLoop (.ListComp elt [⟨target, iter, ifs, 0⟩] scope pos) 0 it acc env) R s := by
  refine codeAny_loop rfl I (fun n s hI => ?_) n h
  show wpAny _ A ((compTurn (.ListComp elt [⟨target, iter, ifs, 0⟩] scope pos) 0 it acc env).onRaise (fun x => do noteFrame x env; theTreesLotGoes x)) _ _ s
  refine wpAny_noted ?_
  rw [compTurn_list]
  refine wpAny_bind (wpAny_standAt (wpAny_bind (wpAny_mono (turn n s hI) (fun r s₁ h₁ => ?_) fun _ _ h' => h')))
  cases r with
  | none => exact wpAny_pure h₁
  | some v =>
    refine wpAny_bind (wpAny_mono h₁ (fun _ s₁' h₁' => ?_) fun _ _ h' => h')
    refine wpAny_bind (wpAny_mono h₁' (fun _ s₂ h₂ => wpAny_bind (wpAny_mono h₂ (fun ok s₃ h₃ => ?_) fun _ _ h' => h')) fun _ _ h' => h')
    cases ok with
    | false => exact wpAny_pure ⟨rfl, h₃⟩
    | true =>
      exact wpAny_bind (wpAny_bind (wpAny_mono h₃ (fun x s₄ h₄ => wpAny_bind (wpAny_mono h₄ (fun _ s₅ h₅ => wpAny_pure (wpAny_pure ⟨rfl, h₅⟩)) fun _ _ h' => h')) fun _ _ h' => h'))

section
variable {X : Cx}
def tLc (wi : TI) (g : TG) (tt : TT) (te : TE) (vs : List Nat) : TE := fun σ H Q => wi σ H fun J H1 => ∀ D, H1 D = none → ∃ W : Nat → Nat → Hp → Prop, (∃ m, W 0 m (upd H1 D (.lst []))) ∧ ∀ i m H, W i m H →
  (J.stop i H ∧ Q (.ref D) H) ∨ (J.go i H ∧ ∃ Nx : Hp → Prop, (∀ H', Nx H' → ∃ m', m' < m ∧ W (i + 1) m' H') ∧ ∀ x H', J.yld i H x H' → g x (wipe σ vs) H' fun σ2 H2 => wipe σ2 vs = wipe σ vs ∧ tt σ2 H2 fun b H3 =>
    if b = true then te σ2 H3 fun y H4 => ∃ acc, H4 D = some (.lst acc) ∧ acc.length < sizeLine ∧ Nx (upd H4 D (.lst (acc ++ [y]))) else Nx H3)
theorem lc_core {pins : List (Addr × Obj)} {s : Shared} {σ : St} {H : Hp} {Q : VK} {elt tg iter : Expr} {ifs : List Expr} {scope : Scope} {own : List (Str × Nat)} {pos pos' : Pos} {wi : TI} {g : TG} {tt : TT} {te : TE} {use : Option (Value → Sem Unit)} {Qf : Value → Shared → Prop}
    (hc : X.calm = true) (hN : X.N.Nodup) (I : Inv X pins σ H s) (hi : PI X tg iter wi) (ok : BlkOk X.N X.env.scope scope own)
    (hg : ∀ (s : Shared) (H : Hp) (C : Addr) (cl : List (Str × Addr)) (fp : List Addr), PG (X.blk s H scope (compEnvC scope cl C X.env) fp) tg g) (ht : ∀ (s : Shared) (H : Hp) (C : Addr) (cl : List (Str × Addr)) (fp : List Addr), PTs (X.blk s H scope (compEnvC scope cl C X.env) fp) ifs tt)
    (he : ∀ (s : Shared) (H : Hp) (C : Addr) (cl : List (Str × Addr)) (fp : List Addr), PE (X.blk s H scope (compEnvC scope cl C X.env) fp) elt te) (hs : ∀ x, foldedSetIterable iter X.env x = pure x)
    (h : tLc wi g tt te (own.map (·.2)) σ H Q)
    (hRR : ∀ D C s' m H', Inv X pins σ H' s' → Q (.ref D) H' → s'.heap.Ns C m → FpOk X pins H' C → compPost (model X.prog X.w) X.A X.xe use Qf (.ref D) C (.ok .next) s') :
    wpAny (model X.prog X.w) X.A (comprehension (.ListComp elt [⟨tg, iter, ifs, 0⟩] scope pos) scope X.env pos' (newList []) false (eval iter X.env) use) Qf X.xe s := by
  have hfree : ∀ y ∈ scope.names, y.2 = .free → ∃ c, X.env.cells.lookup y.1 = some c := fun y hy e => by
    rcases ok.free y hy e with k | k
    · exact I.ok.has _ (.inl k)
    · exact I.ok.has _ (.inr k)
  refine wpAny_comprehension_free (use := use) rfl hs (closure_ok hfree) ok.kind (fun y hy e => by rw [ok.uniq y hy, e])
    (thn (hi pins s σ H _ I h) fun xv s1 hx => thn hx fun itv s2 h2 => ?_)
  obtain ⟨it, fp, tn, J, H2, e, I2, T, st2, f2, q⟩ := h2
  subst e
  refine wpAny_newObj_type (newEnv_comp ?_) (by show 0 ≤ sizeLine; decide)
  generalize hD : s2.heap.objs.size = D
  have hDn : H2 D = none := I2.hok.fresh (Nat.le_of_eq hD)
  obtain ⟨W, ⟨m0, w0⟩, turn⟩ := q D hDn
  -- the new list
  generalize hs3 : ({ s2 with heap := s2.heap.push { cls := .type "list", data := .seq ([] : List Value).toArray } } : Shared) = s3
  have I3 : Inv X pins σ (upd H2 D (.lst [])) s3 := by
    rw [← hs3]
    refine I2.laid (t' := s2.toks) (fun b o e => Heap.get?_push_of_some _ e) (Nat.le_of_eq hD) ⟨Nat.zero_le _, [], 0, .nil, ?_⟩
    rw [← hD]
    exact Heap.get?_push_size _ rfl
  have h3 : s3.heap = s2.heap.push { cls := .type "list", data := .seq ([] : List Value).toArray } := by rw [← hs3]
  have sz : ∀ b ∈ fp, b < s2.heap.objs.size := fun b hb => by
    obtain ⟨o, e, _⟩ := T.obj _ _ st2 b hb
    exact Heap.lt_size e
  have f3 : ∀ b ∈ fp, FpOk X pins (upd H2 D (.lst [])) b ∧ b < s3.heap.objs.size := fun b hb => by
    have hlt := sz b hb
    refine ⟨⟨?_, (f2 b hb).2⟩, by rw [h3, Heap.size_push]; exact Nat.lt_succ_of_lt hlt⟩
    rw [upd_ne (by rw [← hD]; exact Nat.ne_of_lt hlt)]
    exact (f2 b hb).1
  have st3 : tn 0 s3.heap := T.keep _ _ _ st2 fun b _ o e => by rw [h3]; exact Heap.get?_push_of_some _ e
  have I4 := block_start I3 ok hN f3
  have pg := hg s3 (upd H2 D (.lst [])) s3.heap.objs.size (cellsFrom (s3.heap.objs.size + 1) scope.names (cloFrom X.env.cells scope.names [])) fp
  have pt := ht s3 (upd H2 D (.lst [])) s3.heap.objs.size (cellsFrom (s3.heap.objs.size + 1) scope.names (cloFrom X.env.cells scope.names [])) fp
  have pe := he s3 (upd H2 D (.lst [])) s3.heap.objs.size (cellsFrom (s3.heap.objs.size + 1) scope.names (cloFrom X.env.cells scope.names [])) fp
  show codeAny _ _ (.compStart (.ListComp elt [⟨tg, iter, ifs, 0⟩] scope pos) 0 (.ref it) (.ref D) (compEnvC scope (cellsFrom (s3.heap.objs.size + 1) scope.names (cloFrom X.env.cells scope.names [])) s3.heap.objs.size X.env)) (compPost (model X.prog X.w) X.A X.xe use Qf (.ref D) s3.heap.objs.size) { s3 with heap := pushCells (s3.heap.push { cls := .type "dict", data := .dict #[] }) scope.names }
  have nfp : ∀ b ∈ fp, (upd H2 D (.lst [])) b = none := fun b hb => (f3 b hb).1.1
  generalize hce : compEnvC scope (cellsFrom (s3.heap.objs.size + 1) scope.names (cloFrom X.env.cells scope.names [])) s3.heap.objs.size X.env = ce at I4 pg pt pe ⊢
  have cL : ce.locals = s3.heap.objs.size := by subst hce; rfl
  generalize hH3 : upd H2 D (.lst []) = H3 at I3 I4 pg pt pe w0 nfp f3
  generalize hs4 : ({ s3 with heap := pushCells (s3.heap.push { cls := .type "dict", data := .dict #[] }) scope.names } : Shared) = s4 at I4 ⊢
  have st4 : tn 0 s4.heap := T.keep _ _ _ st3 fun b _ o e => by rw [← hs4]; exact pushCells_keeps _ _ _ _ (Heap.get?_push_of_some _ e)
  have stat : ∀ {σ' : St} {H' : Hp} {s' : Shared}, Inv (X.blk s3 H3 scope ce fp) [] σ' H' s' → (∀ b ∈ fp, H' b = none) → ∀ b ∈ fp, FpOk (X.blk s3 H3 scope ce fp) [] H' b := fun {σ' H' s'} I' hn b hb =>
    ⟨hn b hb, (I'.ok.exf b hb).1, I'.ok.exfs b hb, .inl hb, fun x c e => (I'.ok.exf b hb).2 x c e, fun p hp => absurd (show p ∈ ([] : List (Addr × Obj)) ++ [] from hp) (by simp)⟩
  have loop : codeAny (model X.prog X.w) X.A (.compLoop (.ListComp elt [⟨tg, iter, ifs, 0⟩] scope pos) 0 (.ref it) (.ref D) ce) (compPost (model X.prog X.w) X.A X.xe use Qf (.ref D) s3.heap.objs.size) s4 := by
    refine compLoop_any (fun n s' => ∃ i H', Inv (X.blk s3 H3 scope ce fp) [] (wipe σ (own.map (·.2))) H' s' ∧ tn i s'.heap ∧ (∀ b ∈ fp, H' b = none) ∧ W i n H') ?_ m0 ⟨0, H3, I4, st4, nfp, w0⟩
    rintro n s5 ⟨i, H5, I5, st5, n5, w5⟩
    rcases turn i n H5 w5 with ⟨stop, qq⟩ | ⟨go, Nx, hNx, step⟩
    · have td := T.done (X.blk s3 H3 scope ce fp) rfl rfl rfl hc i [] s5 _ H5 (fun _ _ => False) I5 (stat I5 n5) st5 stop
      refine thnF td fun r s6 ⟨hr, I6⟩ => ?_
      subst hr
      -- back in the def's context
      have I7 : Inv X pins σ H5 s6 := I3.call' (ch := fp) I6.os I6.base I6.hok I6.bare fun b hb => ⟨(f3 b hb).1.2.2.2.1, (f3 b hb).1.2.1, (f3 b hb).1.2.2.2.2.1, (f3 b hb).1.2.2.2.2.2⟩
      have nC : H5 s3.heap.objs.size = none := by
        have z : H5 ce.locals = none := I6.free
        rw [cL] at z
        exact z
      obtain ⟨m, hn, _⟩ := I6.loc
      have hn : s6.heap.Ns ce.locals m := hn
      rw [cL] at hn
      exact hRR D s3.heap.objs.size s6 m H5 I7 qq hn (I3.fpOk (Nat.le_refl _) nC)
    · have ti := T.item (X.blk s3 H3 scope ce fp) rfl rfl rfl hc i [] s5 _ H5 (fun _ _ => False) I5 (stat I5 n5) st5 go
      refine thnF ti fun r s6 ⟨u, hr, h6⟩ => ?_
      subst hr
      refine thnF h6 fun _ s7 ⟨x, H7, I7, r7, y7, st7, n7⟩ => ?_
      have I7' := I7.pinned (stat I7 n7) (T.obj _ _ st7)
      refine thnF (pg _ s7 _ H7 x u _ I7' r7 (step x H7 y7)) fun _ s8 ⟨σ8, H8, I8, hw8, q8⟩ => ?_
      refine thnF (pt _ s8 σ8 H8 _ I8 q8) fun b s9 ⟨H9, I9, q9⟩ => ?_
      -- the turn's end
      have fin : ∀ {s' : Shared} {H' : Hp}, Inv (X.blk s3 H3 scope ce fp) ([] ++ pinsAt fp s7.heap) σ8 H' s' → Nx H' → ∃ m, m < n ∧ ∃ i H', Inv (X.blk s3 H3 scope ce fp) [] (wipe σ (own.map (·.2))) H' s' ∧ tn i s'.heap ∧ (∀ b ∈ fp, H' b = none) ∧ W i m H' := fun {s' H'} I' nx => by
        obtain ⟨m', hm, w'⟩ := hNx H' nx
        have pin' : ∀ b ∈ fp, ∀ o, s7.heap.get? b = some o → s'.heap.get? b = some o ∧ H' b = none := fun b hb o e =>
          let z := I'.pin (b, o) (List.mem_append_right _ (List.mem_append_right _ (mem_pinsAt hb e)))
          ⟨z.1, z.2.1⟩
        have hl : (wipe σ (own.map (·.2))).length = σ8.length := by rw [← hw8, wipe_length]
        refine ⟨m', hm, i + 1, H', (I'.unpinned (pins := [])).weak hl (fun j v e => ?_), T.keep _ _ _ st7 fun b hb o e => (pin' b hb o e).1, fun b hb => ?_, w'⟩
        · rw [← hw8] at e
          exact (wipe_some e).1
        · obtain ⟨o, e, _⟩ := T.obj _ _ st7 b hb
          exact (pin' b hb o e).2
      cases b with
      | false =>
        simp only [Bool.false_eq_true, if_false] at q9 ⊢
        exact fin I9 q9
      | true =>
        simp only [if_true] at q9 ⊢
        refine thnF (pe _ s9 σ8 H9 _ I9 q9) fun z s10 ⟨yv, H10, I10, r10, acc, hD10, hz10, nx⟩ => ?_
        exact app_ok (X := X.blk s3 H3 scope ce fp) I10 hD10 hz10 r10 fun s11 I11 => fin I11 nx
  exact codeAny_compStart_list loop (T.self X.A 0 _ _ _ st4 loop)
theorem pe_lc {elt tg iter : Expr} {ifs : List Expr} {scope : Scope} {own : List (Str × Nat)} {pos : Pos} {wi : TI} {g : TG} {tt : TT} {te : TE} (hc : X.calm = true) (hN : X.N.Nodup) (hi : PI X tg iter wi) (ok : BlkOk X.N X.env.scope scope own)
    (hg : ∀ (s : Shared) (H : Hp) (C : Addr) (cl : List (Str × Addr)) (fp : List Addr), PG (X.blk s H scope (compEnvC scope cl C X.env) fp) tg g) (ht : ∀ (s : Shared) (H : Hp) (C : Addr) (cl : List (Str × Addr)) (fp : List Addr), PTs (X.blk s H scope (compEnvC scope cl C X.env) fp) ifs tt)
    (he : ∀ (s : Shared) (H : Hp) (C : Addr) (cl : List (Str × Addr)) (fp : List Addr), PE (X.blk s H scope (compEnvC scope cl C X.env) fp) elt te) (hs : ∀ x, foldedSetIterable iter X.env x = pure x := by intro _; rfl) :
    PE X (.ListComp elt [⟨tg, iter, ifs, 0⟩] scope pos) (tLc wi g tt te (own.map (·.2))) := by
  intro pins s σ H Q I h
  rw [eval_ListComp]
  refine lc_core hc hN I hi ok hg ht he hs h fun D C s' m H' I' q hn f => ⟨m, hn, fun h'' sb => ?_⟩
  obtain ⟨f0, f1, f2, f3, f4, f5⟩ := f
  exact ⟨.ref D, H', I'.turned (t' := s'.toks) (fun b o hb e => (sb.2 b hb).trans e) f0 f1 f3 f4 f5, rfl, q⟩
theorem ps_setLc {i : Nat} {y : Str} {py : Pos} {elt tg iter : Expr} {ifs : List Expr} {scope : Scope} {own : List (Str × Nat)} {pos spos : Pos} {wi : TI} {g : TG} {tt : TT} {te : TE} (hc : X.calm = true) (hN : X.N.Nodup) (hy : X.N[i]? = some y) (hyl : X.env.scope.names.lookup y = some .local)
    (hsw : swapsWith (.ListComp elt [⟨tg, iter, ifs, 0⟩] scope pos) (some (.Name y py)) spos.line X.env = pure true) (hi : PI X tg iter wi) (ok : BlkOk X.N X.env.scope scope own)
    (hg : ∀ (s : Shared) (H : Hp) (C : Addr) (cl : List (Str × Addr)) (fp : List Addr), PG (X.blk s H scope (compEnvC scope cl C X.env) fp) tg g) (ht : ∀ (s : Shared) (H : Hp) (C : Addr) (cl : List (Str × Addr)) (fp : List Addr), PTs (X.blk s H scope (compEnvC scope cl C X.env) fp) ifs tt)
    (he : ∀ (s : Shared) (H : Hp) (C : Addr) (cl : List (Str × Addr)) (fp : List Addr), PE (X.blk s H scope (compEnvC scope cl C X.env) fp) elt te) (hs : ∀ x, foldedSetIterable iter X.env x = pure x := by intro _; rfl) :
    PS X (.Assign [.Name y py] (.ListComp elt [⟨tg, iter, ifs, 0⟩] scope pos) spos) (tAsg (tLc wi g tt te (own.map (·.2))) (gName i)) := by
  intro pins s σ H D I h
  rw [exec_Assign_Name_used _ _ _ _ hsw]
  refine wpAny_bind (wpAny_standAt (wpAny_bind ?_))
  show wpAny _ X.A (do let _ ← comprehension (.ListComp elt [⟨tg, iter, ifs, 0⟩] scope pos) scope X.env (firstIterPos [⟨tg, iter, ifs, 0⟩] pos) (newList []) false (eval iter X.env) (some (assign (.Name y py) X.env))) _ _ s
  have h : tLc wi g tt te (own.map (·.2)) σ H (fun x H1 => gName i x σ H1 D.nx) := h
  refine wpAny_bind (thn (lc_core (Qf := fun _ s' => SP X pins D .next s') hc hN I hi ok hg ht he hs h fun L C s' m H' I' q hn f => ?_) fun _ s' hq => wpAny_pure (wpAny_pure hq))
  show wpAny _ _ (assign (.Name y py) X.env (.ref L)) _ _ _
  refine wpAny_assign_Name (store_ok2 (v := V.ref L) I' hN hy (.inl hyl) rfl (fun s2 I2 ⟨a, sb, ha⟩ => ?_) (.inr hyl))
  obtain ⟨f0, f1, f2, f3, f4, f5⟩ := f
  have haC : C ≠ a := by
    rcases ha with z | z
    · rw [z]; exact f1
    · exact fun e => f4 y a z e.symm
  refine ⟨m, hn.sameBut sb haC, fun h3 sb3 => ?_⟩
  exact ⟨_, H', I2.turned (t' := s2.toks) (fun b o hb e => (sb3.2 b hb).trans e) f0 f1 f3 f4 f5, q⟩
theorem sw_true {elt : Expr} {gs : List Comprehension} {scope : Scope} {pos py : Pos} {y : Str} {l : Nat} {env : Env} (hk : env.scope.kind = .function) (hy : env.scope.names.lookup y = some .local) (hl : (py.line == pos.line) = true)
    (ha : (scope.names.any fun (n, k) => n == y && (k == .local || k == .cell)) = false) : swapsWith (.ListComp elt gs scope pos) (some (.Name y py)) l env = pure true := by
  have ky : env.kindOf y = some .local := hy
  have hb : env.blockKind = .function := by unfold Env.blockKind; rw [hk]; rfl
  unfold swapsWith
  simp only [hb, ky, ha, Expr.pos, hl]
  rfl
end

theorem lc_range {lo : Int} {n : Nat} {g : TG} {tt : TT} {te : TE} {vs : List Nat} {σ : St} {H1 : Hp} {D : Addr} {Qd : Hp → Prop} (Pv : Nat → Hp → Prop) (h0 : Pv 0 (upd H1 D (.lst [])))
    (hs : ∀ i H, i < n → Pv i H → g (.int (lo + i)) (wipe σ vs) H fun σ2 H2 => wipe σ2 vs = wipe σ vs ∧ tt σ2 H2 fun b H3 =>
      if b = true then te σ2 H3 fun y H4 => ∃ acc, H4 D = some (.lst acc) ∧ acc.length < sizeLine ∧ Pv (i + 1) (upd H4 D (.lst (acc ++ [y]))) else Pv (i + 1) H3) (hd : ∀ H, Pv n H → Qd H) :
    ∃ W : Nat → Nat → Hp → Prop, (∃ m, W 0 m (upd H1 D (.lst []))) ∧ ∀ i m H, W i m H →
      ((Itr lo n).stop i H ∧ Qd H) ∨ ((Itr lo n).go i H ∧ ∃ Nx : Hp → Prop, (∀ H', Nx H' → ∃ m', m' < m ∧ W (i + 1) m' H') ∧ ∀ x H', (Itr lo n).yld i H x H' → g x (wipe σ vs) H' fun σ2 H2 => wipe σ2 vs = wipe σ vs ∧ tt σ2 H2 fun b H3 =>
        if b = true then te σ2 H3 fun y H4 => ∃ acc, H4 D = some (.lst acc) ∧ acc.length < sizeLine ∧ Nx (upd H4 D (.lst (acc ++ [y]))) else Nx H3) := by
  refine ⟨fun i m H => m = n - i ∧ i ≤ n ∧ Pv i H, ⟨n, by simp, Nat.zero_le _, h0⟩, ?_⟩
  rintro i m H ⟨rfl, hi, p⟩
  by_cases hlt : i < n
  · refine .inr ⟨hlt, Pv (i + 1), fun H' p' => ⟨n - (i + 1), by omega, rfl, hlt, p'⟩, fun x H' y => ?_⟩
    obtain ⟨e, y⟩ := y
    subst e y
    exact hs i _ hlt p
  · have e : i = n := by omega
    subst e
    exact .inl ⟨Nat.le_refl _, hd H p⟩
theorem lc_list {K : PySem.W.Frag} {a : Addr} {xs : List V} {g : TG} {tt : TT} {te : TE} {vs : List Nat} {σ : St} {H1 : Hp} {D : Addr} {Qd : Hp → Prop} (Pv : Nat → Hp → Prop) (h0 : Pv 0 (upd H1 D (.lst []))) (hl : ∀ i H, i ≤ xs.length → Pv i H → SqL K H a xs)
    (hs : ∀ i x H, xs[i]? = some x → Pv i H → g x (wipe σ vs) H fun σ2 H2 => wipe σ2 vs = wipe σ vs ∧ tt σ2 H2 fun b H3 =>
      if b = true then te σ2 H3 fun y H4 => ∃ acc, H4 D = some (.lst acc) ∧ acc.length < sizeLine ∧ Pv (i + 1) (upd H4 D (.lst (acc ++ [y]))) else Pv (i + 1) H3) (hd : ∀ H, Pv xs.length H → Qd H) :
    ∃ W : Nat → Nat → Hp → Prop, (∃ m, W 0 m (upd H1 D (.lst []))) ∧ ∀ i m H, W i m H →
      ((Itl K a).stop i H ∧ Qd H) ∨ ((Itl K a).go i H ∧ ∃ Nx : Hp → Prop, (∀ H', Nx H' → ∃ m', m' < m ∧ W (i + 1) m' H') ∧ ∀ x H', (Itl K a).yld i H x H' → g x (wipe σ vs) H' fun σ2 H2 => wipe σ2 vs = wipe σ vs ∧ tt σ2 H2 fun b H3 =>
        if b = true then te σ2 H3 fun y H4 => ∃ acc, H4 D = some (.lst acc) ∧ acc.length < sizeLine ∧ Nx (upd H4 D (.lst (acc ++ [y]))) else Nx H3) := by
  refine ⟨fun i m H => m = xs.length - i ∧ i ≤ xs.length ∧ Pv i H, ⟨xs.length, by simp, Nat.zero_le _, h0⟩, ?_⟩
  rintro i m H ⟨rfl, hi, p⟩
  have q := hl i H hi p
  by_cases hlt : i < xs.length
  · refine .inr ⟨⟨xs, xs[i], q, by simp [hlt]⟩, Pv (i + 1), fun H' p' => ⟨xs.length - (i + 1), by omega, rfl, hlt, p'⟩, fun x H' y => ?_⟩
    obtain ⟨e, y⟩ := y
    subst e
    exact hs i x _ (y xs q) p
  · have e : i = xs.length := by omega
    subst e
    exact .inl ⟨⟨xs, q, Nat.le_refl _⟩, hd H p⟩
theorem lc_tup {K : PySem.W.Frag} {a : Addr} {xs : List V} {g : TG} {tt : TT} {te : TE} {vs : List Nat} {σ : St} {H1 : Hp} {D : Addr} {Qd : Hp → Prop} (Pv : Nat → Hp → Prop) (h0 : Pv 0 (upd H1 D (.lst []))) (hl : ∀ i H, i ≤ xs.length → Pv i H → SqT K H a xs)
    (hs : ∀ i x H, xs[i]? = some x → Pv i H → g x (wipe σ vs) H fun σ2 H2 => wipe σ2 vs = wipe σ vs ∧ tt σ2 H2 fun b H3 =>
      if b = true then te σ2 H3 fun y H4 => ∃ acc, H4 D = some (.lst acc) ∧ acc.length < sizeLine ∧ Pv (i + 1) (upd H4 D (.lst (acc ++ [y]))) else Pv (i + 1) H3) (hd : ∀ H, Pv xs.length H → Qd H) :
    ∃ W : Nat → Nat → Hp → Prop, (∃ m, W 0 m (upd H1 D (.lst []))) ∧ ∀ i m H, W i m H →
      ((Itt K a).stop i H ∧ Qd H) ∨ ((Itt K a).go i H ∧ ∃ Nx : Hp → Prop, (∀ H', Nx H' → ∃ m', m' < m ∧ W (i + 1) m' H') ∧ ∀ x H', (Itt K a).yld i H x H' → g x (wipe σ vs) H' fun σ2 H2 => wipe σ2 vs = wipe σ vs ∧ tt σ2 H2 fun b H3 =>
        if b = true then te σ2 H3 fun y H4 => ∃ acc, H4 D = some (.lst acc) ∧ acc.length < sizeLine ∧ Nx (upd H4 D (.lst (acc ++ [y]))) else Nx H3) := by
  refine ⟨fun i m H => m = xs.length - i ∧ i ≤ xs.length ∧ Pv i H, ⟨xs.length, by simp, Nat.zero_le _, h0⟩, ?_⟩
  rintro i m H ⟨rfl, hi, p⟩
  have q := hl i H hi p
  by_cases hlt : i < xs.length
  · refine .inr ⟨⟨xs, xs[i], q, by simp [hlt]⟩, Pv (i + 1), fun H' p' => ⟨xs.length - (i + 1), by omega, rfl, hlt, p'⟩, fun x H' y => ?_⟩
    obtain ⟨e, y⟩ := y
    subst e
    exact hs i x _ (y xs q) p
  · have e : i = xs.length := by omega
    subst e
    exact .inl ⟨⟨xs, q, Nat.le_refl _⟩, hd H p⟩
def blkC (N : List Str) (sc scope : Scope) (own : List (Str × Nat)) : Bool :=
  (match scope.kind with | .function => true | _ => false) && (scope.names.all fun y => decide (scope.names.lookup y.1 = some y.2)) && (own.all fun p => decide (N[p.2]? = some p.1)) &&
    (scope.names.all fun y => match y.2 with
      | .free => (match sc.names.lookup y.1 with | some .cell => true | some .free => true | _ => false)
      | .local => decide (y.1 ∈ own.map (·.1)) || decide (y.1 ∉ N)
      | .cell => decide (y.1 ∈ own.map (·.1)) || decide (y.1 ∉ N)
      | _ => true)
theorem blkOk_by {N : List Str} {sc scope : Scope} {own : List (Str × Nat)} (h : blkC N sc scope own = true) : BlkOk N sc scope own := by
  unfold blkC at h
  simp only [Bool.and_eq_true, List.all_eq_true, decide_eq_true_eq] at h
  obtain ⟨⟨⟨h1, h2⟩, h3⟩, h4⟩ := h
  refine ⟨?_, h2, h3, fun y hy e => ?_, fun y hy e => ?_⟩
  · split at h1
    · assumption
    · cases h1
  · have q := h4 y hy
    simp only [e] at q
    split at q <;> first | exact .inl (by assumption) | exact .inr (by assumption) | cases q
  · have q := h4 y hy
    rcases e with e | e <;> (simp only [e, Bool.or_eq_true, decide_eq_true_eq] at q; exact q)
end L2

namespace L2
open PySem PySem.Spec PyProof.Rows

section
variable {prog : Program} {w : World} {A : Around} {R : Result → Shared → Prop} {s : Shared} {elt t0 i0 t1 i1 : Expr} {ifs0 ifs1 : List Expr} {scope : Scope} {pos : Pos} {it acc : Value} {env : Env}
end

section
variable {X : Cx}
end
end L2

namespace L2
open PySem PySem.Spec PyProof.Rows

section
variable {κ : Type} [DecidableEq κ]
def valV (kvs : List (κ × V)) (k : κ) : Option V := (kvs.find? fun kv => decide (kv.1 = k)).map (·.2)
def putK (kvs : List (κ × V)) (k : κ) (v : V) : List (κ × V) :=
  if (kvs.any fun kv => decide (kv.1 = k)) = true then kvs.map (fun kv => if kv.1 = k then (kv.1, v) else kv) else kvs ++ [(k, v)]
theorem valV_pos {p : κ × V} {r : List (κ × V)} {k : κ} (e : p.1 = k) : valV (p :: r) k = some p.2 := by simp [valV, List.find?_cons, e]
theorem valV_neg {p : κ × V} {r : List (κ × V)} {k : κ} (e : ¬ p.1 = k) : valV (p :: r) k = valV r k := by simp [valV, List.find?_cons, e]
theorem valV_any (k : κ) : ∀ kvs : List (κ × V), (kvs.any fun kv => decide (kv.1 = k)) = (valV kvs k).isSome
  | [] => rfl
  | p :: r => by
    rw [List.any_cons]
    by_cases e : p.1 = k
    · simp only [valV_pos e, decide_eq_true e, Bool.true_or, Option.isSome_some]
    · rw [valV_neg e, decide_eq_false e, Bool.false_or]; exact valV_any k r
theorem length_putK (kvs : List (κ × V)) (k : κ) (v : V) : (putK kvs k v).length ≤ kvs.length + 1 := by
  unfold putK
  split
  · rw [List.length_map]; omega
  · rw [List.length_append, List.length_cons, List.length_nil]; omega
theorem putK_new {kvs : List (κ × V)} {k : κ} (v : V) (h : valV kvs k = none) : putK kvs k v = kvs ++ [(k, v)] := by
  unfold putK
  rw [valV_any, h]
  exact if_neg (by decide)

theorem RelO.isSome_eq {o : Option V} {u : Option Value} (r : RelO o u) : o.isSome = u.isSome := by
  cases o with
  | none => cases u with
    | none => rfl
    | some _ => exact (show False from r).elim
  | some _ => cases u with
    | none => exact (show False from r).elim
    | some _ => rfl
theorem KV.val {kvs : List (κ × V)} {vs : List (κ × Value)} (r : KV kvs vs) (k : κ) : RelO (valV kvs k) (valueAt vs k) := by
  unfold KV at r
  induction r with
  | nil => exact True.intro
  | @cons p q ps qs h t ih =>
    obtain ⟨h1, h2⟩ := h
    by_cases e : p.1 = k
    · have e' : q.1 = k := h1.symm.trans e
      have b : valueAt (q :: qs) k = some q.2 := by simp [valueAt, List.find?_cons, e']
      rw [valV_pos e, b]; exact h2
    · have e' : ¬ q.1 = k := fun z => e (h1.trans z)
      have b : valueAt (q :: qs) k = valueAt qs k := by simp [valueAt, List.find?_cons, e']
      rw [valV_neg e, b]; exact ih
theorem KV.any {kvs : List (κ × V)} {vs : List (κ × Value)} (r : KV kvs vs) (k : κ) : (kvs.any fun kv => decide (kv.1 = k)) = vs.any fun kv => decide (kv.1 = k) := by
  unfold KV at r
  induction r with
  | nil => rfl
  | cons h t ih => rw [List.any_cons, List.any_cons, ih, h.1]
theorem KV.repl {kvs : List (κ × V)} {vs : List (κ × Value)} (r : KV kvs vs) (k : κ) {y : V} {u : Value} (ry : RelV y u) :
    KV (kvs.map fun kv => if kv.1 = k then (kv.1, y) else kv) (vs.map fun kv => if kv.1 = k then (kv.1, u) else kv) := by
  unfold KV at r ⊢
  induction r with
  | nil => exact .nil
  | @cons p q ps qs h t ih =>
    rw [List.map_cons, List.map_cons]
    refine .cons ?_ ih
    obtain ⟨h1, h2⟩ := h
    by_cases e : p.1 = k
    · rw [if_pos e, if_pos (h1.symm.trans e)]; exact ⟨h1, ry⟩
    · rw [if_neg e, if_neg (fun z => e (h1.trans z))]; exact ⟨h1, h2⟩
theorem KV.put {kvs : List (κ × V)} {vs : List (κ × Value)} (r : KV kvs vs) (k : κ) {y : V} {u : Value} (ry : RelV y u) : KV (putK kvs k y) (stored vs k u) := by
  unfold putK stored
  rw [r.any k]
  by_cases e : (vs.any fun kv => decide (kv.1 = k)) = true
  · rw [if_pos e, if_pos e]; exact r.repl k ry
  · rw [if_neg e, if_neg e]; exact Paired.snoc r ⟨rfl, ry⟩
theorem KV.keys {kvs : List (κ × V)} {vs : List (κ × Value)} (r : KV kvs vs) : kvs.map (·.1) = vs.map (·.1) := by
  unfold KV at r
  induction r with
  | nil => rfl
  | cons h t ih => rw [List.map_cons, List.map_cons, ih, h.1]
theorem KV.length {kvs : List (κ × V)} {vs : List (κ × Value)} (r : KV kvs vs) : kvs.length = vs.length := Paired.length r
end


theorem kV_is {P : Program} {w : World} {k : Key} {u : Value} (r : RelV (kV k) u) : (mixKind P w).is k u = true := by
  cases k with
  | inl i => obtain ⟨t, e⟩ := (show ∃ t, u = Value.int i t from r); subst e; exact mixKind_int P w i t
  | inr x => obtain ⟨t, e⟩ := (show ∃ t, u = Value.str x t from r); subst e; exact mixKind_str P w x t
theorem items_are {P : Program} {w : World} : ∀ {ks : List Key} {us : List Value}, Vals (ks.map kV) us → ItemsAre (mixKind P w) ks us
  | [], _, r => by rw [List.map_nil] at r; cases r; exact .nil
  | k :: ks, _, r => by
    rw [List.map_cons] at r
    cases r with
    | cons h t => exact .cons (kV_is h) (items_are t)

abbrev KT (H : Hp) : List (List Key × V) → List (List Key × Addr × Value) → Prop := Paired fun p q => p.1 = q.1 ∧ H q.2.1 = some (.tup (p.1.map kV)) ∧ RelV p.2 q.2.2
theorem KT.val {H : Hp} {kvs : List (List Key × V)} {xs : List (List Key × Addr × Value)} (r : KT H kvs xs) (k : List Key) : RelO (valV kvs k) ((atKey xs k).map (·.2)) := by
  induction r with
  | nil => exact True.intro
  | @cons p q ps qs h t ih =>
    obtain ⟨h1, _, h2⟩ := h
    by_cases e : p.1 = k
    · have e' : q.1 = k := h1.symm.trans e
      have b : atKey (q :: qs) k = some q.2 := by simp [atKey, List.find?_cons, e']
      rw [valV_pos e, b]; exact h2
    · have e' : ¬ q.1 = k := fun z => e (h1.trans z)
      have b : atKey (q :: qs) k = atKey qs k := by simp [atKey, List.find?_cons, e']
      rw [valV_neg e, b]; exact ih
theorem KT.repl {H : Hp} {kvs : List (List Key × V)} {xs : List (List Key × Addr × Value)} (r : KT H kvs xs) (k : List Key) {y : V} {u : Value} (ry : RelV y u) :
    KT H (kvs.map fun kv => if kv.1 = k then (kv.1, y) else kv) (xs.map (putAt k u)) := by
  induction r with
  | nil => exact .nil
  | @cons p q ps qs h t ih =>
    rw [List.map_cons, List.map_cons]
    refine .cons ?_ ih
    obtain ⟨h1, h2, h3⟩ := h
    unfold putAt
    by_cases e : p.1 = k
    · rw [if_pos e, if_pos (h1.symm.trans e)]; exact ⟨h1, h2, ry⟩
    · rw [if_neg e, if_neg (fun z => e (h1.trans z))]; exact ⟨h1, h2, h3⟩
theorem KT.put {H : Hp} {kvs : List (List Key × V)} {xs : List (List Key × Addr × Value)} (r : KT H kvs xs) (k : List Key) {b : Addr} {y : V} {u : Value} (hb : H b = some (.tup (k.map kV))) (ry : RelV y u) :
    KT H (putK kvs k y) (storedH xs k b u) := by
  have e : (kvs.any fun kv => decide (kv.1 = k)) = (atKey xs k).isSome := by
    rw [valV_any, (r.val k).isSome_eq, Option.isSome_map]
  unfold putK storedH
  rw [e]
  by_cases q : (atKey xs k).isSome = true
  · rw [if_pos q, if_pos q]; exact r.repl k ry
  · rw [if_neg q, if_neg q]; exact Paired.snoc r ⟨rfl, hb, ry⟩
theorem KT.keeps {H H' : Hp} {kvs : List (List Key × V)} {xs : List (List Key × Addr × Value)} (r : KT H kvs xs) (ht : ∀ b ys, H b = some (.tup ys) → H' b = some (.tup ys)) : KT H' kvs xs :=
  Paired.mapP r fun _ _ z => ⟨z.1, ht _ _ z.2.1, z.2.2⟩

section
variable {P : Program} {w : World} {H : Hp} {h : Heap} {a : Addr}
theorem rd_of {u : HO} (ok : HOk P w H h) (e : Rd H a u) : ObjOk P w H h a u := e.ok ok
theorem dk_rd {kvs : List (Key × V)} (ok : HOk P w H h) (e : Rd H a (.dK kvs)) : kvs.length ≤ sizeLine ∧ (a == sysModules) = false ∧ ∃ vs, KV kvs vs ∧ h.DictOf (mixKind P w) a vs :=
  show ObjOk P w H h a (.dK kvs) from rd_of ok e
theorem dk_of {kvs : List (Key × V)} (ok : HOk P w H h) (e : H a = some (.dK kvs)) : kvs.length ≤ sizeLine ∧ (a == sysModules) = false ∧ ∃ vs, KV kvs vs ∧ h.DictOf (mixKind P w) a vs := dk_rd ok (.inl e)
theorem key_of {ks : List Key} (ok : HOk P w H h) (e : H a = some (.tup (ks.map kV))) : (tupleKind (mixKind P w)).is h ks a := by
  obtain ⟨_, its, r, o, h1, h2, n, h3⟩ := (show ObjOk P w H h a (.tup (ks.map kV)) from ok a _ e)
  exact ⟨o, its.toArray, n, h1, h2, h3, by simpa using items_are r⟩
theorem dt_rd {kvs : List (List Key × V)} (ok : HOk P w H h) (e : Rd H a (.dT kvs)) : kvs.length ≤ sizeLine ∧ (a == sysModules) = false ∧
    ∃ xs, KT H kvs xs ∧ h.DictOfH (tupleKind (mixKind P w)) a xs := by
  obtain ⟨z, y, xs, r, o, es, ep, h1, h2, h3, h4, h5⟩ := (show ObjOk P w H h a (.dT kvs) from rd_of ok e)
  refine ⟨z, y, xs, r, o, es, ep, h1, h2, h3, h4, fun x hx => ?_, h5⟩
  have all : ∀ {l : List (List Key × V)} {m : List (List Key × Addr × Value)}, KT H l m → ∀ x ∈ m, (tupleKind (mixKind P w)).is h x.1 x.2.1 := by
    intro l m q
    induction q with
    | nil => intro x hx; exact nomatch hx
    | @cons p q ps qs hq t ih =>
      intro x hx
      rcases List.mem_cons.mp hx with e | hx
      · subst e
        exact key_of ok (by rw [← hq.1]; exact hq.2.1)
      · exact ih x hx
  exact all r x hx
theorem dt_of {kvs : List (List Key × V)} (ok : HOk P w H h) (e : H a = some (.dT kvs)) : kvs.length ≤ sizeLine ∧ (a == sysModules) = false ∧
    ∃ xs, KT H kvs xs ∧ h.DictOfH (tupleKind (mixKind P w)) a xs := dt_rd ok (.inl e)
end

def DGet (H : Hp) (a : Addr) (y : V) (r : Option V) : Prop :=
  (∃ kvs k, Rd H a (.dK kvs) ∧ y = kV k ∧ r = valV kvs k) ∨ ∃ kvs k b, Rd H a (.dT kvs) ∧ y = .ref b ∧ H b = some (.tup (k.map kV)) ∧ r = valV kvs k
def DPut (H : Hp) (a : Addr) (y v : V) (H' : Hp) : Prop :=
  (∃ kvs k, H a = some (.dK kvs) ∧ y = kV k ∧ kvs.length < sizeLine ∧ H' = upd H a (.dK (putK kvs k v))) ∨
  ∃ kvs k b, H a = some (.dT kvs) ∧ y = .ref b ∧ H b = some (.tup (k.map kV)) ∧ kvs.length < sizeLine ∧ H' = upd H a (.dT (putK kvs k v))
theorem DGet.k {H : Hp} {a : Addr} {kvs : List (Key × V)} {k : Key} (e : H a = some (.dK kvs)) : DGet H a (kV k) (valV kvs k) := .inl ⟨kvs, k, .inl e, rfl, rfl⟩
theorem DPut.k {H : Hp} {a : Addr} {kvs : List (Key × V)} {k : Key} {v : V} (e : H a = some (.dK kvs)) (hl : kvs.length < sizeLine) : DPut H a (kV k) v (upd H a (.dK (putK kvs k v))) := .inl ⟨kvs, k, e, rfl, hl, rfl⟩
section
variable {X : Cx} {pins : List (Addr × Obj)} {σ : St} {H : Hp} {s : Shared} {a : Addr} {y v : V} {u r : Value} {o : Option V} {A : Around} {E : Value → Shared → Prop}

theorem Inv.big (I : Inv X pins σ H s) : sysModules < s.heap.objs.size := by
  have h : mainGlobals < s.heap.objs.size := (I.mod.glob.keeps I.bk).lt
  exact Nat.lt_trans (by decide) h

theorem d_getItem {Q : Value → Shared → Prop} (hu : A.units + 1 < cLine) (I : Inv X pins σ H s) (g : DGet H a y (some v)) (ry : RelV y u) (h : ∀ w' s', Inv X pins σ H s' → RelV v w' → Q w' s') :
    wpAny (model X.prog X.w) A (getItem (.ref a) u) Q E s := by
  rcases g with ⟨kvs, k, e, ey, l⟩ | ⟨kvs, k, b, e, ey, eb, l⟩
  · subst ey
    obtain ⟨z, hd, vs, rel, dd⟩ := dk_rd I.hok e
    obtain ⟨w', hw, rw'⟩ := RelO.some_of (v := v) (o := valueAt vs k) (by rw [l]; exact rel.val k)
    exact wpAny_getItem_of (kV_is ry) dd.mapOf hw (h w' _ (I.tok _) rw')
  · subst ey
    cases (show u = Value.ref b from ry)
    obtain ⟨z, hd, xs, rel, dd⟩ := dt_rd I.hok e
    obtain ⟨w', hw, rw'⟩ := RelO.some_of (v := v) (o := (atKey xs k).map (·.2)) (by rw [l]; exact rel.val k)
    obtain ⟨p, hp, hp2⟩ := Option.map_eq_some_iff.mp hw
    refine wpAny_getItem_heap (tupleKind_room_in1 hu) (key_of I.hok eb) dd hp ?_
    rw [hp2]
    exact h w' _ (I.tok _) rw'
theorem d_notIn {Q : Value → Shared → Prop} (hu : A.units + 1 < cLine) (I : Inv X pins σ H s) (g : DGet H a y o) (ry : RelV y u) (h : ∀ s', Inv X pins σ H s' → Q (.bool (!o.isSome)) s') :
    wpAny (model X.prog X.w) A (compareOp .NotIn u (.ref a)) Q E s := by
  rcases g with ⟨kvs, k, e, ey, l⟩ | ⟨kvs, k, b, e, ey, eb, l⟩
  · subst ey
    obtain ⟨z, hd, vs, rel, dd⟩ := dk_rd I.hok e
    refine wpAny_notIn_of (kV_is ry) hd dd.mapOf ?_
    rw [← (rel.val k).isSome_eq, ← l]
    exact h _ (I.tok _)
  · subst ey
    cases (show u = Value.ref b from ry)
    obtain ⟨z, hd, xs, rel, dd⟩ := dt_rd I.hok e
    refine wpAny_notIn_heap (tupleKind_room_in1 hu) (key_of I.hok eb) hd dd ?_
    have q := (rel.val k).isSome_eq
    rw [Option.isSome_map] at q
    rw [← q, ← l]
    exact h _ (I.tok _)
theorem d_write {h' : Heap} {t' : Nat} {ob : HO} (I : Inv X pins σ H s) (mu : Mut (H a)) (hs : Heap.SameBut a s.heap h') (he : ∃ q, h'.get? a = some q) (new : ObjOk X.prog X.w (upd H a ob) h' a ob) :
    Inv X pins σ (upd H a ob) { s with heap := h', toks := t' } :=
  I.write (x := a) (e := a) mu (.inl rfl) (fun b q hb z => (hs.2 b hb).trans z) he new
theorem dk_new {P : Program} {w : World} {H' : Hp} {h' : Heap} {kvs : List (Key × V)} {vs : List (Key × Value)} (z : kvs.length ≤ sizeLine) (hd : (a == sysModules) = false) (rel : KV kvs vs) (dd : h'.DictOf (mixKind P w) a vs) :
    ObjOk P w H' h' a (.dK kvs) := ⟨z, hd, vs, rel, dd⟩
theorem d_setItem {H' : Hp} {Q : Unit → Shared → Prop} (hu : A.units + 1 < cLine) (I : Inv X pins σ H s) (g : DPut H a y v H') (ry : RelV y u) (rv : RelV v r) (h : ∀ s', Inv X pins σ H' s' → Q () s') :
    wpAny (model X.prog X.w) A (setItem (.ref a) u r) Q E s := by
  rcases g with ⟨kvs, k, e, ey, l, eH⟩ | ⟨kvs, k, b, e, ey, eb, l, eH⟩
  · subst ey eH
    obtain ⟨z, hd, vs, rel, dd⟩ := dk_of I.hok e
    have hz : vs.length ≤ sizeLine := by rw [← rel.length]; exact z
    have hl : (putK kvs k v).length ≤ sizeLine := by have := length_putK kvs k v; omega
    refine wpAny_setItem_pairs (hsz := hz) (kV_is ry) dd fun h' dd' hs => h _ ?_
    have he : ∃ q, h'.get? a = some q := let ⟨q, _, _, hq, _⟩ := dd'; ⟨q, hq⟩
    exact d_write I (by rw [e]; exact True.intro) hs he (dk_new hl hd (rel.put k rv) dd')
  · subst ey eH
    cases (show u = Value.ref b from ry)
    obtain ⟨z, hd, xs, rel, dd⟩ := dt_of I.hok e
    have hz : xs.length ≤ sizeLine := by rw [← Paired.length rel]; exact z
    have hl : (putK kvs k v).length ≤ sizeLine := by have := length_putK kvs k v; omega
    refine wpAny_setItem_heap (hsz := hz) (tupleKind_room_in1 hu) (key_of I.hok eb) dd fun h' dd' hs => h _ ?_
    obtain ⟨q, es, ep, hq, h2, h3, h4, _, h5⟩ := dd'
    refine d_write I (by rw [e]; exact True.intro) hs ⟨q, hq⟩ ⟨hl, hd, _, (rel.put k eb rv).keeps fun c ys ec => ?_, q, es, ep, hq, h2, h3, h4, h5⟩
    rw [upd_ne (ne_of ec e (fun z => nomatch z))]
    exact ec
end

section
variable {X : Cx} {pins : List (Addr × Obj)} {σ : St} {H : Hp} {s : Shared} {a : Addr} {kvs : List (Key × V)} {k : Key} {u : Value} {A : Around} {E : Value → Shared → Prop}
theorem d_len {Q : Value → Shared → Prop} (I : Inv X pins σ H s) (e : Rd H a (.dK kvs)) (h : ∀ t s', Inv X pins σ H s' → Q (.int kvs.length t) s') : wpAny (model X.prog X.w) A (call (.builtin "len") [.ref a]) Q E s := by
  obtain ⟨z, hd, vs, rel, dd⟩ := dk_rd I.hok e
  refine call_len_dict hd dd (by rw [← rel.length]; rw [sizeLine_eq] at z; omega) ?_
  rw [← rel.length]
  exact h _ _ (I.tok _)
end


def NoSl (i : Expr) : Prop := ∀ ov iv, subscripted i false ov iv = operate [ov, iv] (getItem ov iv)
theorem subD_of {prog : Program} {w : World} {A : Around} {E : Value → Shared → Prop} {s : Shared} {env : Env} {value slice : Expr} {pos : Pos} {T id : String} {Q : Value → Shared → Prop}
    (hl : typeLookup (.type T) "__getitem__" = pure (some (.builtin id))) (hs : NoSl slice)
    (h : wpAny (model prog w) A (eval value env) (fun o s₁ => wpAny (model prog w) A (eval slice env) (fun i s₂ => s₂.TypeIs o T ∧ wpAny (model prog w) A (getItem o i) Q E s₂) E s₁) E s) :
    wpAny (model prog w) A (eval (.Subscript value slice pos) env) Q E s := by
  refine Subscript_ (wpAny_mono h (fun o s₁ h₁ => wpAny_mono h₁ (fun i s₂ h₂ => ?_) fun _ _ x => x) fun _ _ x => x)
  obtain ⟨hT, h₂⟩ := h₂
  unfold subscriptTail
  refine wpAny_bind ?_
  rw [getitemInPython_of_ne hT.not_modules]
  refine wpAny_bind (wpAny_specialOf hT hl ?_)
  have fin : wpAny (model prog w) A (subscripted slice false o i) (fun r s₃ => wpAny (model prog w) A (letTemporaryGo value o r >>= fun _ => pure r) Q E s₃) E s₂ := by
    rw [hs o i]
    exact wpAny_operating (wpAny_mono h₂ (fun r s₃ h₃ => wpAny_bind (wpAny_letTemporaryGo (wpAny_pure h₃))) fun _ _ x => x)
  first
    | exact wpAny_pure (wpAny_bind fin)
    | exact wpAny_bind (wpAny_pure (wpAny_bind fin))
    | exact wpAny_bind fin

theorem dict_typeIs {X : Cx} {pins : List (Addr × Obj)} {σ : St} {H : Hp} {s : Shared} {a : Addr} {y : V} {o : Option V} (I : Inv X pins σ H s) (g : DGet H a y o) : s.TypeIs (.ref a) "dict" := by
  rcases g with ⟨kvs, k, e, _, _⟩ | ⟨kvs, k, b, e, _, _, _⟩
  · obtain ⟨_, _, vs, _, dd⟩ := dk_rd I.hok e
    exact dd.typeIs
  · obtain ⟨_, _, xs, _, dd⟩ := dt_rd I.hok e
    exact dd.typeIs
inductive RdDGet (x y : V) (H : Hp) (Q : VK) : Prop
  | mk (a : Addr) (v : V) (e : x = .ref a) (h : DGet H a y (some v)) (q : Q v H) : RdDGet x y H Q
def tDGet (td ty : TE) : TE := fun σ H Q => td σ H fun x H1 => ty σ H1 fun y H2 => RdDGet x y H2 Q
inductive RdDNot (x y : V) (H : Hp) (Q : VK) : Prop
  | mk (a : Addr) (o : Option V) (e : x = .ref a) (h : DGet H a y o) (q : Q (.bl (!o.isSome)) H) : RdDNot x y H Q
def tDNotIn (ty td : TE) : TE := fun σ H Q => ty σ H fun y H1 => td σ H1 fun x H2 => RdDNot x y H2 Q
inductive RdDPut (x y v : V) (H : Hp) (Q : Hp → Prop) : Prop
  | mk (a : Addr) (H4 : Hp) (e : x = .ref a) (h : DPut H a y v H4) (q : Q H4) : RdDPut x y v H Q
def sDPut (td ty tv : TE) : TS := fun D σ H => tv σ H fun v H1 => td σ H1 fun x H2 => ty σ H2 fun y H3 => RdDPut x y v H3 fun H4 => D.nx σ H4
section
variable {X : Cx} {o i e value : Expr} {pos pos' tpos : Pos} {td ty tv : TE}
theorem pe_dget (hu : X.A.units + 1 < cLine) (ho : PE X o td) (hi : PE X i ty) (hs : NoSl i) : PE X (.Subscript o i pos) (tDGet td ty) := by
  intro pins s σ H Q I h
  refine subD_of PySem.F.slot_dict_getitem.lookup hs (thn (ho pins s σ H _ I h) fun u s1 ⟨x, H1, I1, rx, q1⟩ => thn (hi pins s1 σ H1 _ I1 q1) fun iv s2 ⟨y, H2, I2, ry, a, v, ex, g, q2⟩ => ?_)
  subst ex
  obtain rfl : u = Value.ref a := rx
  exact ⟨dict_typeIs I2 g, d_getItem hu I2 g ry fun w' s3 I3 rw' => ⟨v, H2, I3, rw', q2⟩⟩
theorem pc_dnotin (hu : X.A.units + 1 < cLine) (hi : PE X i ty) (ho : PE X o td) : PC X .NotIn i o (tDNotIn ty td) := by
  intro pins s σ H Q I h
  refine thn (hi pins s σ H _ I h) fun iv s1 ⟨y, H1, I1, ry, q1⟩ => thn (ho pins s1 σ H1 _ I1 q1) fun u s2 ⟨x, H2, I2, rx, a, ov, ex, g, q2⟩ => ?_
  subst ex
  obtain rfl : u = Value.ref a := rx
  exact d_notIn hu I2 g ry fun s3 I3 => ⟨.bl (!ov.isSome), H2, I3, rfl, q2⟩
theorem ps_dput (hu : X.A.units + 1 < cLine) (ho : PE X o td) (hi : PE X i ty) (hv : PE X value tv) (hs : swapsWith value (some (.Subscript o i pos')) pos.line X.env = pure false) :
    PS X (.Assign [.Subscript o i pos'] value pos) (sDPut td ty tv) := by
  intro pins s σ H D I h
  refine wpAny_Assign_Subscript (thn (hv pins s σ H _ I h) fun r s1 ⟨v, H1, I1, rv, q1⟩ => thn (ho pins s1 σ H1 _ I1 q1) fun u s2 ⟨x, H2, I2, rx, q2⟩ => thn (hi pins s2 σ H2 _ I2 q2) fun iv s3 ⟨y, H3, I3, ry, a, H4, ex, g, q3⟩ => ?_) hs
  subst ex
  obtain rfl : u = Value.ref a := rx
  exact d_setItem hu I3 g ry rv fun s4 I4 => ⟨σ, H4, I4, q3⟩
end


theorem dk_empty {P : Program} {w : World} {H : Hp} (h : Heap) (hb : sysModules < h.objs.size) : ObjOk P w H (h.push { cls := .type "dict", data := .dict #[] }) h.objs.size (.dK []) :=
  ⟨Nat.zero_le _, beq_eq_false_iff_ne.mpr (Ne.symm (Nat.ne_of_lt hb)), [], .nil, Heap.DictOf.new h⟩
section
variable {X : Cx} {pos : Pos}
end

def tPairs : List (TE × TE) → St → Hp → (List (V × V) → Hp → Prop) → Prop
  | [], _, H, Q => Q [] H
  | (tk, tv) :: r, σ, H, Q => tk σ H fun x H1 => tv σ H1 fun y H2 => tPairs r σ H2 fun ps H3 => Q ((x, y) :: ps) H3
abbrev VV : List (V × V) → List (Value × Value) → Prop := Paired fun p q => RelV p.1 q.1 ∧ RelV p.2 q.2
def PPs (X : Cx) (pos : Pos) (keys : List (Option Expr)) (values : List Expr) (trs : List (TE × TE)) : Prop :=
  ∀ (pins : List (Addr × Obj)) (s : Shared) (σ : St) (H : Hp) (Q : List (V × V) → Hp → Prop), Inv X pins σ H s → tPairs trs σ H Q →
    wpAny (model X.prog X.w) X.A (evalPairs (pairTrees keys values X.env pos)) (fun vs s' => ∃ ps H', Inv X pins σ H' s' ∧ VV ps vs ∧ Q ps H') X.xe s
theorem pps_nil {X : Cx} {pos : Pos} : PPs X pos [] [] [] := fun pins s σ H Q I h => pairTrees_nil_walk ⟨[], H, I, .nil, h⟩
theorem pps_cons {X : Cx} {pos : Pos} {k v : Expr} {ks : List (Option Expr)} {vs : List Expr} {tk tv : TE} {trs : List (TE × TE)} (hk : PE X k tk) (hv : PE X v tv) (hr : PPs X pos ks vs trs) :
    PPs X pos (some k :: ks) (v :: vs) ((tk, tv) :: trs) := fun pins s σ H Q I h =>
  pairTrees_cons_walk (thn (hk pins s σ H _ I h) fun u s1 ⟨x, H1, I1, rx, q1⟩ => thn (hv pins s1 σ H1 _ I1 q1) fun w2 s2 ⟨y, H2, I2, ry, q2⟩ =>
    thn (hr pins s2 σ H2 _ I2 q2) fun ws s3 ⟨ps, H3, I3, rel, q3⟩ => ⟨(x, y) :: ps, H3, I3, .cons ⟨rx, ry⟩ rel, q3⟩)

def mergeK (kvs more : List (Key × V)) : List (Key × V) := more.foldl (fun acc kv => putK acc kv.1 kv.2) kvs
theorem KV.merge : ∀ {more : List (Key × V)} {rs : List (Key × Value)} {kvs : List (Key × V)} {vs : List (Key × Value)}, KV more rs → KV kvs vs → KV (mergeK kvs more) (merged vs rs) := by
  intro more rs kvs vs r
  unfold KV at r
  induction r generalizing kvs vs with
  | nil => intro q; exact q
  | @cons p q ps qs h t ih =>
    intro r0
    have e : KV (putK kvs p.1 p.2) (stored vs q.1 q.2) := by
      have := r0.put p.1 h.2
      rw [← h.1]; exact this
    exact ih e
theorem length_mergeK : ∀ (more kvs : List (Key × V)), (mergeK kvs more).length ≤ kvs.length + more.length
  | [], kvs => by show kvs.length ≤ kvs.length + 0; omega
  | p :: r, kvs => by
    have h1 := length_mergeK r (putK kvs p.1 p.2)
    have h2 := length_putK kvs p.1 p.2
    show (mergeK (putK kvs p.1 p.2) r).length ≤ _
    rw [List.length_cons]; omega
theorem carries_of {P : Program} {w : World} : ∀ {kvs : List (Key × V)} {ws : List (Value × Value)}, VV (kvs.map fun kv => (kV kv.1, kv.2)) ws → ∃ rs, Carries (mixKind P w) ws rs ∧ KV kvs rs
  | [], _, r => by rw [List.map_nil] at r; cases r; exact ⟨[], True.intro, .nil⟩
  | p :: kvs, _, r => by
    rw [List.map_cons] at r
    cases r with
    | @cons a b as bs h t =>
      obtain ⟨rs, c, q⟩ := carries_of (P := P) (w := w) t
      obtain ⟨b1, b2⟩ := b
      exact ⟨(p.1, b2) :: rs, ⟨kV_is h.1, rfl, c⟩, .cons ⟨rfl, h.2⟩ q⟩
def tDisp (trs : List (TE × TE)) : TE := fun σ H Q => ∀ p, H p = none → tPairs trs σ (upd H p (.dK [])) fun ps H2 => H2 p = some (.dK []) ∧ ∃ kvs : List (Key × V), ps = kvs.map (fun kv => (kV kv.1, kv.2)) ∧ kvs.length ≤ 15 ∧ Q (.ref p) (upd H2 p (.dK (mergeK [] kvs)))
theorem pe_disp {X : Cx} {pos : Pos} {keys : List (Option Expr)} {values : List Expr} {trs : List (TE × TE)} (h : PPs X pos keys values trs) (hall : keys.all (·.isSome) = true) (hl : keys.length = values.length) (h0 : keys ≠ [])
    (h15 : keys.length ≤ 15) : PE X (.Dict keys values pos) (tDisp trs) := by
  intro pins s σ H Q I q
  have hn := I.hok.fresh (Nat.le_refl s.heap.objs.size)
  have I1 := I.laid (a := s.heap.objs.size) (o := .dK []) (h' := s.heap.push { cls := .type "dict", data := .dict #[] }) (t' := s.toks) (fun _ _ q => Heap.get?_push_of_some _ q) (Nat.le_refl _) (dk_empty s.heap I.big)
  refine wpAny_Dict_walk (knd := mixKind X.prog X.w) hall hl h0 h15 (thn (h pins _ σ _ _ I1 (q _ hn)) fun ws s2 ⟨ps, H2, I2, rel, e, kvs, ep, lk, q2⟩ => ?_)
  subst ep
  obtain ⟨rs, c, rk⟩ := carries_of (P := X.prog) (w := X.w) rel
  obtain ⟨z, hd, vs0, r0, dd⟩ := dk_of I2.hok e
  cases r0
  refine ⟨rs, c, dd, fun h' dd' hs => ⟨.ref s.heap.objs.size, _, ?_, rfl, q2⟩⟩
  have hz : (mergeK [] kvs).length ≤ sizeLine := by
    have h1 := length_mergeK kvs []
    rw [List.length_nil] at h1
    rw [sizeLine_eq]; omega
  have he : ∃ q, h'.get? s.heap.objs.size = some q := let ⟨q, _, _, hq, _⟩ := dd'; ⟨q, hq⟩
  exact d_write I2 (by rw [e]; exact True.intro) hs he (dk_new hz hd (rk.merge .nil) dd')


section
variable {X : Cx} {pins : List (Addr × Obj)} {σ : St} {H : Hp} {s : Shared} {a : Addr} {y d : V} {u r : Value} {o : Option V} {A : Around} {E : Value → Shared → Prop}
end

section
variable {X : Cx} {o e f : Expr} {apos cpos : Pos} {td ty tx : TE}
end

section
variable {X : Cx} {pins : List (Addr × Obj)} {σ : St} {H : Hp} {s : Shared} {a : Addr} {kvs : List (Key × V)} {A : Around} {E : Value → Shared → Prop}
end


section
variable {X : Cx} {pins : List (Addr × Obj)} {σ : St} {H : Hp} {s : Shared} {a : Addr} {y : V} {u : Value} {A : Around} {E : Value → Shared → Prop}
end
end L2

namespace L2
open PySem PySem.Spec PyProof.Rows

section
variable {prog : Program} {w : World} {A : Around} {E : Value → Shared → Prop}
end

section
variable {X : Cx}
end
end L2

namespace L2
open PySem PySem.Spec PyProof.Rows

section
variable {X : Cx} {pins : List (Addr × Obj)} {σ : St} {H : Hp} {s : Shared} {h' : Heap}
theorem Inv.lock {d : Addr} {u : HO} (I : Inv X pins σ H s) (h : H d = some u) (mu : Mut (some u)) : ∃ od, Inv X pins σ (upd H d (.frz od u)) s := by
  have x := I.hok d u h
  have ex : ∃ od, s.heap.get? d = some od := by
    cases u with
    | lst xs => obtain ⟨_, _, _, _, e⟩ := x; exact ⟨_, e⟩
    | dK kvs => obtain ⟨_, _, _, _, o, _, _, e, _⟩ := x; exact ⟨o, e⟩
    | dT kvs => obtain ⟨_, _, _, _, o, _, _, e, _⟩ := x; exact ⟨o, e⟩
    | set S n => obtain ⟨o, _, _, _, e, _⟩ := x; exact ⟨o, e⟩
    | ins C dx fs => obtain ⟨_, _, _, e, _⟩ := x; exact ⟨_, e⟩
    | ext φ => obtain ⟨_, ⟨_, e⟩, _⟩ := x; exact ⟨_, e⟩
    | _ => exact False.elim mu
  obtain ⟨od, e⟩ := ex
  have new : ObjOk X.prog X.w (upd H d (.frz od u)) s.heap d (.frz od u) := by
    refine ⟨e, x.stay (fun b v _ q => q) (fun b q => ?_) fun b xs q => ?_⟩
    · rw [upd_ne (fun z => by rw [z, h] at q; cases q; exact mu)]; exact q
    · rw [upd_ne (fun z => by rw [z, h] at q; cases q; exact mu)]; exact q
  exact ⟨od, I.write (x := d) (e := d) (t' := s.toks) (h' := s.heap) (by rw [h]; exact mu) (.inl rfl) (fun b v _ q => q) ⟨od, e⟩ new⟩
theorem Inv.nofrz {d : Addr} {u : HO} (I : Inv X pins σ H s) (h : H d = some u) (mu : Mut (some u)) : ∀ o' u', X.H_0 d ≠ some (.frz o' u') := fun o' u' e => by
  have q := I.base.frzs d o' u' e
  rw [h] at q
  cases q
  exact mu
theorem Inv.unlock {d : Addr} {od : Obj} {u : HO} (I : Inv X pins σ H s) (h : H d = some (.frz od u)) (hn : ∀ o' u', X.H_0 d ≠ some (.frz o' u')) : Inv X pins σ (upd H d u) s := by
  have neH : ∀ b o, H b = some o → (∀ o' u', o ≠ .frz o' u') → b ≠ d := fun b o e hne z => by
    rw [z, h] at e
    cases e
    exact hne _ _ rfl
  have neN : ∀ b, H b = none → b ≠ d := fun b e z => by rw [z, h] at e; cases e
  refine ⟨I.ok, I.os, I.bare, ⟨I.base.keep, I.base.slot, fun b o e n hx => ?_, I.base.there, fun b xs e => ?_, fun b o x e => ?_, fun b ps e => ?_⟩, I.loc, I.cell, ?_, fun x c e => ?_, fun p hp => ?_, fun b o e => ?_, I.len⟩
  · rw [upd_ne (neN b (I.base.free b o e n hx))]; exact I.base.free b o e n hx
  · have q := I.base.tups b xs e
    rw [upd_ne (neH b _ q (fun _ _ z => nomatch z))]; exact q
  · have q := I.base.frzs b o x e
    rw [upd_ne (fun z => by rw [z] at e; exact hn _ _ e)]; exact q
  · obtain ⟨m, q⟩ := I.base.tbls b ps e
    exact ⟨m, by rw [upd_ne (neH b _ q (fun _ _ z => nomatch z))]; exact q⟩
  · rw [upd_ne (neN _ I.free)]; exact I.free
  · rw [upd_ne (neN c (I.freeC x c e))]; exact I.freeC x c e
  · obtain ⟨e, n, r⟩ := I.pin p hp
    exact ⟨e, by rw [upd_ne (neN _ n)]; exact n, r⟩
  · by_cases hb : b = d
    · rw [hb, upd_same] at e
      cases e
      rw [hb]
      obtain ⟨_, x⟩ := I.hok d _ h
      exact x.stay (fun c v _ q => q) (fun c q => by rw [upd_ne (neH c _ q (fun _ _ z => nomatch z))]; exact q) fun c xs q => by rw [upd_ne (neH c _ q (fun _ _ z => nomatch z))]; exact q
    · rw [upd_ne hb] at e
      exact (I.hok b o e).stay (fun c v _ q => q) (fun c q => by rw [upd_ne (neH c _ q (fun _ _ z => nomatch z))]; exact q) fun c xs q => by rw [upd_ne (neH c _ q (fun _ _ z => nomatch z))]; exact q
end
def tLock (t : TS) : TS := fun D σ H => ∃ d u, H d = some u ∧ Mut (some u) ∧ ∀ od, t ⟨fun σ' H' => H' d = some (.frz od u) ∧ D.nx σ' (upd H' d u), fun v H' => H' d = some (.frz od u) ∧ D.rt v (upd H' d u), fun σ' H' => H' d = some (.frz od u) ∧ D.bk σ' (upd H' d u), fun σ' H' => H' d = some (.frz od u) ∧ D.ct σ' (upd H' d u)⟩ σ (upd H d (.frz od u))
section
variable {X : Cx}
theorem ps_lock {st : Stmt} {t : TS} (h : PS X st t) : PS X st (tLock t) := by
  intro pins s σ H D I hw
  obtain ⟨d, u, hd, mu, hw⟩ := hw
  obtain ⟨od, I1⟩ := I.lock hd mu
  refine thn (h pins s σ _ _ I1 (hw od)) fun f s1 q => ?_
  cases f with
  | next => obtain ⟨σ', H', I2, e, q⟩ := q; exact ⟨σ', _, I2.unlock e (I.nofrz hd mu), q⟩
  | brk => obtain ⟨σ', H', I2, e, q⟩ := q; exact ⟨σ', _, I2.unlock e (I.nofrz hd mu), q⟩
  | cont => obtain ⟨σ', H', I2, e, q⟩ := q; exact ⟨σ', _, I2.unlock e (I.nofrz hd mu), q⟩
  | ret v => obtain ⟨x, σ', H', I2, r, e, q⟩ := q; exact ⟨x, σ', _, I2.unlock e (I.nofrz hd mu), r, q⟩
theorem pi_one {tg : Expr} {pins : List (Addr × Obj)} {σ : St} {H : Hp} {s : Shared} {R : It → Hp → Prop} {J : It} {tn : Nat → Heap → Prop} {tk : Nat} (I : Inv X pins σ H s) (o : Obj)
    (T : Turn X.prog X.w X.K tg J [s.heap.objs.size] s.heap.objs.size tn) (st : tn 0 (s.heap.push o)) (q : R J H) : PIE X pins σ tg R (.ref s.heap.objs.size) { s with heap := s.heap.push o, toks := tk } := by
  refine ⟨s.heap.objs.size, [s.heap.objs.size], tn, J, H, rfl, I.kept fun b ob e => Heap.get?_push_of_some _ e, T, st, fun b hb => ?_, q⟩
  have e : b = s.heap.objs.size := by simpa using hb
  subst e
  exact I.fpOk (Nat.le_refl _) (I.hok.fresh (Nat.le_refl _))
end

section
variable {X : Cx} {tg : Expr}
end
section
variable {X : Cx} {tg : Expr}
end

section
variable {prog : Program} {w : World} {A : Around} {E : Value → Shared → Prop} {s : Shared}
theorem iter_keys {d : Addr} {o : Obj} {es : Array DictEntry} {ep : Nat} {Q : Value → Shared → Prop} (hd : (d == sysModules) = false) (ho : s.heap.get? d = some o) (hc : o.ExactDict) (hdat : o.data = .dict es ep)
    (hQ : Q (.ref s.heap.objs.size) { s with heap := s.heap.push { cls := .type "dict_keyiterator", data := .fields #[.ref d, .int 0 0, .int es.size 0, .int ep 0] } }) :
    wpAny (model prog w) A (pyIter (.ref d)) Q E s := by
  have hT : s.TypeIs (.ref d) "dict" := ⟨o, ho, hc.1⟩
  refine wpAny_pyIter_slot hT F.slot_dict_iter (wpAny_call_entry F.slot_dict_iter hT F.entry_dict_iter ?_ (F.args_dict_iter_1 _))
  unfold Builtin.«dict.__iter__»
  refine wpAny_bind ?_
  unfold Builtin.Dict.dictSlotNone
  refine wpAny_bind (wpAny_notOrdered_dict hT ?_)
  show wpAny _ _ (pure (Value.ref d)) _ _ s
  refine wpAny_pure ?_
  show wpAny _ _ (Builtin.Dict.showsAll d >>= _) _ _ s
  unfold Builtin.Dict.showsAll
  rw [if_neg (by rw [hd]; exact Bool.false_ne_true)]
  refine wpAny_bind (wpAny_pure ?_)
  refine wpAny_bind (wpAny_dictEntries ho hdat ?_)
  refine wpAny_bind (wpAny_dictEpoch ho hdat ?_)
  refine wpAny_bind (wpAny_newObj_type (wpAny_pure ⟨_, rfl, "dict_keyiterator", _, ⟨_, Heap.get?_push_size _ rfl, rfl⟩, F.slot_dict_keyiterator_next.lookup, ?_⟩))
  simpa [rawInt] using hQ
theorem next_key_item {it d : Addr} {i n ep : Nat} {od : Obj} {es : Array DictEntry} {en : DictEntry} {Q : Option Value → Shared → Prop} (hit : s.heap.IsKeyIter it d i n ep) (hod : s.heap.get? d = some od) (hdd : od.data = .dict es ep)
    (hsz : es.size = n) (hx : es[i]? = some en) (hQ : ∀ h', h'.IsKeyIter it d (i + 1) n ep → Heap.SameBut it s.heap h' → Q (some en.key) { s with heap := h' }) : wpAny (model prog w) A (pyNext (.ref it)) Q E s := by
  obtain ⟨o, ho, hc, hd⟩ := id hit
  unfold pyNext
  refine wpAny_bind (wpAny_attempt (wpAny_callSpecial?_slot (name := Str.ofString "__next__") hit.typeIs F.slot_dict_keyiterator_next
    (wpAny_call_entry F.slot_dict_keyiterator_next hit.typeIs F.entry_dict_keyiterator_next ?_ (F.args_dict_keyiterator_next_1 _))))
  refine wpAny_bind (wpAny_pure ?_)
  refine wpAny_bind ?_
  refine wpAny_bind ?_
  first | refine wpAny_bind (wpAny_typeNameOfWhole_keyiter hit.typeIs (wpAny_pure ?_)) | refine wpAny_bind (wpAny_typeNameOf_keyiter hit.typeIs (wpAny_pure ?_))
  refine wpAny_bind (wpAny_fieldsOf ho hd ?_)
  have hown : Builtin.Dict_items.ownsTuple "dict_keyiterator" = false := by decide
  simp only [hown, Bool.false_eq_true, if_false]
  show wpAny _ _ (if (Value.ref d == Value.none) = true then _ else _) _ _ s
  rw [if_neg (show ¬ ((Value.ref d == Value.none) = true) from Bool.false_ne_true)]
  refine wpAny_bind (wpAny_pure ?_)
  refine wpAny_bind (wpAny_dictEntries hod hdd ?_)
  rw [if_neg (by rw [hsz]; simp)]
  refine wpAny_bind (wpAny_pure ?_)
  refine wpAny_bind (wpAny_dictEpoch hod hdd ?_)
  rw [if_neg (by simp)]
  refine wpAny_pure ?_
  obtain ⟨hlt', hen⟩ := Array.getElem?_eq_some_iff.mp hx
  simp only [show ¬ ((i : Int) < 0) from by omega, if_false, Int.toNat_natCast, Array.getElem?_eq_getElem hlt']
  refine wpAny_bind ?_
  first | refine wpAny_bind (wpAny_typeNameOfWhole_keyiter hit.typeIs (wpAny_pure ?_)) | refine wpAny_bind (wpAny_typeNameOf_keyiter hit.typeIs (wpAny_pure ?_))
  refine wpAny_bind (wpAny_isOneOf_keyiter hit.typeIs ?_)
  show wpAny _ _ (setField (.ref it) 1 (rawInt ((i : Int) + 1)) >>= _) _ _ s
  refine wpAny_bind (wpAny_setField ho hd (by simp) ?_)
  have hit' : (s.heap.update it (Obj.mapFields (·.setIfInBounds 1 (rawInt ((i : Int) + 1))))).IsKeyIter it d (i + 1) n ep :=
    ⟨_, Heap.get?_update_self _ ho (Obj.isFreed_of_fields (Obj.data_mapFields hd _)), (Obj.cls_mapFields ..).trans hc, by rw [Obj.data_mapFields hd]; simp [rawInt]⟩
  refine wpAny_bind (wpAny_holding ?_)
  refine wpAny_bind (wpAny_isOneOf_keyiter (s := { s with heap := s.heap.update it (Obj.mapFields (·.setIfInBounds 1 (rawInt ((i : Int) + 1)))) }) hit'.typeIs ?_)
  show wpAny _ _ (pure es[i].key) _ _ _
  rw [hen]
  exact wpAny_pure (wpAny_pure ⟨_, rfl, wpAny_pure (hQ _ hit' (Heap.SameBut.update ..))⟩)
theorem next_key_end {it d : Addr} {i n ep : Nat} {od : Obj} {es : Array DictEntry} {Q : Option Value → Shared → Prop} (hh : A.handled = none) (hit : s.heap.IsKeyIter it d i n ep) (hod : s.heap.get? d = some od) (hdd : od.data = .dict es ep)
    (hsz : es.size = n) (hge : n ≤ i) (hQ : ∀ h', Heap.ExtBut it s.heap h' → Q none { s with heap := h' }) : wpAny (model prog w) A (pyNext (.ref it)) Q E s := by
  obtain ⟨o, ho, hc, hd⟩ := id hit
  unfold pyNext
  refine wpAny_bind (wpAny_attempt (wpAny_callSpecial?_slot (name := Str.ofString "__next__") hit.typeIs F.slot_dict_keyiterator_next
    (wpAny_call_entry F.slot_dict_keyiterator_next hit.typeIs F.entry_dict_keyiterator_next ?_ (F.args_dict_keyiterator_next_1 _))))
  refine wpAny_bind (wpAny_pure ?_)
  refine wpAny_bind ?_
  refine wpAny_bind ?_
  first | refine wpAny_bind (wpAny_typeNameOfWhole_keyiter hit.typeIs (wpAny_pure ?_)) | refine wpAny_bind (wpAny_typeNameOf_keyiter hit.typeIs (wpAny_pure ?_))
  refine wpAny_bind (wpAny_fieldsOf ho hd ?_)
  have hown : Builtin.Dict_items.ownsTuple "dict_keyiterator" = false := by decide
  simp only [hown, Bool.false_eq_true, if_false]
  show wpAny _ _ (if (Value.ref d == Value.none) = true then _ else _) _ _ s
  rw [if_neg (show ¬ ((Value.ref d == Value.none) = true) from Bool.false_ne_true)]
  refine wpAny_bind (wpAny_pure ?_)
  refine wpAny_bind (wpAny_dictEntries hod hdd ?_)
  rw [if_neg (by rw [hsz]; simp)]
  refine wpAny_bind (wpAny_pure ?_)
  refine wpAny_bind (wpAny_dictEpoch hod hdd ?_)
  rw [if_neg (by simp)]
  refine wpAny_pure ?_
  have hge' : es.size ≤ i := by rw [hsz]; exact hge
  simp only [show ¬ ((i : Int) < 0) from by omega, if_false, Int.toNat_natCast, Array.getElem?_eq_none hge']
  refine wpAny_bind ?_
  first | refine wpAny_bind (wpAny_typeNameOfWhole_keyiter hit.typeIs (wpAny_pure ?_)) | refine wpAny_bind (wpAny_typeNameOf_keyiter hit.typeIs (wpAny_pure ?_))
  show wpAny _ _ (setField (.ref it) 0 .none >>= _) _ _ s
  refine wpAny_bind (wpAny_setField ho hd (by simp) ?_)
  show wpAny _ _ (newExc (.type "StopIteration") [] >>= _) _ _ _
  refine wpAny_bind ?_
  simp only [newExc, newTuple]
  refine wpAny_bind (wpAny_newObj_type ?_ (by size_fits))
  refine wpAny_bind (m := firstArgMember _ _) (wpAny_of_eq (a := Value.none) (by first | rfl | (simp only [firstArgMember]; rfl)) ?_)
  refine wpAny_newObj_type ?_ (by size_fits)
  simp only [raiseNew]
  refine wpAny_bind (wpAny_handled ?_)
  rw [show A.in1.handled = none from hh]
  refine wpAny_bind (wpAny_pure (wpAny_throw ?_))
  refine wpAny_bind (wpAny_isInstance (T := "StopIteration") (b := true) ⟨_, Heap.get?_push_size _ rfl, rfl⟩ isSubtype_stop ?_)
  exact wpAny_pure (hQ _ (((Heap.SameBut.update ..).extBut.push _).push _))
end

theorem kv_get {κ : Type} {kvs : List (κ × V)} {vs : List (κ × Value)} (h : KV kvs vs) : ∀ {i : Nat} {k : κ} {v : V}, kvs[i]? = some (k, v) → ∃ u, vs[i]? = some (k, u) ∧ RelV v u := by
  unfold KV at h
  induction h with
  | nil => intro i k v e; simp at e
  | @cons a b l₁ l₂ r t ih =>
    intro i k v e
    cases i with
    | zero =>
      simp only [List.getElem?_cons_zero, Option.some.injEq] at e
      subst e
      refine ⟨b.2, ?_, r.2⟩
      simp only [List.getElem?_cons_zero]
      exact congrArg some (Prod.ext r.1.symm rfl)
    | succ j =>
      simp only [List.getElem?_cons_succ] at e ⊢
      exact ih e
theorem paired_get {α β : Type} {G : α → β → Prop} {l₁ : List α} {l₂ : List β} (h : Paired G l₁ l₂) : ∀ {i : Nat} {a : α}, l₁[i]? = some a → ∃ b, l₂[i]? = some b ∧ G a b := by
  induction h with
  | nil => intro i a e; simp at e
  | @cons a b l₁ l₂ r t ih =>
    intro i a' e
    cases i with
    | zero =>
      simp only [List.getElem?_cons_zero, Option.some.injEq] at e
      subst e
      exact ⟨b, rfl, r⟩
    | succ j =>
      simp only [List.getElem?_cons_succ] at e ⊢
      exact ih e
theorem relV_key {k : Key} {u : Value} (h : keyIs k u = true) : RelV (kV k) u := by
  rcases keyIs_shape h with ⟨i, t, rfl, rfl⟩ | ⟨x, t, rfl, rfl⟩
  · exact ⟨t, rfl⟩
  · exact ⟨t, rfl⟩
section
variable {X : Cx} {pins : List (Addr × Obj)} {σ : St} {H : Hp} {s : Shared} {d : Addr} {o : Obj}
theorem Inv.frzK {kvs : List (Key × V)} (I : Inv X pins σ H s) (h : H d = some (.frz o (.dK kvs))) :
    (d == sysModules) = false ∧ s.heap.get? d = some o ∧ o.ExactDict ∧ ∃ (es : Array DictEntry) (ep : Nat) (vs : List (Key × Value)), o.data = .dict es ep ∧ es.size = kvs.length ∧ KV kvs vs ∧ s.heap.DictAt (mixKind X.prog X.w) d vs ep := by
  obtain ⟨hd, z, hs, vs, kv, o', es, ep, ho, hx, hdt, r⟩ := I.hok d _ h
  rw [hd] at ho
  cases ho
  refine ⟨hs, hd, hx, es, ep, vs, hdt, ?_, kv, o, es, hd, hx, hdt, r⟩
  have l1 := r.2.1.length
  have l2 : kvs.length = vs.length := Paired.length kv
  rw [Array.length_toList] at l1
  omega
theorem Inv.frzT {kvs : List (List Key × V)} (I : Inv X pins σ H s) (h : H d = some (.frz o (.dT kvs))) :
    (d == sysModules) = false ∧ s.heap.get? d = some o ∧ o.ExactDict ∧ ∃ (es : Array DictEntry) (ep : Nat), o.data = .dict es ep ∧ es.size = kvs.length ∧
      ∀ (i : Nat) (k : List Key) (v : V), kvs[i]? = some (k, v) → ∃ (en : DictEntry) (q : Addr), es[i]? = some en ∧ en.key = .ref q ∧ H q = some (.tup (k.map kV)) := by
  obtain ⟨hd, z, hs, xs, pr, o', es, ep, ho, hx, hdt, he, _⟩ := I.hok d _ h
  rw [hd] at ho
  cases ho
  refine ⟨hs, hd, hx, es, ep, hdt, ?_, fun i k v e => ?_⟩
  · have l1 : es.size = xs.length := size_of_entries he
    have l2 : kvs.length = xs.length := Paired.length pr
    omega
  · obtain ⟨b, hb, e1, e2, _⟩ := paired_get pr e
    have q := entry_at he i
    rw [hb] at q
    exact ⟨_, b.2.1, q, rfl, e2⟩
end

def Itk (d : Addr) (o : Obj) (kvs : List (Key × V)) : It :=
  ⟨fun i H => H d = some (.frz o (.dK kvs)) ∧ i < kvs.length, fun i H x H' => H' = H ∧ ∃ k v, kvs[i]? = some (k, v) ∧ x = kV k, fun i H => H d = some (.frz o (.dK kvs)) ∧ kvs.length ≤ i⟩
def Itkt (d : Addr) (o : Obj) (kvs : List (List Key × V)) : It :=
  ⟨fun i H => H d = some (.frz o (.dT kvs)) ∧ i < kvs.length, fun i H x H' => H' = H ∧ ∃ (k : List Key) (v : V) (q : Addr), kvs[i]? = some (k, v) ∧ x = .ref q ∧ H q = some (.tup (k.map kV)), fun i H => H d = some (.frz o (.dT kvs)) ∧ kvs.length ≤ i⟩
theorem dict_ep {o : Obj} {es es' : Array DictEntry} {ep ep' : Nat} (h : o.data = .dict es ep) (h' : o.data = .dict es' ep') : es' = es ∧ ep' = ep := by
  rw [h] at h'
  cases h'
  exact ⟨rfl, rfl⟩
section
variable {P : Program} {w : World} {K : PySem.W.Frag} {tg : Expr} {d : Addr} {o : Obj} {es : Array DictEntry} {ep : Nat}
theorem turn_keys {kvs : List (Key × V)} (it : Addr) (hod : o.data = .dict es ep) : Turn P w K tg (Itk d o kvs) [it] it (fun i h => h.IsKeyIter it d i kvs.length ep) where
  mem := by simp
  obj := fun i h st b hb => by
    have e : b = it := by simpa using hb
    subst e
    obtain ⟨oi, e, c, dd⟩ := st
    exact ⟨oi, e, fun v z => by rw [dd] at z; cases z⟩
  keep := fun i h h' st k => st.at fun oi e => k it (by simp) oi e
  item := by
    intro X hP hw hK hc i pins s σ H E I hf st hg
    subst hP hw hK
    obtain ⟨hd, hi⟩ := hg
    obtain ⟨f0, f1, f2, f3, f4, f5⟩ := hf it (by simp)
    obtain ⟨hs, hgd, hx, es', ep', vs, hdt, hsz, kv, hm⟩ := I.frzK hd
    obtain ⟨rfl, rfl⟩ := dict_ep hod hdt
    obtain ⟨⟨k, v⟩, hkv⟩ : ∃ p, kvs[i]? = some p := ⟨kvs[i], List.getElem?_eq_getElem hi⟩
    obtain ⟨u, hu, ru⟩ := kv_get kv hkv
    have hl : kvs.length = vs.length := Paired.length kv
    rw [hl] at st
    refine wpAny_pyNext_dict_item st hm hu fun key h' hkey st' sb => ?_
    have I1 : Inv X pins σ H { s with heap := h' } := I.turned (t' := s.toks) (fun b ob hb e => (sb.2 b hb).trans e) f0 f1 f3 f4 f5
    obtain ⟨oi, e, c, dd⟩ := id st'
    refine ⟨key, rfl, go_of (s := { s with heap := h' }) e c dd (by decide) ⟨kV k, H, I1, relV_key (show keyIs k key = true from hkey), ⟨rfl, k, v, hkv, rfl⟩, ?_, fun b hb => (hf b hb).1⟩⟩
    show h'.IsKeyIter it d (i + 1) kvs.length _
    rw [hl]
    exact st'
  done := by
    intro X hP hw hK hc i pins s σ H E I hf st hg
    subst hP hw hK
    obtain ⟨hd, hi⟩ := hg
    obtain ⟨f0, f1, f2, f3, f4, f5⟩ := hf it (by simp)
    obtain ⟨hs, hgd, hx, es', ep', vs, hdt, hsz, kv, hm⟩ := I.frzK hd
    obtain ⟨rfl, rfl⟩ := dict_ep hod hdt
    exact next_key_end (I.ok.hd hc) st hgd hdt hsz hi fun h' eb => ⟨rfl, I.turned (t' := s.toks) (fun b ob hb e => eb b ob hb e) f0 f1 f3 f4 f5⟩
  self := fun A i s Q E st h => wpAny_pyIter_keyiter st h
theorem turn_keysT {kvs : List (List Key × V)} (it : Addr) (hod : o.data = .dict es ep) : Turn P w K tg (Itkt d o kvs) [it] it (fun i h => h.IsKeyIter it d i kvs.length ep) where
  mem := by simp
  obj := fun i h st b hb => by
    have e : b = it := by simpa using hb
    subst e
    obtain ⟨oi, e, c, dd⟩ := st
    exact ⟨oi, e, fun v z => by rw [dd] at z; cases z⟩
  keep := fun i h h' st k => st.at fun oi e => k it (by simp) oi e
  item := by
    intro X hP hw hK hc i pins s σ H E I hf st hg
    subst hP hw hK
    obtain ⟨hd, hi⟩ := hg
    obtain ⟨f0, f1, f2, f3, f4, f5⟩ := hf it (by simp)
    obtain ⟨hs, hgd, hx, es', ep', hdt, hsz, ent⟩ := I.frzT hd
    obtain ⟨rfl, rfl⟩ := dict_ep hod hdt
    obtain ⟨⟨k, v⟩, hkv⟩ : ∃ p, kvs[i]? = some p := ⟨kvs[i], List.getElem?_eq_getElem hi⟩
    obtain ⟨en, q, hen, hkey, hq⟩ := ent i k v hkv
    refine next_key_item st hgd hdt hsz hen fun h' st' sb => ?_
    have I1 : Inv X pins σ H { s with heap := h' } := I.turned (t' := s.toks) (fun b ob hb e => (sb.2 b hb).trans e) f0 f1 f3 f4 f5
    obtain ⟨oi, e, c, dd⟩ := id st'
    exact ⟨en.key, rfl, go_of (s := { s with heap := h' }) e c dd (by decide) ⟨.ref q, H, I1, hkey, ⟨rfl, k, v, q, hkv, rfl, hq⟩, st', fun b hb => (hf b hb).1⟩⟩
  done := by
    intro X hP hw hK hc i pins s σ H E I hf st hg
    subst hP hw hK
    obtain ⟨hd, hi⟩ := hg
    obtain ⟨f0, f1, f2, f3, f4, f5⟩ := hf it (by simp)
    obtain ⟨hs, hgd, hx, es', ep', hdt, hsz, ent⟩ := I.frzT hd
    obtain ⟨rfl, rfl⟩ := dict_ep hod hdt
    exact next_key_end (I.ok.hd hc) st hgd hdt hsz hi fun h' eb => ⟨rfl, I.turned (t' := s.toks) (fun b ob hb e => eb b ob hb e) f0 f1 f3 f4 f5⟩
  self := fun A i s Q E st h => by
    refine wpAny_pyIter_slot st.typeIs F.slot_dict_keyiterator_iter (wpAny_call_entry F.slot_dict_keyiterator_iter st.typeIs F.entry_dict_keyiterator_iter ?_ (F.args_dict_keyiterator_iter_1 _))
    show wpAny _ _ (ret (.ref it)) _ _ s
    exact wpAny_pure ⟨_, rfl, "dict_keyiterator", _, st.typeIs, F.slot_dict_keyiterator_next.lookup, h⟩
end

def iKeys (td : TE) : TI := fun σ H R => td σ H fun x H1 => ∃ d o, x = .ref d ∧ ((∃ kvs, H1 d = some (.frz o (.dK kvs)) ∧ R (Itk d o kvs) H1) ∨ ∃ kvs, H1 d = some (.frz o (.dT kvs)) ∧ R (Itkt d o kvs) H1)
section
variable {X : Cx} {tg e : Expr} {td : TE} {apos cpos : Pos}
theorem pi_keys (he : PE X e td) : PI X tg e (iKeys td) := by
  intro pins s σ H R I h
  refine thn (he pins s σ H _ I h) fun u s1 ⟨x, H1, I1, rx, d, o, ex, q⟩ => ?_
  subst ex
  obtain rfl : u = Value.ref d := rx
  rcases q with ⟨kvs, hd, q⟩ | ⟨kvs, hd, q⟩
  · obtain ⟨hs, hgd, hx, es, ep, vs, hdt, hsz, kv, hm⟩ := I1.frzK hd
    refine iter_keys hs hgd hx hdt (pi_one (tk := s1.toks) I1 _ (turn_keys _ hdt) ⟨_, Heap.get?_push_size _ rfl, rfl, ?_⟩ q)
    rw [hsz] <;> rfl
  · obtain ⟨hs, hgd, hx, es, ep, hdt, hsz, ent⟩ := I1.frzT hd
    refine iter_keys hs hgd hx hdt (pi_one (tk := s1.toks) I1 _ (turn_keysT _ hdt) ⟨_, Heap.get?_push_size _ rfl, rfl, ?_⟩ q)
    rw [hsz] <;> rfl
end

end L2

section 
namespace Bits
open PySem PyProof.Rows

end Bits
end 

section 
namespace TL
open PySem PySem.Builtin PySem.Builtin.Str PySem.StrLaws

end TL
end 

namespace L2
open PySem PySem.Spec PyProof.Rows

section
variable {X : Cx} {pins : List (Addr × Obj)} {σ : St} {H : Hp} {s : Shared} {Q : VK}
end

section
variable {X : Cx}

end

section
variable {X : Cx} {o e : Expr} {to te : TE}
end
end L2

namespace L2
open PySem PySem.Spec PyProof.Rows

section
variable {X : Cx}
end

end L2

namespace Att
open PySem PySem.W PySem.Calls PyProof.Rows

section
variable {prog : Program} {w : World} {A : Around} {E : Value → Shared → Prop} {s : Shared} {K : Frag}

end
end Att

namespace L2
open PySem PySem.Spec PyProof.Rows

end L2

namespace L2
open PySem PySem.Spec PyProof.Rows

abbrev KOf {K : PySem.W.Frag} {h : Heap} (_ : K.In h) : PySem.W.Frag := K

end L2


namespace L2
open PySem PySem.Spec PyProof.Rows

def inClass (s : Stmt) (j : Nat) : Stmt := match s with
  | .ClassDef _ _ _ body _ _ _ _ _ _ _ => body.getD j (.Pass ⟨0, 0, 0, 0⟩)
  | _ => .Pass ⟨0, 0, 0, 0⟩
def defArgs (s : Stmt) : Arguments := match s with
  | .FunctionDef _ a _ _ _ _ _ _ _ _ => a
  | _ => { posonlyargs := [], args := [], vararg := none, kwonlyargs := [], kw_defaults := [], kwarg := none, defaults := [] }
def defBody (s : Stmt) : List Stmt := match s with
  | .FunctionDef _ _ b _ _ _ _ _ _ _ => b
  | _ => []
def defScope (s : Stmt) : Scope := match s with
  | .FunctionDef _ _ _ _ _ _ sc _ _ _ => sc
  | _ => { kind := .function, names := [], isGenerator := false, isCoroutine := false }

abbrev CX0 : CXT := fun _ _ _ _ _ _ => False
abbrev E0 : XK := fun _ _ _ => False
theorem pass0 {X : Cx} : Passes CX0 X E0 := fun _ _ _ _ _ _ _ h => h.elim

structure Fun (K : PySem.W.Frag) (x qual : Str) (st : Stmt) (f : Addr) (fd : FuncData) : Prop where
  ex : ∃ (oc : Value) (od : Option Addr) (kV doc pm : Value) (an : Option Addr) (cdv ct : Value) (osl : Array (Option Value)),
    fd = PySem.W.fnOf x qual (defArgs st) (defBody st) (defScope st) .none kV doc pm an cdv ct ∧ K.lookup f = some ⟨oc, od, .func fd, osl⟩ ∧ PySem.W.codeIn K cdv qual = true
  kp : PySem.W.keepIn K (.ref f) = true
section
variable {P : Program} {w : World} {K : PySem.W.Frag} {mg : Str → Option Value} {base : Heap}
theorem Fun.ok {x qual : Str} {st : Stmt} {f : Addr} {fd : FuncData} {N ps : List Str} {k : Nat} {sp : Sp} (F : Fun K x qual st f fd) (S : FnScope N ps (defScope st)) (len : ∀ vs H Q E, sp vs H Q E → vs.length = ps.length)
    (hbody : ∀ (cdv : Value) (A : Around) (outer : List Env) (s : Shared) (H : Hp) (vs : List V) (Q : VK) (E : XK), Room k (A.deeper (envOfC qual (defScope st) s.heap.objs.size f cdv)) → sp vs H Q E →
      ∃ t, PSs (cxOf CX0 P w K mg base N qual (defScope st) f cdv A outer s H E).nox (defBody st) t ∧ t { nx := fun _ H' => Q .non H', rt := Q } (start N vs) H) : FnOk P w K mg base CX0 (k + 1) f fd ps sp := by
  obtain ⟨oc, od, kV, doc, pm, an, cdv, ct, osl, rfl, lk, hcd⟩ := F.ex
  refine fn_of lk hcd S len fun A outer s H vs Q E hr hsp => ?_
  obtain ⟨t, h, q⟩ := hbody cdv A outer s H vs Q E hr hsp
  exact ⟨t, h.nox, q⟩
theorem Fun.binds {x qual : Str} {st : Stmt} {f : Addr} {fd : FuncData} {ps : List Str} (F : Fun K x qual st f fd)
    (h : ∀ (kV doc pm : Value) (an : Option Addr) (cdv ct : Value) (us : List Value), us.length = ps.length → bindArgs (PySem.W.fnOf x qual (defArgs st) (defBody st) (defScope st) .none kV doc pm an cdv ct) ⟨us, []⟩ = pure (ps.zip us)) : Binds K fd ps [] := by
  obtain ⟨oc, od, kV, doc, pm, an, cdv, ct, osl, rfl, lk, hcd⟩ := F.ex
  exact .all (h kV doc pm an cdv ct)
theorem fun_mk {x qual : Str} {st : Stmt} {f : Addr} {oc : Value} {od an : Option Addr} {osl : Array (Option Value)} {kV doc pm cdv ct : Value} (l : K.lookup f = some ⟨oc, od, .func (PySem.W.fnOf x qual (defArgs st) (defBody st) (defScope st) .none kV doc pm an cdv ct), osl⟩)
    (c : PySem.W.codeIn K cdv qual = true) (k : PySem.W.keepIn K (.ref f) = true) : Fun K x qual st f (PySem.W.fnOf x qual (defArgs st) (defBody st) (defScope st) .none kV doc pm an cdv ct) := ⟨⟨oc, od, kV, doc, pm, an, cdv, ct, osl, rfl, l, c⟩, k⟩
end
theorem hu_of {A : Around} {k : Nat} (hr : Room k A) : A.units + 1 < cLine := Nat.lt_of_le_of_lt (Nat.add_le_add_left (by decide : 1 ≤ 64) _) hr.units
theorem small1000 {n : Nat} (h : n ≤ 1000) : n < sizeLine := Nat.lt_of_le_of_lt h (by decide)

section
variable {X : Cx}
theorem pv (i : Nat) {x : Str} {pos : Pos} (hN : X.N[i]? = some x := by rfl) (hv : Vis X.env.scope x := by first | exact Or.inl rfl | exact Or.inr (Or.inl rfl) | exact Or.inr (Or.inr rfl)) (hd : (x == ("__debug__" : Str)) = false := by decide)
    (hcd : (x == ("__classdict__" : Str)) = false := by decide) : PE X (.Name x pos) (tVar i) := pe_var hN hv hd hcd
theorem call_lenD : CallR X (.builtin "len") (fun xs H Q => ∃ a kvs, xs = [V.ref a] ∧ H a = some (.dK kvs) ∧ Q (.int kvs.length) H) := by
  intro pins s σ H xs us Q I r h
  obtain ⟨a, kvs, rfl, ha, q⟩ := h
  obtain ⟨u, rfl, ru⟩ := vals1 r
  cases ru
  exact d_len I (.inl ha) fun t s' I' => ⟨.int kvs.length, H, I', ⟨t, rfl⟩, q⟩
end

theorem iteF {A B : Prop} (h : B) : if false = true then A else B := by
  rw [if_neg Bool.false_ne_true]
  exact h
theorem iteT {A B : Prop} (h : A) : if true = true then A else B := by
  rw [if_pos rfl]
  exact h
theorem ite2 {c A B : Prop} [Decidable c] (h1 : c → A) (h2 : ¬ c → B) : if c then A else B := by
  by_cases h : c
  · rw [if_pos h]
    exact h1 h
  · rw [if_neg h]
    exact h2 h
def Same (H H' : Hp) : Prop := ∀ b o, H b = some o → H' b = some o
theorem Same.refl (H : Hp) : Same H H := fun _ _ h => h
theorem Same.trans {H H1 H2 : Hp} (a : Same H H1) (b : Same H1 H2) : Same H H2 := fun c o h => b c o (a c o h)
theorem Same.free {H H' : Hp} (e : Same H H') {l : Addr} (h : H' l = Option.none) : H l = Option.none := by
  cases q : H l with
  | none => rfl
  | some o =>
    rw [e l o q] at h
    cases h
theorem Same.seq {K : PySem.W.Frag} {H H' : Hp} {a : Addr} {xs : List V} (e : Same H H') (h : SqL K H a xs) : SqL K H' a xs := by
  rcases h with (h | ⟨o, h⟩) | h
  · exact .inl (.inl (e _ _ h))
  · exact .inl (.inr ⟨o, e _ _ h⟩)
  · exact .inr h

section
variable {κ : Type} [DecidableEq κ]
end
theorem at_of {xs : List V} {z : Int} {j : Nat} {v : V} (e : z = (j : Int)) (h : xs[j]? = some v) : atI xs z = some v := by
  rw [e]
  exact atI_nat h
theorem Same.made {H H1 : Hp} {x dx C : Addr} (nx : H x = Option.none) (nd : H dx = Option.none) (k : ∀ b o, (upd (upd H dx (.own x)) x (.ins C dx [])) b = some o → b ≠ x → H1 b = some o) : Same H H1 := fun b o e =>
  k b o (by rw [upd_ne (ne_of_none e nx), upd_ne (ne_of_none e nd)]; exact e) (ne_of_none e nx)
end L2

section
set_option Elab.async false
set_option linter.all false
set_option maxRecDepth 100000
set_option maxHeartbeats 2000000
namespace L2
open PySem PySem.Spec PyProof.Rows
open PySem.W (WData Codec OpenSpec Well WellAll ReadsW ReadsAllW)
mutual
/-- x stands for the datum d, lists and tuples all the way -/
inductive Dw (K : PySem.W.Frag) (H : Hp) : V → WData → Prop
  | non : Dw K H .non .none
  | bl (b : Bool) : Dw K H (.bl b) (.bool b)
  | int (i : Int) : Dw K H (.int i) (.int i)
  | str (x : Str) : Dw K H (.str x) (.str x)
  | byt (b : Array UInt8) : Dw K H (.byt b) (.bytes b.toList)
  | lst {a : Addr} {xs : List V} {ds : List WData} : SqL K H a xs → DwAll K H xs ds → Dw K H (.ref a) (.list ds)
  | tup {a : Addr} {xs : List V} {ds : List WData} : SqT K H a xs → DwAll K H xs ds → Dw K H (.ref a) (.tuple ds)
inductive DwAll (K : PySem.W.Frag) (H : Hp) : List V → List WData → Prop
  | nil : DwAll K H [] []
  | cons {v : V} {vs : List V} {d : WData} {ds : List WData} : Dw K H v d → DwAll K H vs ds → DwAll K H (v :: vs) (d :: ds)
end
theorem dw_ints {K : PySem.W.Frag} {H : Hp} : ∀ ns : List Int, DwAll K H (ns.map V.int) (ns.map WData.int)
  | [] => .nil
  | n :: r => .cons (.int n) (dw_ints r)
theorem ints_dw {K : PySem.W.Frag} {H : Hp} : ∀ (ns : List Int) (xs : List V), DwAll K H xs (ns.map WData.int) → xs = ns.map V.int
  | [], xs, h => by
    cases h
    rfl
  | n :: r, xs, h => by
    cases h with
    | cons h1 h2 =>
      cases h1
      rw [ints_dw r _ h2] <;> rfl
section
variable {P : Program} {w : World} {K : PySem.W.Frag} {H : Hp} {h : Heap} {R : PySem.W.WRecords} {cl : Str → Option Addr}
theorem sqL_at {a : Addr} {xs : List V} (hok : HOk P w H h) (KX : K.In h) (q : SqL K H a xs) : ∃ (its : List Value) (o : Obj) (n : Nat), Vals xs its ∧ h.get? a = some o ∧ o.cls = .type "list" ∧ o.data = .seq its.toArray n := by
  rcases q with q | ⟨o, its, n, e, hc, _, hd, _, hv⟩
  · obtain ⟨_, its, n, hv, e⟩ := (show ObjOk P w H h a (.lst xs) from q.ok hok)
    exact ⟨its, _, n, hv, e, rfl, rfl⟩
  · exact ⟨its.toList, o, n, hv, KX _ _ e, hc, by simp [hd]⟩
theorem sqT_at {a : Addr} {xs : List V} (hok : HOk P w H h) (KX : K.In h) (q : SqT K H a xs) : ∃ (its : List Value) (o : Obj) (n : Nat), Vals xs its ∧ h.get? a = some o ∧ o.cls = .type "tuple" ∧ o.data = .seq its.toArray n := by
  rcases q with q | ⟨o, its, n, e, hc, hd, _, hv⟩
  · obtain ⟨_, its, hv, o, e, hc, n, hd⟩ := (show ObjOk P w H h a (.tup xs) from q.ok hok)
    exact ⟨its, o, n, hv, e, hc, hd⟩
  · exact ⟨its.toList, o, n, hv, KX _ _ e, hc, by simp [hd]⟩
mutual
theorem Dw.reads (hok : HOk P w H h) (KX : K.In h) : ∀ (d : WData) (v : V) (u : Value), Dw K H v d → RelV v u → ∃ as, ReadsW R cl h u d as
  | .none, _, _, x, r => by
    cases x
    cases r
    exact ⟨_, ReadsW.none⟩
  | .bool b, _, _, x, r => by
    cases x
    cases r
    exact ⟨_, ReadsW.bool b⟩
  | .int i, _, _, x, r => by
    cases x
    obtain ⟨t, rfl⟩ := r
    exact ⟨_, ReadsW.int i t⟩
  | .str s, _, _, x, r => by
    cases x
    obtain ⟨t, rfl⟩ := r
    exact ⟨_, ReadsW.str s t⟩
  | .bytes b, _, _, x, r => by
    cases x
    obtain ⟨t, rfl⟩ := r
    exact ⟨_, ReadsW.bytes _ t⟩
  | .list ds, _, _, x, r => by
    cases x with
    | lst hs ha =>
      cases r
      obtain ⟨its, o, n, rv, ho, hc, hd⟩ := sqL_at hok KX hs
      obtain ⟨as, hr⟩ := Dw.readsAll hok KX ds _ its ha rv
      exact ⟨_, ReadsW.list ho hc hd hr⟩
  | .tuple ds, _, _, x, r => by
    cases x with
    | tup hs ha =>
      cases r
      obtain ⟨its, o, n, rv, ho, hc, hd⟩ := sqT_at hok KX hs
      obtain ⟨as, hr⟩ := Dw.readsAll hok KX ds _ its ha rv
      exact ⟨_, ReadsW.tuple ho hc hd hr⟩
  | .float _, _, _, x, _ => by cases x
  | .dict _, _, _, x, _ => by cases x
  | .bytearray _, _, _, x, _ => by cases x
  | .set _, _, _, x, _ => by cases x
  | .frozenset _, _, _, x, _ => by cases x
  | .obj _ _, _, _, x, _ => by cases x
theorem Dw.readsAll (hok : HOk P w H h) (KX : K.In h) : ∀ (ds : List WData) (vs : List V) (us : List Value), DwAll K H vs ds → Vals vs us → ∃ as, ReadsAllW R cl h us ds as
  | [], _, _, x, r => by
    cases x
    cases r
    exact ⟨_, ReadsAllW.nil⟩
  | d :: ds, _, _, x, r => by
    cases x with
    | cons h1 h2 =>
      cases r with
      | cons r1 r2 =>
        obtain ⟨as, q1⟩ := Dw.reads hok KX d _ _ h1 r1
        obtain ⟨bs, q2⟩ := Dw.readsAll hok KX ds _ _ h2 r2
        exact ⟨_, ReadsAllW.cons q1 q2⟩
end
end
mutual
/-- data that a codec tells -/
def plW : WData → Bool
  | .none => true
  | .bool _ => true
  | .int _ => true
  | .str _ => true
  | .bytes _ => true
  | .list xs => plWs xs
  | .tuple xs => plWs xs
  | _ => false
def plWs : List WData → Bool
  | [] => true
  | x :: r => plW x && plWs r
end
theorem plWs_map {α : Type} {f : α → WData} (h : ∀ a, plW (f a) = true) : ∀ l : List α, plWs (l.map f) = true
  | [] => rfl
  | x :: r => by
    show (plW (f x) && plWs (r.map f)) = true
    rw [h x, plWs_map h r] <;> rfl
theorem pl_enc : ∀ (c : Codec) (a : c.denote), plW (c.enc a) = true
  | .unit, _ => rfl
  | .bool, _ => rfl
  | .int _ _, _ => rfl
  | .nat _ _, _ => rfl
  | .u8, _ => rfl
  | .bytes _ _, _ => rfl
  | .text _ _ _ _, _ => rfl
  | .list _ _ c, a => plWs_map (fun x => pl_enc c x) a
  | .pair c d, a => by
    show (plW (c.enc a.1) && (plW (d.enc a.2) && true)) = true
    rw [pl_enc c a.1, pl_enc d a.2] <;> rfl
  | .triple c d e, a => by
    show (plW (c.enc a.1) && (plW (d.enc a.2.1) && (plW (e.enc a.2.2) && true))) = true
    rw [pl_enc c a.1, pl_enc d a.2.1, pl_enc e a.2.2] <;> rfl
  | .option c, none => rfl
  | .option c, some x => pl_enc c x
theorem pl_encAll : ∀ (cs : List Codec) (a : Codec.denoteAll cs), plWs (Codec.encAll cs a) = true
  | [], _ => rfl
  | c :: cs, a => by
    show (plW (c.enc a.1) && plWs (Codec.encAll cs a.2)) = true
    rw [pl_enc c a.1, pl_encAll cs a.2] <;> rfl
theorem weight_mem : ∀ {xs : List WData} {d : WData}, d ∈ xs → d.weight ≤ WData.weightAll xs
  | [], d, h => absurd h (by simp)
  | x :: r, d, h => by
    show d.weight ≤ x.weight + 1 + WData.weightAll r
    rcases List.mem_cons.mp h with e | m
    · rw [e]
      omega
    · have z := weight_mem m
      omega
def toV : Value → V
  | .none => .non
  | .bool b => .bl b
  | .int i _ => .int i
  | .str x _ => .str x
  | .bytes b _ => .byt b
  | .ref a => .ref a
  | _ => .non
def OkU (A : List Addr) : Value → Prop
  | .none => True
  | .bool _ => True
  | .int _ _ => True
  | .str _ _ => True
  | .bytes _ _ => True
  | .ref a => a ∈ A
  | _ => False
theorem OkU.mono {A B : List Addr} (h : ∀ a ∈ A, a ∈ B) : ∀ {u : Value}, OkU A u → OkU B u := fun {u} x => by
  cases u with
  | ref a => exact h a x
  | none => trivial
  | bool b => trivial
  | int i t => trivial
  | str s t => trivial
  | bytes b t => trivial
  | _ => exact False.elim x
theorem relV_toV {A : List Addr} {u : Value} (x : OkU A u) : RelV (toV u) u := by
  cases u with
  | ref a => rfl
  | none => rfl
  | bool b => rfl
  | int i t => exact ⟨t, rfl⟩
  | str s t => exact ⟨t, rfl⟩
  | bytes b t => exact ⟨t, rfl⟩
  | _ => exact False.elim x
theorem vals_toV {A : List Addr} : ∀ {vs : List Value}, (∀ u ∈ vs, OkU A u) → Vals (vs.map toV) vs
  | [], _ => .nil
  | u :: r, h => .cons (relV_toV (h u (List.mem_cons_self ..))) (vals_toV fun x hx => h x (List.mem_cons_of_mem _ hx))
def ArgOb (h : Heap) (A : List Addr) (a : Addr) : Prop := ∃ vs : List Value, vs.length ≤ sizeLine ∧ (∀ u ∈ vs, OkU A u) ∧
  (h.get? a = some { cls := .type "list", data := .seq vs.toArray } ∨ h.get? a = some { cls := .type "tuple", data := .seq vs.toArray })
theorem ArgOb.mono {h : Heap} {A B : List Addr} {a : Addr} (k : ∀ a ∈ A, a ∈ B) (x : ArgOb h A a) : ArgOb h B a := by
  obtain ⟨vs, h1, h2, h3⟩ := x
  exact ⟨vs, h1, fun u hu => (h2 u hu).mono k, h3⟩
theorem wellAll_len {P : Params} {h : Heap} : ∀ {vs : List Value} {ds : List WData}, WellAll P h vs ds → vs.length = ds.length
  | _, _, .nil => rfl
  | _, _, .cons _ b => by
    show _ + 1 = _ + 1
    rw [wellAll_len b]
theorem well_list {P : Params} {h : Heap} {v : Value} {ds : List WData} (x : Well P h v (.list ds)) : ∃ (a : Addr) (vs : List Value), v = .ref a ∧ h.get? a = some { cls := .type "list", data := .seq vs.toArray } ∧ WellAll P h vs ds := by
  cases x with
  | list ho hall => exact ⟨_, _, rfl, ho, hall⟩
theorem well_tuple {P : Params} {h : Heap} {v : Value} {ds : List WData} (x : Well P h v (.tuple ds)) : ∃ (a : Addr) (vs : List Value), v = .ref a ∧ h.get? a = some { cls := .type "tuple", data := .seq vs.toArray } ∧ WellAll P h vs ds := by
  cases x with
  | tuple ho hall => exact ⟨_, _, rfl, ho, hall⟩
theorem well_cons {P : Params} {h : Heap} {us : List Value} {d : WData} {ds : List WData} (x : WellAll P h us (d :: ds)) : ∃ (v : Value) (vs : List Value), us = v :: vs ∧ Well P h v d ∧ WellAll P h vs ds := by
  cases x with
  | cons a b => exact ⟨_, _, rfl, a, b⟩
theorem line_of {n : Nat} (h : n ≤ 1048576) : n ≤ sizeLine := Nat.le_trans h (by decide)
section
variable {P : Params} {h : Heap}
mutual
theorem area_one : ∀ (d : WData) (v : Value), Well P h v d → plW d = true → d.weight ≤ 1048576 → ∃ A : List Addr, OkU A v ∧ ∀ a ∈ A, ArgOb h A a
  | .none, _, x, _, _ => by
    cases x
    exact ⟨[], trivial, fun a m => absurd m (by simp)⟩
  | .bool b, _, x, _, _ => by
    cases x
    exact ⟨[], trivial, fun a m => absurd m (by simp)⟩
  | .int i, _, x, _, _ => by
    cases x
    exact ⟨[], trivial, fun a m => absurd m (by simp)⟩
  | .str s, _, x, _, _ => by
    cases x
    exact ⟨[], trivial, fun a m => absurd m (by simp)⟩
  | .bytes b, _, x, _, _ => by
    cases x
    exact ⟨[], trivial, fun a m => absurd m (by simp)⟩
  | .list ds, _, x, p, z => by
    obtain ⟨a, vs, rfl, ho, hall⟩ := well_list x
    have z2 : WData.weightAll ds ≤ 1048576 := z
    obtain ⟨A, h1, h2⟩ := area_all ds _ hall p fun d hd => Nat.le_trans (weight_mem hd) z2
    have k : ∀ b ∈ A, b ∈ a :: A := fun b hb => List.mem_cons_of_mem _ hb
    refine ⟨a :: A, List.mem_cons_self .., fun b hb => ?_⟩
    rcases List.mem_cons.mp hb with e | m
    · rw [e]
      exact ⟨vs, line_of (by rw [wellAll_len hall]; exact Nat.le_trans (PySem.W.length_le_weightAllW ds) z2), fun u hu => (h1 u hu).mono k, .inl ho⟩
    · exact (h2 b m).mono k
  | .tuple ds, _, x, p, z => by
    obtain ⟨a, vs, rfl, ho, hall⟩ := well_tuple x
    have z2 : WData.weightAll ds ≤ 1048576 := z
    obtain ⟨A, h1, h2⟩ := area_all ds _ hall p fun d hd => Nat.le_trans (weight_mem hd) z2
    have k : ∀ b ∈ A, b ∈ a :: A := fun b hb => List.mem_cons_of_mem _ hb
    refine ⟨a :: A, List.mem_cons_self .., fun b hb => ?_⟩
    rcases List.mem_cons.mp hb with e | m
    · rw [e]
      exact ⟨vs, line_of (by rw [wellAll_len hall]; exact Nat.le_trans (PySem.W.length_le_weightAllW ds) z2), fun u hu => (h1 u hu).mono k, .inr ho⟩
    · exact (h2 b m).mono k
  | .float _, _, _, p, _ => Bool.noConfusion (show false = true from p)
  | .dict _, _, _, p, _ => Bool.noConfusion (show false = true from p)
  | .bytearray _, _, _, p, _ => Bool.noConfusion (show false = true from p)
  | .set _, _, _, p, _ => Bool.noConfusion (show false = true from p)
  | .frozenset _, _, _, p, _ => Bool.noConfusion (show false = true from p)
  | .obj _ _, _, _, p, _ => Bool.noConfusion (show false = true from p)
theorem area_all : ∀ (ds : List WData) (vs : List Value), WellAll P h vs ds → plWs ds = true → (∀ d ∈ ds, d.weight ≤ 1048576) → ∃ A : List Addr, (∀ u ∈ vs, OkU A u) ∧ ∀ a ∈ A, ArgOb h A a
  | [], _, x, _, _ => by
    cases x
    exact ⟨[], fun u m => absurd m (by simp), fun a m => absurd m (by simp)⟩
  | d :: ds, _, x, p, z => by
    obtain ⟨v, vs, rfl, x1, x2⟩ := well_cons x
    have q : plW d = true ∧ plWs ds = true := Bool.and_eq_true_iff.mp p
    obtain ⟨A, a1, a2⟩ := area_one d v x1 q.1 (z d (List.mem_cons_self ..))
    obtain ⟨B, b1, b2⟩ := area_all ds vs x2 q.2 fun e he => z e (List.mem_cons_of_mem _ he)
    have kA : ∀ b ∈ A, b ∈ A ++ B := fun b hb => List.mem_append.mpr (.inl hb)
    have kB : ∀ b ∈ B, b ∈ A ++ B := fun b hb => List.mem_append.mpr (.inr hb)
    refine ⟨A ++ B, fun u hu => ?_, fun b hb => ?_⟩
    · rcases List.mem_cons.mp hu with e | m
      · rw [e]
        exact a1.mono kA
      · exact (b1 u m).mono kB
    · rcases List.mem_append.mp hb with m | m
      · exact (a2 b m).mono kA
      · exact (b2 b m).mono kB
end
end
def hoOf (o : Obj) : Option HO := match o.data with
  | .seq vs _ => if (o.cls == Value.type "list") = true then some (.frz o (.lst (vs.toList.map toV))) else some (.frz o (.tup (vs.toList.map toV)))
  | _ => none
def argH (K : PySem.W.Frag) (h : Heap) (A : List Addr) : Hp := fun b => if b ∈ A then (if (K.lookup b).isNone = true then (h.get? b).bind hoOf else none) else none
def OnlyF (H : Hp) : Prop := ∀ b, H b = none ∨ ∃ o u, H b = some (.frz o u)
theorem hoOf_lst (vs : List Value) : hoOf { cls := .type "list", data := .seq vs.toArray } = some (.frz { cls := .type "list", data := .seq vs.toArray } (.lst (vs.map toV))) := by
  show (if (Value.type "list" == Value.type "list") = true then some (HO.frz { cls := .type "list", data := .seq vs.toArray } (.lst (vs.toArray.toList.map toV))) else some (HO.frz { cls := .type "list", data := .seq vs.toArray } (.tup (vs.toArray.toList.map toV)))) = _
  rw [if_pos (beq_self_eq_true _)]
theorem hoOf_tup (vs : List Value) : hoOf { cls := .type "tuple", data := .seq vs.toArray } = some (.frz { cls := .type "tuple", data := .seq vs.toArray } (.tup (vs.map toV))) := by
  show (if (Value.type "tuple" == Value.type "list") = true then some (HO.frz { cls := .type "tuple", data := .seq vs.toArray } (.lst (vs.toArray.toList.map toV))) else some (HO.frz { cls := .type "tuple", data := .seq vs.toArray } (.tup (vs.toArray.toList.map toV)))) = _
  rw [if_neg (by decide)]
section
variable {P : Program} {w : World} {K : PySem.W.Frag} {h : Heap} {A : List Addr}
theorem argH_at {b : Addr} {o : Obj} (hb : b ∈ A) (hk : K.lookup b = none) (e : h.get? b = some o) : argH K h A b = hoOf o := by
  unfold argH
  rw [if_pos hb, hk, if_pos (show (none : Option Obj).isNone = true from rfl), e] <;> rfl
theorem of_argH {b : Addr} {u : HO} (q : argH K h A b = some u) : b ∈ A ∧ K.lookup b = none := by
  unfold argH at q
  by_cases hb : b ∈ A
  · rw [if_pos hb] at q
    cases hk : K.lookup b with
    | none => exact ⟨hb, rfl⟩
    | some o =>
      rw [hk, if_neg (by simp)] at q
      cases q
  · rw [if_neg hb] at q
    cases q
theorem argH_is (ar : ∀ a ∈ A, ArgOb h A a) {b : Addr} {u : HO} (q : argH K h A b = some u) : K.lookup b = none ∧ ∃ vs : List Value, vs.length ≤ sizeLine ∧ (∀ u ∈ vs, OkU A u) ∧
    ((h.get? b = some { cls := .type "list", data := .seq vs.toArray } ∧ u = .frz { cls := .type "list", data := .seq vs.toArray } (.lst (vs.map toV))) ∨
     (h.get? b = some { cls := .type "tuple", data := .seq vs.toArray } ∧ u = .frz { cls := .type "tuple", data := .seq vs.toArray } (.tup (vs.map toV)))) := by
  obtain ⟨hb, hk⟩ := of_argH q
  obtain ⟨vs, h1, h2, h3⟩ := ar b hb
  refine ⟨hk, vs, h1, h2, ?_⟩
  rcases h3 with e | e
  · rw [argH_at hb hk e, hoOf_lst] at q
    exact .inl ⟨e, (Option.some.inj q).symm⟩
  · rw [argH_at hb hk e, hoOf_tup] at q
    exact .inr ⟨e, (Option.some.inj q).symm⟩
theorem argH_only (ar : ∀ a ∈ A, ArgOb h A a) : OnlyF (argH K h A) := fun b => by
  cases q : argH K h A b with
  | none => exact .inl rfl
  | some u =>
    obtain ⟨_, vs, _, _, ⟨_, e⟩ | ⟨_, e⟩⟩ := argH_is ar q
    · exact .inr ⟨_, _, by rw [e]⟩
    · exact .inr ⟨_, _, by rw [e]⟩
theorem argH_ok (ar : ∀ a ∈ A, ArgOb h A a) : HOk P w (argH K h A) h := fun b u q => by
  obtain ⟨_, vs, h1, h2, ⟨e, rfl⟩ | ⟨e, rfl⟩⟩ := argH_is ar q
  · exact ⟨e, by rw [List.length_map]; exact h1, vs, _, vals_toV h2, e⟩
  · exact ⟨e, by rw [List.length_map]; exact h1, vs, vals_toV h2, _, e, rfl, _, rfl⟩
theorem seq_inj {c c' : Value} {vs us : List Value} (e : (some { cls := c, data := .seq vs.toArray } : Option Obj) = some { cls := c', data := .seq us.toArray }) : c = c' ∧ vs = us := by
  have e1 := Option.some.inj e
  have e2 : c = c' := congrArg Obj.cls e1
  have e3 : Data.seq vs.toArray = Data.seq us.toArray := congrArg Obj.data e1
  injection e3 with e4
  refine ⟨e2, ?_⟩
  have e5 := congrArg Array.toList e4
  simpa using e5
theorem argL (KX : K.In h) (ar : ∀ a ∈ A, ArgOb h A a) {a : Addr} {vs : List Value} (ha : a ∈ A) (e : h.get? a = some { cls := .type "list", data := .seq vs.toArray }) : (∀ u ∈ vs, OkU A u) ∧ SqL K (argH K h A) a (vs.map toV) := by
  obtain ⟨us, h1, h2, h3⟩ := ar a ha
  have hu : us = vs := by
    rcases h3 with q | q
    · rw [e] at q
      exact (seq_inj q).2.symm
    · rw [e] at q
      exact absurd (Value.type.inj (seq_inj q).1) (by decide)
  subst hu
  refine ⟨h2, ?_⟩
  cases hk : K.lookup a with
  | none => exact .inl (.inr ⟨_, by rw [argH_at ha hk e, hoOf_lst]⟩)
  | some o =>
    have e2 := KX a o hk
    rw [e] at e2
    obtain rfl := Option.some.inj e2
    exact .inr ⟨_, us.toArray, _, hk, rfl, rfl, rfl, by rw [List.size_toArray]; exact h1, by simpa using vals_toV h2⟩
theorem argT (KX : K.In h) (ar : ∀ a ∈ A, ArgOb h A a) {a : Addr} {vs : List Value} (ha : a ∈ A) (e : h.get? a = some { cls := .type "tuple", data := .seq vs.toArray }) : (∀ u ∈ vs, OkU A u) ∧ SqT K (argH K h A) a (vs.map toV) := by
  obtain ⟨us, h1, h2, h3⟩ := ar a ha
  have hu : us = vs := by
    rcases h3 with q | q
    · rw [e] at q
      exact absurd (Value.type.inj (seq_inj q).1) (by decide)
    · rw [e] at q
      exact (seq_inj q).2.symm
  subst hu
  refine ⟨h2, ?_⟩
  cases hk : K.lookup a with
  | none => exact .inl (.inr ⟨_, by rw [argH_at ha hk e, hoOf_tup]⟩)
  | some o =>
    have e2 := KX a o hk
    rw [e] at e2
    obtain rfl := Option.some.inj e2
    exact .inr ⟨_, us.toArray, _, hk, rfl, rfl, by rw [List.size_toArray]; exact h1, by simpa using vals_toV h2⟩
mutual
theorem dw_one {Pm : Params} (KX : K.In h) (ar : ∀ a ∈ A, ArgOb h A a) : ∀ (d : WData) (v : Value), Well Pm h v d → plW d = true → OkU A v → Dw K (argH K h A) (toV v) d
  | .none, _, x, _, _ => by
    cases x
    exact .non
  | .bool b, _, x, _, _ => by
    cases x
    exact .bl b
  | .int i, _, x, _, _ => by
    cases x
    exact .int i
  | .str s, _, x, _, _ => by
    cases x
    exact .str s
  | .bytes b, _, x, _, _ => by
    cases x
    have z := Dw.byt (K := K) (H := argH K h A) b.toArray
    exact z
  | .list ds, _, x, p, hu => by
    obtain ⟨a, vs, rfl, ho, hall⟩ := well_list x
    obtain ⟨h2, hs⟩ := argL KX ar hu ho
    exact .lst hs (dw_all KX ar ds _ hall p h2)
  | .tuple ds, _, x, p, hu => by
    obtain ⟨a, vs, rfl, ho, hall⟩ := well_tuple x
    obtain ⟨h2, hs⟩ := argT KX ar hu ho
    exact .tup hs (dw_all KX ar ds _ hall p h2)
  | .float _, _, _, p, _ => Bool.noConfusion (show false = true from p)
  | .dict _, _, _, p, _ => Bool.noConfusion (show false = true from p)
  | .bytearray _, _, _, p, _ => Bool.noConfusion (show false = true from p)
  | .set _, _, _, p, _ => Bool.noConfusion (show false = true from p)
  | .frozenset _, _, _, p, _ => Bool.noConfusion (show false = true from p)
  | .obj _ _, _, _, p, _ => Bool.noConfusion (show false = true from p)
theorem dw_all {Pm : Params} (KX : K.In h) (ar : ∀ a ∈ A, ArgOb h A a) : ∀ (ds : List WData) (vs : List Value), WellAll Pm h vs ds → plWs ds = true → (∀ u ∈ vs, OkU A u) → DwAll K (argH K h A) (vs.map toV) ds
  | [], _, x, _, _ => by
    cases x
    exact .nil
  | d :: ds, _, x, p, hu => by
    obtain ⟨v, vs, rfl, x1, x2⟩ := well_cons x
    have q : plW d = true ∧ plWs ds = true := Bool.and_eq_true_iff.mp p
    exact .cons (dw_one KX ar d v x1 q.1 (hu _ (List.mem_cons_self ..))) (dw_all KX ar ds vs x2 q.2 fun u m => hu u (List.mem_cons_of_mem _ m))
end
end
theorem spec_call {P : Program} {w : World} {K : PySem.W.Frag} {mg mb : Str → Option Value} {CX : CXT} {k : Nat} {fa : Addr} {fd : FuncData} {ps : List Str} {sp : Sp} {s₁ : Shared} {vals : List Value} {ds : List WData} {R : PySem.W.WRecords} {cl : Str → Option Addr} {d0 : WData}
    (KX : K.In s₁.heap) (hns : s₁.heap.Ns mainGlobals mg) (hb : s₁.heap.Ns builtinsNs mb) (hbb : ∀ x : Str, x ≠ "__name__" → mb x = bootBuiltins x) (hlim : s₁.heap.NoLimit) (hg : s₁.gens = #[])
    (hwl : WellAll w.params s₁.heap vals ds) (hpl : plWs ds = true) (hwt : ∀ d ∈ ds, d.weight ≤ 1048576) (hr : Room k callerA)
    (F : ∀ base : Heap, K.In base → base.Ns mainGlobals mg → FnOk P w K mg base CX k fa fd ps sp) (hbind : ∀ (s : Shared) (us : List Value), us.length = ps.length → BindsTo s fd ⟨us, []⟩ (ps.zip us)) (hlen : ds.length = ps.length)
    (hsp : ∀ (H : Hp) (xs : List V), OnlyF H → DwAll K H xs ds → sp xs H (fun v H' => Dw K H' v d0) fun _ _ _ => False)
    (hCX : ∀ H e s', CX [] H s₁ (fun _ _ _ => False) e s' → False) :
    codeAny (model P w) callerA (.call (.ref fa) ⟨vals, []⟩) (fun r s' => ∃ u as, r = .ok (.ret u) ∧ ReadsW R cl s'.heap u d0 as ∧ OldK s₁.heap s'.heap ∧ s'.os = s₁.os ∧ AllBare s'.gens) s₁ := by
  obtain ⟨A, ho, ar⟩ := area_all ds vals hwl hpl hwt
  have hO : OnlyF (argH K s₁.heap A) := argH_only ar
  have hok : HOk P w (argH K s₁.heap A) s₁.heap := argH_ok ar
  have hS := dw_all KX ar ds vals hwl hpl ho
  have hV := vals_toV ho
  have hK : ∀ b u, argH K s₁.heap A b = some u → K.lookup b = none := fun b u q => (argH_is ar q).1
  have noA : ∀ {b : Addr} {o : Obj} {es : Array DictEntry} {ep : Nat}, s₁.heap.get? b = some o → o.data = .dict es ep → argH K s₁.heap A b = none := fun {b o es ep} e d => by
    cases q : argH K s₁.heap A b with
    | none => rfl
    | some u =>
      obtain ⟨_, vs, _, _, ⟨e2, _⟩ | ⟨e2, _⟩⟩ := argH_is ar q
      · rw [e2] at e
        cases e
        have d' : Data.seq vs.toArray _ = Data.dict es ep := d
        cases d'
      · rw [e2] at e
        cases e
        have d' : Data.seq vs.toArray _ = Data.dict es ep := d
        cases d'
  generalize argH K s₁.heap A = H at hO hok hS hK noA
  have base_of : ∀ {b : Addr} {o : Obj}, s₁.heap.get? b = some o → H b = none → (hidT s₁.heap H).get? b = some o := fun e n => hidT_get e n
  have nsK : ∀ {b : Addr} {m : Str → Option Value}, s₁.heap.Ns b m → (hidT s₁.heap H).Ns b m := fun {b m} ⟨o, es, ep, e, d, r⟩ => ⟨o, es, ep, base_of e (noA e d), d, r⟩
  have nK : ∀ b o, K.lookup b = some o → H b = none := fun b o e => by
    cases q : H b with
    | none => rfl
    | some u =>
      rw [hK b u q] at e
      cases e
  have hKb : K.In (hidT s₁.heap H) := fun b o e => base_of (KX b o e) (nK b o e)
  have hM : Mod K mg (hidT s₁.heap H) := ⟨hKb, nsK hns, ⟨mb, nsK hb, hbb⟩, let ⟨mc, h1, h2⟩ := hlim; ⟨mc, nsK h1, h2⟩⟩
  have e0 : Env0 P w K mg (hidT s₁.heap H) callerA [] s₁ H := ⟨rfl, hM, fun b o e => of_hidT e, Nat.le_of_eq (hidT_size _ _), trivial, fun b hb => absurd (show b ∈ ([] : List Addr) from hb) (by simp), hok, .of_eq hg⟩
  have hl : vals.length = ps.length := by rw [wellAll_len hwl]; exact hlen
  refine codeAny_mono ((F _ hKb (nsK hns)).run callerA [] s₁ H ⟨vals, []⟩ vals (vals.map toV) _ _ hr e0 (hbind s₁ vals hl) hV (hsp H _ hO hS)) fun r s' x => ?_
  cases r with
  | error e => exact (hCX H e s' x).elim
  | ok fl =>
    cases fl with
    | next => exact False.elim x
    | brk => exact False.elim x
    | cont => exact False.elim x
    | ret u =>
      obtain ⟨v, H', os, bare, un, hok', r', q⟩ := x
      have kept : ∀ b o, s₁.heap.get? b = some o → s'.heap.get? b = some o := fun b o e => by
        cases q2 : H b with
        | none => exact un.keep b o e q2 (by intro z; exact absurd (show b ∈ ([] : List Addr) from z) (by simp)) (by simp)
        | some u2 =>
          rcases hO b with z | ⟨ob, u3, z⟩
          · rw [q2] at z
            cases z
          · have z2 := un.frzs b ob _ z
            obtain ⟨e1, _⟩ := hok b _ z
            obtain ⟨e2, _⟩ := hok' b _ z2
            rw [e] at e1
            cases e1
            exact e2
      have KX' : K.In s'.heap := fun b o e => kept b o (KX b o e)
      obtain ⟨as, hrd⟩ := Dw.reads (R := R) (cl := cl) hok' KX' d0 v u q r'
      exact ⟨u, as, rfl, hrd, OldK.of_keep kept, os, bare⟩
theorem layable_weight {ds : List WData} (h : WData.layableAll ds = true) : ∀ d ∈ ds, d.weight ≤ 1048576 := fun d hd =>
  (PySem.W.layableW_iff.mp (List.all_eq_true.mp h d hd)).2.2
theorem encAll_len : ∀ (cs : List Codec) (a : Codec.denoteAll cs), (Codec.encAll cs a).length = cs.length
  | [], _ => rfl
  | c :: cs, a => by
    show (Codec.encAll cs a.2).length + 1 = cs.length + 1
    rw [encAll_len cs a.2]
theorem walk_spec {r : OpenSpec} {k : Nat} {q : Program} {loose : List Str} {XP : (Str → Option Value) → Heap → Prop} {YP : World → Heap → Prop} {d : DefRec} {K : Params → PySem.W.Frag} {CX : World → CXT} {ps : List Str} {sp : World → Sp}
    (hwell : r.wellSaid = true) (hdf : d.params.defaults = []) (hlen : r.args.length = ps.length) (hr : Room k callerA)
    (hY : ∀ (w : World) (h : Heap), YP w h → (K w.params).In h)
    (F : ∀ (w : World) (mg : Str → Option Value) (fa : Addr) (h : Heap), YP w h → (K w.params).In h → h.Ns mainGlobals mg → mg d.name = some (.ref fa) →
      ∃ fd : FuncData, (∀ (s : Shared) (us : List Value), us.length = ps.length → BindsTo s fd ⟨us, []⟩ (ps.zip us)) ∧
        ∀ base : Heap, (K w.params).In base → base.Ns mainGlobals mg → FnOk r.prog w (K w.params) mg base (CX w) k fa fd ps (sp w))
    (hsp : ∀ (w : World) (H : Hp) (xs : List V) (a : Codec.denoteAll r.args), OnlyF H → Codec.withinAll r.args a = true → Codec.app r.args r.asked a = true → DwAll (K w.params) H xs (Codec.encAll r.args a) →
      sp w xs H (fun v H' => Dw (K w.params) H' v (r.ret.enc (Codec.app r.args r.f a))) fun _ _ _ => False)
    (hCX : ∀ (w : World) (H : Hp) (s : Shared) (e : Value) (s' : Shared), CX w [] H s (fun _ _ _ => False) e s' → False) :
    PySem.W.WalkOS q loose XP YP r d [] (fun f vs => PySem.call f vs) := by
  intro w s_0 s₁ mg mb G Y fa o pm cd doc dV kV ho hd hcd hD hmg hg args vals as hpre hlay hrd hwl hlo
  obtain ⟨a, e1, e2⟩ := PySem.W.os_pre_some hpre
  obtain ⟨e3, hwi⟩ := Codec.encAll_of_decAll r.args args a e1
  subst e3
  have KX := hY w _ Y
  obtain ⟨fd, hb, hF⟩ := F w mg fa _ Y KX G.T.g hmg
  refine PySem.W.enter_call (codeAny_mono (spec_call (R := []) (cl := classAt s_0.heap) (d0 := r.ret.enc (Codec.app r.args r.f a)) KX G.T.g G.T.b G.T.builtins G.T.nolimit hg hwl (pl_encAll _ _) (layable_weight hlay) hr hF hb (by rw [encAll_len]; exact hlen)
    (fun H xs hO hS => hsp w H xs a hO hwi e2 hS) fun H e s' => hCX w H s₁ e s') fun r' s' hq => ?_)
  obtain ⟨u, as', rfl, h1, h2, h3, h4⟩ := hq
  exact ⟨.inl ⟨u, _, as', rfl, fun _ => rfl, h1, (OpenSpec.post_iff hwell hwi _ _).mpr rfl, fun z => Bool.noConfusion (show false = true from z)⟩, h2, h3, h4⟩
theorem walk_specK {r : OpenSpec} {k : Nat} {q : Program} {loose : List Str} {XP : (Str → Option Value) → Heap → Prop} {YP : World → Heap → Prop} {d : DefRec} {K : Params → PySem.W.Frag} {CX : CXT} {ps : List Str} {sp : PySem.W.Frag → Sp}
    (hwell : r.wellSaid = true) (hdf : d.params.defaults = []) (hlen : r.args.length = ps.length) (hr : Room k callerA)
    (hY : ∀ (w : World) (h : Heap), YP w h → (K w.params).In h)
    (F : ∀ (w : World) (mg : Str → Option Value) (fa : Addr) (h : Heap), YP w h → (K w.params).In h → h.Ns mainGlobals mg → mg d.name = some (.ref fa) →
      ∃ fd : FuncData, (∀ (s : Shared) (us : List Value), us.length = ps.length → BindsTo s fd ⟨us, []⟩ (ps.zip us)) ∧
        ∀ base : Heap, (K w.params).In base → base.Ns mainGlobals mg → FnOk r.prog w (K w.params) mg base CX k fa fd ps (sp (K w.params)))
    (hsp : ∀ (K : PySem.W.Frag) (H : Hp) (xs : List V) (a : Codec.denoteAll r.args), OnlyF H → Codec.withinAll r.args a = true → Codec.app r.args r.asked a = true → DwAll K H xs (Codec.encAll r.args a) →
      sp K xs H (fun v H' => Dw K H' v (r.ret.enc (Codec.app r.args r.f a))) fun _ _ _ => False)
    (hCX : ∀ (H : Hp) (s : Shared) (e : Value) (s' : Shared), CX [] H s (fun _ _ _ => False) e s' → False) :
    PySem.W.WalkOS q loose XP YP r d [] (fun f vs => PySem.call f vs) :=
  walk_spec (K := K) (CX := fun _ => CX) (sp := fun w => sp (K w.params)) hwell hdf hlen hr hY F (fun w H xs a h1 h2 h3 h4 => hsp (K w.params) H xs a h1 h2 h3 h4) fun _ H s e s' => hCX H s e s'
end L2
end
end

section
/-! Sets of worlds as numbers: what the specification's words are, bit by bit. -/
namespace Mc
open Krb7 (full both either not_ within truth right behind count worlds)

theorem full_succ (m : Nat) : full m + 1 = 2 ^ worlds m := by
  exact Nat.sub_add_cancel (Nat.two_pow_pos _)
theorem le_full {m p : Nat} : p ≤ full m ↔ p < 2 ^ worlds m := by
  rw [← full_succ, Nat.lt_succ_iff]
theorem not_bit {m p : Nat} (h : p ≤ full m) (i : Nat) : (not_ m p).testBit i = (decide (i < worlds m) && !p.testBit i) := by
  have e : not_ m p = 2 ^ worlds m - (p + 1) := by
    show (2 ^ worlds m - 1) - p = _
    rw [Nat.sub_sub, Nat.add_comm]
  rw [e, Nat.testBit_two_pow_sub_succ (le_full.mp h)]
theorem bit_small {m p i : Nat} (h : p ≤ full m) (hi : worlds m ≤ i) : p.testBit i = false :=
  Nat.testBit_lt_two_pow (Nat.lt_of_lt_of_le (le_full.mp h) (Nat.pow_le_pow_right (by decide) hi))

/-- b without p -/
def wo (b p : Nat) : Nat := b ^^^ (b &&& p)
theorem wo_bit (b p i : Nat) : (wo b p).testBit i = (b.testBit i && !p.testBit i) := by
  unfold wo
  rw [Nat.testBit_xor, Nat.testBit_and]
  cases b.testBit i <;> cases p.testBit i <;> rfl
theorem wo_eq {m b p : Nat} (hb : b ≤ full m) (hp : p ≤ full m) : wo b p = both b (not_ m p) := by
  apply Nat.eq_of_testBit_eq
  intro i
  unfold both
  rw [wo_bit, Nat.testBit_and, not_bit hp]
  by_cases hi : i < worlds m
  · simp [hi]
  · rw [bit_small hb (by omega)]
    rfl
theorem wo_zero {b p : Nat} : wo b p = 0 ↔ b &&& p = b := by
  constructor
  · intro h
    apply Nat.eq_of_testBit_eq
    intro i
    have e : (wo b p).testBit i = false := by rw [h]; exact Nat.zero_testBit i
    rw [wo_bit] at e
    rw [Nat.testBit_and]
    cases hb : b.testBit i <;> cases hp : p.testBit i <;> simp_all
  · intro h
    unfold wo
    rw [h, Nat.xor_self]
theorem within_iff {b p : Nat} : within b p = true ↔ b &&& p = b := by
  unfold within
  exact beq_iff_eq
theorem within_wo {b p : Nat} : within b p = decide (wo b p = 0) := by
  cases h : within b p with
  | true => exact (decide_eq_true (wo_zero.mpr (within_iff.mp h))).symm
  | false =>
    refine (decide_eq_false fun e => ?_).symm
    rw [within_iff.mpr (wo_zero.mp e)] at h
    cases h
theorem wo_le (b p : Nat) {n : Nat} (h : b < 2 ^ n) : wo b p < 2 ^ n := by
  unfold wo
  exact Nat.xor_lt_two_pow h (Nat.lt_of_le_of_lt Nat.and_le_left h)
theorem wo_full {m b : Nat} (p : Nat) (h : b ≤ full m) : wo b p ≤ full m := le_full.mpr (wo_le b p (le_full.mp h))
theorem and_full {m b : Nat} (p : Nat) (h : b ≤ full m) : b &&& p ≤ full m := Nat.le_trans Nat.and_le_left h

/-- c lies within b -/
def Sub (c b : Nat) : Prop := ∀ i, c.testBit i = true → b.testBit i = true
theorem Sub.refl (b : Nat) : Sub b b := fun _ h => h
theorem sub_and (b p : Nat) : Sub (b &&& p) b := fun i h => by
  rw [Nat.testBit_and, Bool.and_eq_true] at h
  exact h.1
theorem sub_wo (b p : Nat) : Sub (wo b p) b := fun i h => by
  rw [wo_bit, Bool.and_eq_true] at h
  exact h.1

/-- how many bits of the first n -/
def pc : Nat → Nat → Nat
  | 0, _ => 0
  | n + 1, b => b % 2 + pc n (b / 2)
theorem pc_zero : ∀ n, pc n 0 = 0
  | 0 => rfl
  | n + 1 => by
    unfold pc
    rw [pc_zero n]
theorem pc_le : ∀ n b, pc n b ≤ n
  | 0, _ => Nat.le_refl 0
  | n + 1, b => by
    have := pc_le n (b / 2)
    unfold pc
    omega
theorem half_bit (b i : Nat) : (b / 2).testBit i = b.testBit (i + 1) := by
  rw [Nat.testBit_succ]
theorem low_bit (b : Nat) : b.testBit 0 = decide (b % 2 = 1) := by
  rw [Nat.testBit_zero]
theorem pc_count : ∀ n b, ((List.range n).filter fun w => b.testBit w).length = pc n b
  | 0, _ => rfl
  | n + 1, b => by
    have ih := pc_count n (b / 2)
    rw [List.range_succ_eq_map, List.filter_cons, List.filter_map, low_bit]
    have e : ((fun w => b.testBit w) ∘ Nat.succ) = fun w => (b / 2).testBit w := by
      funext w
      exact (half_bit b w).symm
    rw [e]
    unfold pc
    rw [← ih]
    by_cases h : b % 2 = 1
    · rw [if_pos (by simpa using h), List.length_cons, List.length_map, h]
      omega
    · rw [if_neg (by simpa using h), List.length_map]
      omega
theorem count_pc (m b : Nat) : count m b = pc (worlds m) b := pc_count _ _
theorem pc_strict : ∀ n {c b : Nat}, b < 2 ^ n → Sub c b → c ≠ b → pc n c < pc n b
  | 0, c, b, hb, h, hne => by
    have b0 : b = 0 := by
      simp at hb
      exact hb
    subst b0
    refine absurd (Nat.eq_of_testBit_eq fun i => ?_) hne
    rw [Nat.zero_testBit]
    cases e : c.testBit i with
    | false => rfl
    | true =>
      have := h i e
      rw [Nat.zero_testBit] at this
      cases this
  | n + 1, c, b, hb, h, hne => by
    have hs : Sub (c / 2) (b / 2) := fun i hi => by
      rw [half_bit] at hi ⊢
      exact h _ hi
    have h0 : c % 2 ≤ b % 2 := by
      have q := h 0
      rw [low_bit, low_bit] at q
      by_cases e : c % 2 = 1
      · have := of_decide_eq_true (q (decide_eq_true e))
        omega
      · omega
    have hb2 : b / 2 < 2 ^ n := by
      rw [Nat.pow_succ] at hb
      omega
    by_cases e : c / 2 = b / 2
    · have : c % 2 ≠ b % 2 := fun z => hne (by omega)
      unfold pc
      rw [e]
      omega
    · have ih := pc_strict n hb2 hs e
      unfold pc
      omega
/-- the loop that counts: it takes the lowest bit off until nothing is left -/
theorem pc_big : ∀ {n k b : Nat}, b < 2 ^ n → n ≤ k → pc k b = pc n b
  | 0, k, b, hb, _ => by
    have b0 : b = 0 := by
      simp at hb
      exact hb
    subst b0
    rw [pc_zero]
    rfl
  | n + 1, 0, b, _, hk => absurd hk (by omega)
  | n + 1, k + 1, b, hb, hk => by
    have ih := pc_big (n := n) (k := k) (b := b / 2) (by rw [Nat.pow_succ] at hb; omega) (by omega)
    unfold pc
    rw [ih]
end Mc
end

section
/-! Rows of the stock: what the specification's searches find. -/
namespace Mc
open Krb7 (full both either not_ within truth right behind count worlds)
open Krc9 (House)

/-- what the object holds, once it has begun -/
structure Fit (h : House) : Prop where
  m1 : 1 ≤ h.m
  m3 : h.m ≤ 3
  kn : h.known ≤ full h.m
  k0 : h.known ≠ 0
  st : h.stands ≤ full h.m
  s0 : h.stands ≠ 0
  sk : ∀ p ∈ h.stock, p ≤ full h.m
  sl : h.stock.length ≤ 6

/-- what stands behind p, by bits alone -/
def nx (k b p : Nat) : Nat := if right k b p = 1 then b &&& p else if right k b p = 0 then wo b p else b
theorem next_eq {h : House} {b p : Nat} (hb : b ≤ full h.m) (hp : p ≤ full h.m) : h.next b p = nx h.known b p := by
  show behind h.m b p (right h.known b p) = nx h.known b p
  unfold behind nx
  rw [wo_eq hb hp]
  rfl
theorem nx_sub (k b p : Nat) : Sub (nx k b p) b := by
  unfold nx
  split
  · exact sub_and b p
  · split
    · exact sub_wo b p
    · exact Sub.refl b
theorem nx_full {m k b p : Nat} (hb : b ≤ full m) : nx k b p ≤ full m := by
  unfold nx
  split
  · exact and_full p hb
  · split
    · exact wo_full p hb
    · exact hb
/-- something always stands -/
theorem nx_ne {k b p : Nat} (hb : b ≠ 0) : nx k b p ≠ 0 := by
  unfold nx
  by_cases h1 : within b p = true
  · have e : right k b p = 1 := by
      unfold right
      rw [if_pos h1]
    rw [if_pos e, within_iff.mp h1]
    exact hb
  · by_cases h0 : both b p = 0
    · have e : right k b p = 0 := by
        unfold right
        rw [if_neg h1, if_pos h0]
      rw [if_neg (by rw [e]; decide), if_pos e]
      intro z
      exact h1 (within_iff.mpr (wo_zero.mp z))
    · have hw : wo b p ≠ 0 := fun z => h1 (within_iff.mpr (wo_zero.mp z))
      split
      · exact h0
      · split
        · exact hw
        · exact hb

theorem worlds_le {m : Nat} (h : m ≤ 3) : worlds m ≤ 8 := by
  unfold worlds
  exact Nat.pow_le_pow_right (n := 2) (by decide) h

/-! ### what stands behind rows -/
/-- c stands behind some row of k of l, from b on (the first step in front) -/
def Rk (kn : Nat) (l : List Nat) : Nat → Nat → Nat → Prop
  | 0, b, c => c = b
  | k + 1, b, c => ∃ p, p ∈ l ∧ Rk kn l k (nx kn b p) c
theorem Rk.snoc {kn : Nat} {l : List Nat} : ∀ {k b d p : Nat}, Rk kn l k b d → p ∈ l → Rk kn l (k + 1) b (nx kn d p)
  | 0, b, d, p, h, hp => by
    have e : d = b := h
    subst e
    exact ⟨p, hp, rfl⟩
  | k + 1, b, d, p, ⟨q, hq, h⟩, hp => ⟨q, hq, Rk.snoc h hp⟩
theorem Rk.last {kn : Nat} {l : List Nat} : ∀ {k b c : Nat}, Rk kn l (k + 1) b c → ∃ d p, Rk kn l k b d ∧ p ∈ l ∧ c = nx kn d p
  | 0, b, c, ⟨p, hp, h⟩ => ⟨b, p, rfl, hp, h⟩
  | k + 1, b, c, ⟨q, hq, h⟩ => by
    obtain ⟨d, p, h1, h2, h3⟩ := Rk.last h
    exact ⟨d, p, ⟨q, hq, h1⟩, h2, h3⟩
theorem Rk.full {m kn : Nat} {l : List Nat} : ∀ {k b c : Nat}, b ≤ full m → Rk kn l k b c → c ≤ full m
  | 0, b, c, hb, h => by
    have e : c = b := h
    rw [e]
    exact hb
  | _ + 1, _, _, hb, ⟨_, _, h⟩ => Rk.full (nx_full hb) h
/-- one that no shorter row leaves has lost a world at each step -/
theorem Rk.short {n kn : Nat} {l : List Nat} : ∀ {k b c : Nat}, b < 2 ^ n → Rk kn l k b c → (∀ j, j < k → ¬ Rk kn l j b c) → k + pc n c ≤ pc n b
  | 0, b, c, _, h, _ => by
    have e : c = b := h
    rw [e]
    omega
  | k + 1, b, c, hb, h, hn => by
    obtain ⟨d, p, h1, hp, rfl⟩ := h.last
    have hd : ∀ j, j < k → ¬ Rk kn l j b d := fun j hj z => hn (j + 1) (by omega) (z.snoc hp)
    have ih := Rk.short hb h1 hd
    have ne : nx kn d p ≠ d := fun z => hn k (by omega) (by rw [z]; exact h1)
    have hdn : d < 2 ^ n := by
      refine Nat.lt_of_le_of_lt ?_ hb
      have sb : ∀ {k b d : Nat}, Rk kn l k b d → d ≤ b := by
        intro k
        induction k with
        | zero =>
          intro b d h
          exact Nat.le_of_eq h
        | succ k ih =>
          rintro b d ⟨q, _, h⟩
          refine Nat.le_trans (ih h) ?_
          unfold nx
          split
          · exact Nat.and_le_left
          · split
            · have : wo b q = b &&& (wo b q) := by
                apply Nat.eq_of_testBit_eq
                intro i
                rw [Nat.testBit_and, wo_bit]
                cases b.testBit i <;> rfl
              rw [this]
              exact Nat.and_le_left
            · exact Nat.le_refl b
      exact sb h1
    have := pc_strict n hdn (nx_sub kn d p) ne
    omega
theorem Rk.down {kn : Nat} {l : List Nat} {k b c : Nat} (h : Rk kn l k b c) : ∃ j, j ≤ k ∧ Rk kn l j b c ∧ ∀ i, i < j → ¬ Rk kn l i b c := by
  have key : ∀ n, ∀ k, k ≤ n → Rk kn l k b c → ∃ j, j ≤ k ∧ Rk kn l j b c ∧ ∀ i, i < j → ¬ Rk kn l i b c := by
    intro n
    induction n with
    | zero =>
      intro k hk h
      exact ⟨k, Nat.le_refl k, h, fun i hi => absurd hi (by omega)⟩
    | succ n ih =>
      intro k hk h
      by_cases e : ∃ i, i < k ∧ Rk kn l i b c
      · obtain ⟨i, hi, hr⟩ := e
        obtain ⟨j, hj, h1, h2⟩ := ih i (by omega) hr
        exact ⟨j, by omega, h1, h2⟩
      · exact ⟨k, Nat.le_refl k, h, fun i hi z => e ⟨i, hi, z⟩⟩
  exact key k k (Nat.le_refl k) h

/-! ### level by level -/
theorem mem_eraseDups {l : List Nat} {a : Nat} : a ∈ l.eraseDups ↔ a ∈ l := List.mem_eraseDups
theorem step_mem {h : House} (F : Fit h) {l : List Nat} (hl : ∀ b ∈ l, b ≤ full h.m) {c : Nat} : c ∈ h.step l ↔ ∃ d, d ∈ l ∧ ∃ p, p ∈ h.stock ∧ c = nx h.known d p := by
  unfold House.step
  rw [mem_eraseDups, List.mem_flatMap]
  constructor
  · rintro ⟨d, hd, hc⟩
    obtain ⟨p, hp, rfl⟩ := List.mem_map.mp hc
    exact ⟨d, hd, p, hp, next_eq (hl d hd) (F.sk p hp)⟩
  · rintro ⟨d, hd, p, hp, rfl⟩
    exact ⟨d, hd, List.mem_map.mpr ⟨p, hp, next_eq (hl d hd) (F.sk p hp)⟩⟩
/-- seen: all behind fewer than k; now: those behind k and no fewer -/
structure Lv (h : House) (b k : Nat) (seen now : List Nat) : Prop where
  old : ∀ c, c ∈ seen ↔ ∃ j, j < k ∧ Rk h.known h.stock j b c
  new : ∀ c, c ∈ now ↔ Rk h.known h.stock k b c ∧ ∀ j, j < k → ¬ Rk h.known h.stock j b c
theorem Lv.start (h : House) (b : Nat) : Lv h b 0 [] [b] where
  old := fun c => ⟨fun z => absurd z (by simp), fun ⟨j, hj, _⟩ => absurd hj (by omega)⟩
  new := fun c => by
    rw [List.mem_singleton]
    exact ⟨fun e => ⟨e, fun j hj => absurd hj (by omega)⟩, fun e => e.1⟩
theorem Lv.both {h : House} {b k : Nat} {seen now : List Nat} (L : Lv h b k seen now) (c : Nat) : c ∈ seen ++ now ↔ ∃ j, j < k + 1 ∧ Rk h.known h.stock j b c := by
  rw [List.mem_append, L.old, L.new]
  constructor
  · rintro (⟨j, hj, r⟩ | ⟨r, _⟩)
    · exact ⟨j, by omega, r⟩
    · exact ⟨k, by omega, r⟩
  · rintro ⟨j, hj, r⟩
    by_cases e : ∃ i, i < k ∧ Rk h.known h.stock i b c
    · exact .inl e
    · by_cases z : j = k
      · subst z
        exact .inr ⟨r, fun i hi q => e ⟨i, hi, q⟩⟩
      · exact absurd ⟨j, by omega, r⟩ e
theorem Lv.next {h : House} (F : Fit h) {b k : Nat} (hb : b ≤ full h.m) {seen now : List Nat} (L : Lv h b k seen now) :
    Lv h b (k + 1) (seen ++ now) ((h.step now).filter fun c => !((seen ++ now).contains c)) where
  old := L.both
  new := fun c => by
    have hl : ∀ d ∈ now, d ≤ full h.m := fun d hd => Rk.full hb ((L.new d).mp hd).1
    rw [List.mem_filter, step_mem F hl]
    have e : ((!((seen ++ now).contains c)) = true) ↔ ∀ j, j < k + 1 → ¬ Rk h.known h.stock j b c := by
      rw [Bool.not_eq_true', ← Bool.not_eq_true, List.contains_iff_mem, L.both]
      exact ⟨fun z j hj r => z ⟨j, hj, r⟩, fun z ⟨j, hj, r⟩ => z j hj r⟩
    rw [e]
    constructor
    · rintro ⟨⟨d, hd, p, hp, rfl⟩, hn⟩
      exact ⟨((L.new d).mp hd).1.snoc hp, hn⟩
    · rintro ⟨r, hn⟩
      obtain ⟨d, p, h1, hp, rfl⟩ := r.last
      exact ⟨⟨d, (L.new d).mpr ⟨h1, fun j hj z => hn (j + 1) (by omega) (z.snoc hp)⟩, p, hp, rfl⟩, hn⟩
/-- where a level is empty nothing lies behind it -/
theorem Lv.shut {h : House} {b k : Nat} {seen : List Nat} (L : Lv h b k seen []) {j c : Nat} (r : Rk h.known h.stock j b c) : c ∈ seen := by
  have none_at : ∀ i c, Rk h.known h.stock (k + i) b c → (∀ j, j < k + i → ¬ Rk h.known h.stock j b c) → False := by
    intro i
    induction i with
    | zero =>
      intro c r hn
      exact absurd ((L.new c).mpr ⟨r, hn⟩) (by simp)
    | succ i ih =>
      intro c r hn
      obtain ⟨d, p, h1, hp, rfl⟩ := Rk.last (k := k + i) r
      exact ih d h1 fun j hj z => hn (j + 1) (by omega) (z.snoc hp)
  obtain ⟨i, _, h1, h2⟩ := r.down
  by_cases e : i < k
  · exact (L.old c).mpr ⟨i, e, h1⟩
  · exact (none_at (i - k) c (by rw [show k + (i - k) = i by omega]; exact h1) (by rw [show k + (i - k) = i by omega]; exact h2)).elim
/-- nine levels are more than there are -/
theorem Lv.few {h : House} (F : Fit h) {b k : Nat} (hb : b ≤ full h.m) {seen now : List Nat} (L : Lv h b k seen now) (hk : 9 ≤ k) : now = [] := by
  cases e : now with
  | nil => rfl
  | cons c r =>
    obtain ⟨h1, h2⟩ := (L.new c).mp (by rw [e]; exact List.mem_cons_self)
    have q := Rk.short (le_full.mp hb) h1 h2
    have := pc_le (worlds h.m) b
    have := worlds_le F.m3
    omega

/-! ### how soon -/
/-- what is said of an answer of soonest's -/
def Soon (kn : Nat) (l : List Nat) (f : Nat → Bool) (b : Nat) : Option Nat → Prop
  | none => ∀ j c, Rk kn l j b c → f c = false
  | some k => (∃ c, Rk kn l k b c ∧ f c = true) ∧ ∀ j c, j < k → Rk kn l j b c → f c = false
theorem Soon.one {kn : Nat} {l : List Nat} {f : Nat → Bool} {b : Nat} : ∀ {r s : Option Nat}, Soon kn l f b r → Soon kn l f b s → r = s
  | none, none, _, _ => rfl
  | none, some k, h, ⟨⟨c, h1, h2⟩, _⟩ => by
    rw [h k c h1] at h2
    cases h2
  | some k, none, ⟨⟨c, h1, h2⟩, _⟩, h => by
    rw [h k c h1] at h2
    cases h2
  | some k, some j, ⟨⟨c, h1, h2⟩, h3⟩, ⟨⟨d, g1, g2⟩, g3⟩ => by
    have a : ¬ k < j := fun z => by
      rw [g3 k c z h1] at h2
      cases h2
    have a' : ¬ j < k := fun z => by
      rw [h3 j d z g1] at g2
      cases g2
    rw [show k = j by omega]
theorem search_ok {h : House} (F : Fit h) (f : Nat → Bool) {b : Nat} (hb : b ≤ full h.m) : ∀ (fuel k : Nat) (seen now : List Nat), 10 ≤ fuel + k → Lv h b k seen now → (∀ c ∈ seen, f c = false) →
    Soon h.known h.stock f b (h.search f fuel k seen now)
  | 0, k, seen, now, hk, L, hs => by
    have e := L.few F hb (by omega)
    subst e
    intro j c r
    exact hs c (L.shut r)
  | fuel + 1, k, seen, now, hk, L, hs => by
    unfold House.search
    by_cases e : now.any f = true
    · rw [if_pos e]
      obtain ⟨c, hc, hf⟩ := List.any_eq_true.mp e
      exact ⟨⟨c, ((L.new c).mp hc).1, hf⟩, fun j d hj r => hs d ((L.old d).mpr ⟨j, hj, r⟩)⟩
    · rw [if_neg e]
      have hn : ∀ c ∈ now, f c = false := fun c hc => by
        cases q : f c with
        | false => rfl
        | true => exact absurd (List.any_eq_true.mpr ⟨c, hc, q⟩) e
      by_cases e0 : now = []
      · rw [if_pos e0]
        subst e0
        intro j c r
        exact hs c (L.shut r)
      · rw [if_neg e0]
        exact search_ok F f hb fuel (k + 1) (seen ++ now) _ (by omega) (L.next F hb) fun c hc => by
          rcases List.mem_append.mp hc with q | q
          · exact hs c q
          · exact hn c q
theorem soonest_ok {h : House} (F : Fit h) (f : Nat → Bool) {b : Nat} (hb : b ≤ full h.m) : Soon h.known h.stock f b (h.soonest f b) :=
  search_ok F f hb 10 0 [] [b] (by omega) (Lv.start h b) fun c hc => absurd hc (by simp)
theorem soonest_is {h : House} (F : Fit h) {f : Nat → Bool} {b : Nat} (hb : b ≤ full h.m) {r : Option Nat} (s : Soon h.known h.stock f b r) : h.soonest f b = r := (soonest_ok F f hb).one s

/-! ### by which row -/
/-- what stands behind a row of places -/
def run (kn : Nat) (l : List Nat) : Nat → List Nat → Nat
  | b, [] => b
  | b, i :: r => run kn l (nx kn b (l.getD i 0)) r
/-- the places are places -/
def Pl (l : List Nat) (r : List Nat) : Prop := ∀ i ∈ r, i < l.length
theorem run_rk {kn : Nat} {l : List Nat} : ∀ {r : List Nat} {b : Nat}, Pl l r → Rk kn l r.length b (run kn l b r)
  | [], _, _ => rfl
  | i :: r, b, h => by
    have hi : i < l.length := h i List.mem_cons_self
    refine ⟨l.getD i 0, ?_, run_rk fun j hj => h j (List.mem_cons_of_mem _ hj)⟩
    rw [List.getD_eq_getElem?_getD, List.getElem?_eq_getElem hi]
    exact List.getElem_mem hi
theorem rk_run {kn : Nat} {l : List Nat} : ∀ {k b c : Nat}, Rk kn l k b c → ∃ r, r.length = k ∧ Pl l r ∧ run kn l b r = c
  | 0, b, c, h => ⟨[], rfl, fun i hi => absurd hi (by simp), Eq.symm h⟩
  | k + 1, b, c, ⟨p, hp, h⟩ => by
    obtain ⟨r, h1, h2, h3⟩ := rk_run h
    obtain ⟨i, hi, e⟩ := List.mem_iff_getElem.mp hp
    have e' : l.getD i 0 = p := by
      rw [List.getD_eq_getElem?_getD, List.getElem?_eq_getElem hi, e]
      rfl
    refine ⟨i :: r, by rw [List.length_cons, h1], fun j hj => ?_, ?_⟩
    · rcases List.mem_cons.mp hj with rfl | hj
      · exact hi
      · exact h2 j hj
    · show run kn l (nx kn b (l.getD i 0)) r = c
      rw [e']
      exact h3
/-- the earlier place where two first differ -/
def Lex : List Nat → List Nat → Prop
  | a :: r, b :: s => a < b ∨ (a = b ∧ Lex r s)
  | _, _ => False
/-- the first of the rows of k by which f is so -/
structure Best (kn : Nat) (l : List Nat) (f : Nat → Bool) (b k : Nat) (r : List Nat) : Prop where
  len : r.length = k
  pl : Pl l r
  does : f (run kn l b r) = true
  fst : ∀ s, s.length = k → Pl l s → f (run kn l b s) = true → s = r ∨ Lex r s
theorem lex_asymm : ∀ {r s : List Nat}, Lex r s → Lex s r → False
  | [], _, h, _ => h
  | _ :: _, [], h, _ => h
  | a :: r, b :: s, h, g => by
    rcases h with h | ⟨h, h'⟩ <;> rcases g with g | ⟨g, g'⟩
    · omega
    · omega
    · omega
    · exact lex_asymm h' g'
theorem Best.one {kn : Nat} {l : List Nat} {f : Nat → Bool} {b k : Nat} {r s : List Nat} (R : Best kn l f b k r) (S : Best kn l f b k s) : r = s := by
  rcases R.fst s S.len S.pl S.does with h | h
  · exact h.symm
  · rcases S.fst r R.len R.pl R.does with g | g
    · exact g
    · exact (lex_asymm h g).elim
theorem Pl.cons {l r : List Nat} {i : Nat} (h : Pl l (i :: r)) : i < l.length ∧ Pl l r := ⟨h i List.mem_cons_self, fun j hj => h j (List.mem_cons_of_mem _ hj)⟩
theorem Pl.mk {l r : List Nat} {i : Nat} (h : i < l.length) (g : Pl l r) : Pl l (i :: r) := fun j hj => by
  rcases List.mem_cons.mp hj with rfl | hj
  · exact h
  · exact g j hj
theorem getD_mem {l : List Nat} {i : Nat} (h : i < l.length) : l.getD i 0 ∈ l := by
  rw [List.getD_eq_getElem?_getD, List.getElem?_eq_getElem h]
  exact List.getElem_mem h
theorem way_ok {h : House} (F : Fit h) (f : Nat → Bool) : ∀ (k b : Nat), b ≤ full h.m → Soon h.known h.stock f b (some k) → Best h.known h.stock f b k (h.way f k b)
  | 0, b, _, ⟨⟨c, h1, h2⟩, _⟩ => by
    have e : c = b := h1
    subst e
    refine ⟨rfl, fun i hi => absurd hi (by simp [House.way]), h2, fun s hs _ _ => .inl ?_⟩
    exact List.eq_nil_of_length_eq_zero hs
  | k + 1, b, hb, S => by
    have stepS : ∀ i, i < h.stock.length → ∀ r, r.length = k → Pl h.stock r → f (run h.known h.stock (nx h.known b (h.stock.getD i 0)) r) = true → h.soonest f (h.next b (h.stock.getD i 0)) = some k := by
      intro i hi r h1 h2 h3
      have hp : h.stock.getD i 0 ∈ h.stock := getD_mem hi
      rw [next_eq hb (F.sk _ hp)]
      refine soonest_is F (nx_full hb) ⟨⟨_, by rw [← h1]; exact run_rk h2, h3⟩, fun j c hj hr => ?_⟩
      exact S.2 (j + 1) c (by omega) ⟨_, hp, hr⟩
    obtain ⟨⟨c, hc, hf⟩, hS⟩ := S
    obtain ⟨r0, h1, h2, h3⟩ := rk_run hc
    obtain ⟨i0, r1, rfl⟩ : ∃ i r, r0 = i :: r := by
      cases r0 with
      | nil => cases h1
      | cons i r => exact ⟨i, r, rfl⟩
    have hi0 := (Pl.cons h2).1
    have e0 := stepS i0 hi0 r1 (Nat.succ.inj h1) (Pl.cons h2).2 (by
      have : run h.known h.stock (nx h.known b (h.stock.getD i0 0)) r1 = c := h3
      rw [this]
      exact hf)
    unfold House.way
    cases q : (List.range h.stock.length).find? fun i => h.soonest f (h.next b (h.stock.getD i 0)) == some k with
    | none =>
      have := List.find?_eq_none.mp q i0 (List.mem_range.mpr hi0)
      exact absurd (beq_iff_eq.mpr e0) this
    | some i =>
      have hi : i < h.stock.length := List.mem_range.mp (List.mem_of_find?_eq_some q)
      have ei : h.soonest f (h.next b (h.stock.getD i 0)) = some k := by
        have := List.find?_some q
        exact beq_iff_eq.mp this
      have least : ∀ j, j < i → ¬ h.soonest f (h.next b (h.stock.getD j 0)) = some k := by
        intro j hj z
        obtain ⟨_, as, bs, e1, e2⟩ := List.find?_eq_some_iff_append.mp q
        have lenas : as.length = i := by
          have g : (List.range h.stock.length)[as.length]? = some i := by rw [e1]; simp
          have hlt : as.length < h.stock.length := by
            have := congrArg List.length e1
            simp at this
            omega
          rw [List.getElem?_range hlt] at g
          exact Option.some.inj g
        have hja : j ∈ as := by
          have g : (List.range h.stock.length)[j]? = some j := List.getElem?_range (by omega)
          rw [e1, List.getElem?_append_left (by omega)] at g
          exact List.mem_of_getElem? g
        have := e2 j hja
        rw [z] at this
        simp at this
      have hp : h.stock.getD i 0 ∈ h.stock := getD_mem hi
      have en := next_eq hb (F.sk _ hp)
      have hbn : h.next b (h.stock.getD i 0) ≤ full h.m := by rw [en]; exact nx_full hb
      have Sn : Soon h.known h.stock f (h.next b (h.stock.getD i 0)) (some k) := by
        rw [← ei]
        exact soonest_ok F f hbn
      have W := way_ok F f k _ hbn Sn
      show Best h.known h.stock f b (k + 1) (i :: h.way f k (h.next b (h.stock.getD i 0)))
      rw [en] at W ⊢
      refine ⟨by rw [List.length_cons, W.len], W.pl.mk hi, W.does, fun s hs ps fs => ?_⟩
      obtain ⟨j, s', rfl⟩ : ∃ j s', s = j :: s' := by
        cases s with
        | nil => cases hs
        | cons j s' => exact ⟨j, s', rfl⟩
      have ej := stepS j (Pl.cons ps).1 s' (Nat.succ.inj hs) (Pl.cons ps).2 fs
      by_cases hji : j < i
      · exact (least j hji ej).elim
      · by_cases e : j = i
        · subst e
          rcases W.fst s' (Nat.succ.inj hs) (Pl.cons ps).2 fs with g | g
          · exact .inl (by rw [g])
          · exact .inr (.inr ⟨rfl, g⟩)
        · exact .inr (.inl (by omega))

/-! ### all that can stand -/
/-- c stands behind some row of the stock -/
def Re (kn : Nat) (l : List Nat) (b c : Nat) : Prop := ∃ k, Rk kn l k b c
theorem spread_ok {h : House} (F : Fit h) {b : Nat} (hb : b ≤ full h.m) : ∀ (fuel k : Nat) (seen now : List Nat), 10 ≤ fuel + k → Lv h b k seen now → ∀ c, c ∈ h.spread fuel seen now ↔ Re h.known h.stock b c
  | 0, k, seen, now, hk, L, c => by
    have e := L.few F hb (by omega)
    subst e
    unfold House.spread
    exact ⟨fun z => let ⟨j, _, r⟩ := (L.old c).mp z; ⟨j, r⟩, fun ⟨_, r⟩ => L.shut r⟩
  | fuel + 1, k, seen, now, hk, L, c => by
    unfold House.spread
    by_cases e0 : now = []
    · rw [if_pos e0]
      subst e0
      exact ⟨fun z => let ⟨j, _, r⟩ := (L.old c).mp z; ⟨j, r⟩, fun ⟨_, r⟩ => L.shut r⟩
    · rw [if_neg e0]
      exact spread_ok F hb fuel (k + 1) (seen ++ now) _ (by omega) (L.next F hb) c
theorem reach_mem {h : House} (F : Fit h) {c : Nat} : c ∈ h.reach ↔ Re h.known h.stock h.stands c := by
  show c ∈ (h.ps.filter fun b => (h.spread 10 [] [h.stands]).contains b) ↔ _
  rw [List.mem_filter, List.contains_iff_mem, spread_ok F F.st 10 0 [] [h.stands] (by omega) (Lv.start h _)]
  refine ⟨fun z => z.2, fun z => ⟨?_, z⟩⟩
  obtain ⟨k, r⟩ := z
  exact List.mem_range.mpr (Nat.lt_succ_of_le (Rk.full F.st r))
theorem range_sorted : ∀ n, (List.range n).Pairwise (· < ·) := fun n => List.pairwise_lt_range
theorem reach_sorted (h : House) : h.reach.Pairwise (· < ·) := (range_sorted _).filter _
/-- two rising lists with the same members are one -/
theorem rising_one : ∀ {l s : List Nat}, l.Pairwise (· < ·) → s.Pairwise (· < ·) → (∀ a, a ∈ l ↔ a ∈ s) → l = s
  | [], [], _, _, _ => rfl
  | [], a :: s, _, _, h => absurd ((h a).mpr List.mem_cons_self) (by simp)
  | a :: l, [], _, _, h => absurd ((h a).mp List.mem_cons_self) (by simp)
  | a :: l, c :: s, hl, hs, h => by
    have hl' := List.pairwise_cons.mp hl
    have hs' := List.pairwise_cons.mp hs
    have e : a = c := by
      have h1 : a = c ∨ a ∈ s := List.mem_cons.mp ((h a).mp List.mem_cons_self)
      have h2 : c = a ∨ c ∈ l := List.mem_cons.mp ((h c).mpr List.mem_cons_self)
      rcases h1 with h1 | h1
      · exact h1
      · rcases h2 with h2 | h2
        · exact h2.symm
        · have x := hs'.1 a h1
          have y := hl'.1 c h2
          omega
    subst e
    rw [rising_one hl'.2 hs'.2 fun x => ?_]
    constructor
    · intro hx
      rcases List.mem_cons.mp ((h x).mp (List.mem_cons_of_mem _ hx)) with e | e
      · have := hl'.1 x hx
        omega
      · exact e
    · intro hx
      rcases List.mem_cons.mp ((h x).mpr (List.mem_cons_of_mem _ hx)) with e | e
      · have := hs'.1 x hx
        omega
      · exact e
theorem reach_is {h : House} (F : Fit h) {l : List Nat} (hl : l.Pairwise (· < ·)) (hm : ∀ c, c ∈ l ↔ Re h.known h.stock h.stands c) : h.reach = l :=
  rising_one (reach_sorted h) hl fun a => by rw [reach_mem F, hm]
theorem stands_in {h : House} (F : Fit h) : h.stands ∈ h.reach := (reach_mem F).mpr ⟨0, rfl⟩

/-! ### the least -/
def lessM (m : Nat) (x : Option Nat) (b : Nat) : Option Nat := match x with
  | none => some b
  | some y => if count m b < count m y then some b else some y
theorem least_fold (m : Nat) : ∀ (l : List Nat) (y : Nat), (∀ c ∈ l, y < c) → l.Pairwise (· < ·) → ∃ b, l.foldl (lessM m) (some y) = some b ∧ b ∈ y :: l ∧ ∀ c ∈ y :: l, count m b < count m c ∨ (count m b = count m c ∧ b ≤ c)
  | [], y, _, _ => ⟨y, rfl, List.mem_cons_self, fun c hc => by
      rcases List.mem_cons.mp hc with rfl | hc
      · exact .inr ⟨rfl, Nat.le_refl _⟩
      · exact absurd hc (by simp)⟩
  | a :: l, y, hy, hl => by
    have hl' := List.pairwise_cons.mp hl
    show ∃ b, l.foldl (lessM m) (lessM m (some y) a) = some b ∧ _
    unfold lessM
    dsimp only
    by_cases e : count m a < count m y
    · rw [if_pos e]
      obtain ⟨b, h1, h2, h3⟩ := least_fold m l a hl'.1 hl'.2
      refine ⟨b, h1, List.mem_cons_of_mem _ h2, fun c hc => ?_⟩
      rcases List.mem_cons.mp hc with rfl | hc
      · rcases h3 a List.mem_cons_self with q | ⟨q, _⟩
        · exact .inl (by omega)
        · exact .inl (by omega)
      · exact h3 c hc
    · rw [if_neg e]
      obtain ⟨b, h1, h2, h3⟩ := least_fold m l y (fun c hc => hy c (List.mem_cons_of_mem _ hc)) hl'.2
      refine ⟨b, h1, ?_, fun c hc => ?_⟩
      · rcases List.mem_cons.mp h2 with rfl | h2
        · exact List.mem_cons_self
        · exact List.mem_cons_of_mem _ (List.mem_cons_of_mem _ h2)
      · rcases List.mem_cons.mp hc with rfl | hc
        · exact h3 c List.mem_cons_self
        · rcases List.mem_cons.mp hc with rfl | hc
          · have ya := hy c List.mem_cons_self
            rcases h3 y List.mem_cons_self with q | ⟨q, q'⟩
            · exact .inl (by omega)
            · by_cases z : count m b < count m c
              · exact .inl z
              · exact .inr ⟨by omega, by omega⟩
          · exact h3 c (List.mem_cons_of_mem _ hc)
theorem least_ok {h : House} (F : Fit h) : ∃ b, h.least = some b ∧ Re h.known h.stock h.stands b ∧ ∀ c, Re h.known h.stock h.stands c → count h.m b < count h.m c ∨ (count h.m b = count h.m c ∧ b ≤ c) := by
  have hs := reach_sorted h
  have hin := stands_in F
  have e : h.least = h.reach.foldl (lessM h.m) none := by
    unfold House.least
    congr 1
  cases q : h.reach with
  | nil =>
    rw [q] at hin
    exact absurd hin (by simp)
  | cons y l =>
    rw [q] at hs
    have hs' := List.pairwise_cons.mp hs
    obtain ⟨b, h1, h2, h3⟩ := least_fold h.m l y hs'.1 hs'.2
    refine ⟨b, by rw [e, q]; exact h1, (reach_mem F).mp (by rw [q]; exact h2), fun c hc => h3 c ?_⟩
    rw [← q]
    exact (reach_mem F).mpr hc
end Mc
end

section
/-! The calls as one list of whole numbers: one call taken off its front. -/
namespace Mc
open PyFlat (calls)

/-- how many numbers stand behind a call's own (of the stock: one, the length of its list) -/
def lens : List Nat := [3, 1, 1, 1, 1, 1, 1, 1, 1, 0, 2, 0, 1, 2, 2, 0, 0, 1, 1, 0, 0]

/-- a call, its number and the numbers behind it -/
inductive One : List (List Int) → Nat → List Int → Prop
  | plain (p : Nat) (a : List Int) (h : p < 21) (n : p ≠ 4) (l : lens[p]? = some a.length) : One [(p : Int) :: a] p a
  | stock (r : List Int) : One [[4], r] 4 ((r.length : Int) :: r)

theorem shape_none {z : Int} (ne : ∀ k : Nat, k < 21 → z ≠ (k : Int)) : PyKrc9.shape z = none := by
  unfold PyKrc9.shape
  simp only [show z ≠ 0 from ne 0 (by decide), show z ≠ 1 from ne 1 (by decide), show z ≠ 2 from ne 2 (by decide), show z ≠ 3 from ne 3 (by decide), show z ≠ 4 from ne 4 (by decide), show z ≠ 5 from ne 5 (by decide), show z ≠ 6 from ne 6 (by decide), show z ≠ 7 from ne 7 (by decide), show z ≠ 8 from ne 8 (by decide), show z ≠ 9 from ne 9 (by decide), show z ≠ 10 from ne 10 (by decide), show z ≠ 11 from ne 11 (by decide), show z ≠ 12 from ne 12 (by decide), show z ≠ 13 from ne 13 (by decide), show z ≠ 14 from ne 14 (by decide), show z ≠ 15 from ne 15 (by decide), show z ≠ 16 from ne 16 (by decide), show z ≠ 17 from ne 17 (by decide), show z ≠ 18 from ne 18 (by decide), show z ≠ 19 from ne 19 (by decide), show z ≠ 20 from ne 20 (by decide), if_false]
theorem shape_cases (z : Int) : (∃ p : Nat, p < 21 ∧ z = (p : Int)) ∨ PyKrc9.shape z = none := by
  by_cases h : ∃ p : Nat, p < 21 ∧ z = (p : Int)
  · exact .inl h
  · exact .inr (shape_none fun k hk e => h ⟨k, hk, e⟩)
theorem shape_at : ∀ p : Nat, p < 21 → PyKrc9.shape (p : Int) = if p = 4 then some (0, 1) else some (lens.getD p 0, 0) := by decide
theorem lens_at {p : Nat} (h : p < 21) : lens[p]? = some (lens.getD p 0) := by
  have e : p < lens.length := h
  rw [List.getD_eq_getElem?_getD, List.getElem?_eq_getElem e]
  rfl

/-- the first call, and what is left -/
theorem first_call {f : Nat} {z : Int} {r : List Int} {cs : List (List (List Int))} (h : calls PyKrc9.shape f (z :: r) = some cs) :
    ∃ p a rest c cs' f', One c p a ∧ z = (p : Int) ∧ r = a ++ rest ∧ cs = c :: cs' ∧ calls PyKrc9.shape f' rest = some cs' := by
  cases f with
  | zero => cases h
  | succ f =>
    rcases shape_cases z with ⟨p, hp, rfl⟩ | hn
    · have hs := shape_at p hp
      unfold PyFlat.calls PyFlat.call at h
      dsimp only at h
      by_cases h4 : p = 4
      · subst h4
        rw [if_pos rfl] at hs
        rw [hs] at h
        dsimp only at h
        rw [if_neg (by omega)] at h
        unfold PyFlat.rows PyFlat.row at h
        rw [List.drop_zero] at h
        cases r with
        | nil => cases h
        | cons n r =>
          dsimp only at h
          by_cases hc : 0 ≤ n ∧ n.toNat ≤ r.length
          · rw [if_pos hc] at h
            unfold PyFlat.rows at h
            dsimp only at h
            cases q : PyFlat.calls PyKrc9.shape f (r.drop n.toNat) with
            | none =>
              rw [q] at h
              cases h
            | some cs' =>
              rw [q] at h
              have e := Option.some.inj h
              refine ⟨4, n :: r.take n.toNat, r.drop n.toNat, [[4], r.take n.toNat], cs', f, ?_, rfl, ?_, e.symm, q⟩
              · have el : n = ((r.take n.toNat).length : Int) := by
                  rw [List.length_take, Nat.min_eq_left hc.2]
                  omega
                have o := One.stock (r.take n.toNat)
                rw [← el] at o
                exact o
              · rw [List.cons_append, List.take_append_drop]
          · rw [if_neg hc] at h
            cases h
      · rw [if_neg h4] at hs
        rw [hs] at h
        dsimp only at h
        by_cases hl : r.length < lens.getD p 0
        · rw [if_pos hl] at h
          cases h
        · rw [if_neg hl] at h
          unfold PyFlat.rows at h
          dsimp only at h
          cases q : PyFlat.calls PyKrc9.shape f (r.drop (lens.getD p 0)) with
          | none =>
            rw [q] at h
            cases h
          | some cs' =>
            rw [q] at h
            have e := Option.some.inj h
            refine ⟨p, r.take (lens.getD p 0), r.drop (lens.getD p 0), [(p : Int) :: r.take (lens.getD p 0)], cs', f, .plain p _ hp h4 ?_, rfl, (List.take_append_drop _ _).symm, e.symm, q⟩
            rw [lens_at hp, List.length_take, Nat.min_eq_left (by omega)]
    · unfold PyFlat.calls PyFlat.call at h
      dsimp only at h
      rw [hn] at h
      cases h
theorem no_call {f : Nat} {cs : List (List (List Int))} (h : calls PyKrc9.shape f [] = some cs) : cs = [] := by
  unfold PyFlat.calls at h
  exact (Option.some.inj h).symm
theorem len_0 {a : List Int} (h : some 0 = some a.length) : a = [] := List.eq_nil_of_length_eq_zero (Option.some.inj h).symm
theorem len_s {n : Nat} {a : List Int} (h : some (n + 1) = some a.length) : ∃ x r, a = x :: r ∧ some n = some r.length := by
  cases a with
  | nil => cases h
  | cons x r => exact ⟨x, r, rfl, congrArg some (Nat.succ.inj (Option.some.inj h))⟩
theorem one_0 {p : Nat} (h : PyKrc9.whole [[(p : Int)]] = [[(p : Int)]]) {a : List Int} (l : some 0 = some a.length) : PyKrc9.whole [(p : Int) :: a] = [(p : Int) :: a] := by
  rw [len_0 l]
  exact h
theorem one_1 {p : Nat} (h : ∀ x : Int, PyKrc9.whole [[(p : Int), x]] = [[(p : Int), x]]) {a : List Int} (l : some 1 = some a.length) : PyKrc9.whole [(p : Int) :: a] = [(p : Int) :: a] := by
  obtain ⟨x, r, rfl, l1⟩ := len_s l
  rw [len_0 l1]
  exact h x
theorem one_2 {p : Nat} (h : ∀ x y : Int, PyKrc9.whole [[(p : Int), x, y]] = [[(p : Int), x, y]]) {a : List Int} (l : some 2 = some a.length) : PyKrc9.whole [(p : Int) :: a] = [(p : Int) :: a] := by
  obtain ⟨x, r, rfl, l1⟩ := len_s l
  obtain ⟨y, r2, rfl, l2⟩ := len_s l1
  rw [len_0 l2]
  exact h x y
theorem one_3 {p : Nat} (h : ∀ x y z : Int, PyKrc9.whole [[(p : Int), x, y, z]] = [[(p : Int), x, y, z]]) {a : List Int} (l : some 3 = some a.length) : PyKrc9.whole [(p : Int) :: a] = [(p : Int) :: a] := by
  obtain ⟨x, r, rfl, l1⟩ := len_s l
  obtain ⟨y, r2, rfl, l2⟩ := len_s l1
  obtain ⟨z, r3, rfl, l3⟩ := len_s l2
  rw [len_0 l3]
  exact h x y z
theorem plain_whole : ∀ (p : Nat) {a : List Int}, p < 21 → p ≠ 4 → lens[p]? = some a.length → PyKrc9.whole [(p : Int) :: a] = [(p : Int) :: a]
  | 0, _, _, _, l => one_3 (fun _ _ _ => rfl) l
  | 1, _, _, _, l => one_1 (fun _ => rfl) l
  | 2, _, _, _, l => one_1 (fun _ => rfl) l
  | 3, _, _, _, l => one_1 (fun _ => rfl) l
  | 4, _, _, n, _ => absurd rfl n
  | 5, _, _, _, l => one_1 (fun _ => rfl) l
  | 6, _, _, _, l => one_1 (fun _ => rfl) l
  | 7, _, _, _, l => one_1 (fun _ => rfl) l
  | 8, _, _, _, l => one_1 (fun _ => rfl) l
  | 9, _, _, _, l => one_0 rfl l
  | 10, _, _, _, l => one_2 (fun _ _ => rfl) l
  | 11, _, _, _, l => one_0 rfl l
  | 12, _, _, _, l => one_1 (fun _ => rfl) l
  | 13, _, _, _, l => one_2 (fun _ _ => rfl) l
  | 14, _, _, _, l => one_2 (fun _ _ => rfl) l
  | 15, _, _, _, l => one_0 rfl l
  | 16, _, _, _, l => one_0 rfl l
  | 17, _, _, _, l => one_1 (fun _ => rfl) l
  | 18, _, _, _, l => one_1 (fun _ => rfl) l
  | 19, _, _, _, l => one_0 rfl l
  | 20, _, _, _, l => one_0 rfl l
  | p + 21, _, h, _, _ => absurd h (by omega)
theorem one_whole {c : List (List Int)} {p : Nat} {a : List Int} (o : One c p a) : PyKrc9.whole c = c := by
  cases o with
  | plain _ _ h n l => exact plain_whole p h n l
  | stock r => rfl
theorem map_whole : ∀ (n : Nat) {f : Nat} {l : List Int} {cs : List (List (List Int))}, l.length ≤ n → calls PyKrc9.shape f l = some cs → cs.map PyKrc9.whole = cs
  | _, _, [], _, _, h => by
    rw [no_call h]
    rfl
  | 0, _, z :: r, _, hl, _ => absurd hl (Nat.not_succ_le_zero _)
  | n + 1, _, z :: r, _, hl, h => by
    obtain ⟨p, a, rest, c, cs', f', o, _, er, ec, h'⟩ := first_call h
    have hr : rest.length ≤ n := by
      have := congrArg List.length er
      rw [List.length_append] at this
      have : r.length + 1 ≤ n + 1 := hl
      omega
    rw [ec, List.map_cons, one_whole o, map_whole n hr h']
theorem told_cons (a : List Int) (l : List (List Int)) : PyFlat.told (a :: l) = ((a.length : Int) :: a) ++ PyFlat.told l := by
  unfold PyFlat.told
  rw [List.flatMap_cons]

/-- every number handed in is a whole number from 0 on -/
def Nat32 (l : List Int) : Prop := ∀ z ∈ l, 0 ≤ z ∧ z ≤ 4294967295

/-- what a request is -/
theorem asked_calls {l : List Int} (h : PyKrc9.answers_asked l = true) : ∃ cs, calls PyKrc9.shape l.length l = some cs ∧ cs.length ≤ 40 ∧
    (∀ c ∈ cs, PyInside.call PyKrc9.bound c = true) ∧ (∀ c ∈ cs, Krc9Neutral.asked1 c = true) ∧ (PyKrc9.answers l).length ≤ 10000000 ∧ PyKrc9.answers l = PyFlat.told (PyFlat.played Krc9Neutral.step Krc9Neutral.start cs) := by
  unfold PyKrc9.answers_asked at h
  cases q : calls PyKrc9.shape l.length l with
  | none =>
    rw [q] at h
    cases h
  | some cs =>
    rw [q] at h
    dsimp only at h
    rw [map_whole _ (Nat.le_refl _) q, Bool.and_eq_true, Bool.and_eq_true, Bool.and_eq_true] at h
    obtain ⟨⟨⟨h1, h2⟩, h3⟩, h4⟩ := h
    refine ⟨cs, rfl, of_decide_eq_true h1, fun c hc => ?_, fun c hc => ?_, of_decide_eq_true h4, ?_⟩
    · exact List.all_eq_true.mp h2 c hc
    · unfold Krc9Neutral.asked at h3
      rw [Bool.and_eq_true] at h3
      exact List.all_eq_true.mp h3.1 c hc
    · unfold PyKrc9.answers PyKrc9.calls
      rw [q]
      dsimp only
      rw [map_whole _ (Nat.le_refl _) q]
end Mc
end

section
/-! What the program reckons, call by call, against the specification. -/
namespace Mc
open Krb7 (full both either not_ within truth right behind count worlds why)
open Krc9 (House)

theorem full1 : full 1 = 3 := by decide
theorem full2 : full 2 = 15 := by decide
theorem full3 : full 3 = 255 := by decide
theorem full_le {m : Nat} (h : m ≤ 3) : full m ≤ 255 := by
  match m, h with
  | 0, _ => decide
  | 1, _ => decide
  | 2, _ => decide
  | 3, _ => decide
theorem why_eq (b p : Nat) : why b p = if wo b p = 0 then 1 else if b &&& p = 0 then 2 else 0 := by
  unfold why
  rw [within_wo]
  by_cases h : wo b p = 0
  · rw [if_pos h, if_pos (decide_eq_true h)]
  · rw [if_neg h, if_neg (by rw [decide_eq_false h]; decide)]
    rfl
/-- a bearing told as an answer -/
def tell (r : Nat) : Nat := if r = 1 then 1 else if r = 2 then 0 else 2
theorem truth_tell (k p : Nat) : truth k p = tell (why k p) := by
  unfold truth why tell
  split
  · rfl
  · split <;> rfl
theorem right_tell (k b p : Nat) : right k b p = tell (if why b p = 0 then why k p else why b p) := by
  unfold right
  rw [truth_tell]
  unfold why tell
  by_cases h1 : within b p = true
  · simp [h1]
  · by_cases h2 : both b p = 0
    · simp [h1, h2]
    · simp [h1, h2]
/-- what can be made so, by bits -/
def canB (k b a t : Nat) : Bool := if a = 1 then decide (b &&& t ≠ 0) && decide (wo (b &&& k) t = 0) else if a = 0 then decide (wo b t ≠ 0) && decide ((b &&& k) &&& t = 0) else decide (right k b t = 2)
theorem within_not {m a t : Nat} (ha : a ≤ full m) (ht : t ≤ full m) : within a (not_ m t) = decide (a &&& t = 0) := by
  have e : wo a (not_ m t) = a &&& t := by
    apply Nat.eq_of_testBit_eq
    intro i
    rw [wo_bit, Nat.testBit_and, not_bit ht]
    by_cases hi : i < worlds m
    · simp [hi]
    · rw [bit_small ha (by omega)]
      rfl
  rw [within_wo, e]
theorem can_eq {h : House} (F : Fit h) {a t : Nat} (ha : a ≤ 2) (ht : t ≤ full h.m) : h.can a t = canB h.known h.stands a t := by
  unfold House.can canB
  have c : both h.known h.stands = h.stands &&& h.known := Nat.and_comm _ _
  have bn : ∀ x : Nat, (x != 0) = decide (x ≠ 0) := fun x => by
    by_cases e : x = 0
    · subst e
      rfl
    · rw [decide_eq_true e]
      exact bne_iff_ne.mpr e
  match a, ha with
  | 0, _ =>
    rw [if_neg (by decide), if_pos rfl, if_neg (by decide), if_pos rfl, c, within_not (and_full _ F.st) ht, ← wo_eq F.st ht, bn]
  | 1, _ =>
    rw [if_pos rfl, if_pos rfl, c, within_wo, bn]
    rfl
  | 2, _ =>
    rw [if_neg (by decide), if_neg (by decide), if_neg (by decide), if_neg (by decide)]
    by_cases e : right h.known h.stands t = 2
    · rw [e]
      rfl
    · rw [decide_eq_false e]
      exact beq_eq_false_iff_ne.mpr e
theorem bits_eq (c0 c1 c2 : Bool) (f : Nat → Bool) (h0 : f 0 = c0) (h1 : f 1 = c1) (h2 : f 2 = c2) :
    Krc9.bits ([0, 1, 2].filter f) = (if c0 = true then 1 else 0) + (if c1 = true then 2 else 0) + (if c2 = true then 4 else 0) := by
  rw [List.filter_cons, List.filter_cons, List.filter_cons, List.filter_nil, h0, h1, h2]
  cases c0 <;> cases c1 <;> cases c2 <;> decide
/-- the loop that goes through all propositions for one ahead -/
theorem ahead_eq {h : House} (F : Fit h) {a t : Nat} : h.ahead a t = (List.range (full h.m + 1)).find? fun p => right h.known (nx h.known h.stands p) t == a := by
  unfold House.ahead House.ps
  have key : ∀ l : List Nat, (∀ p ∈ l, p ≤ full h.m) → (l.find? fun p => right h.known (h.next h.stands p) t == a) = l.find? fun p => right h.known (nx h.known h.stands p) t == a := by
    intro l
    induction l with
    | nil =>
      intro _
      rfl
    | cons x r ih =>
      intro hl
      rw [List.find?_cons, List.find?_cons, next_eq F.st (hl x List.mem_cons_self), ih fun p hp => hl p (List.mem_cons_of_mem _ hp)]
  exact key _ fun p hp => Nat.le_of_lt_succ (List.mem_range.mp hp)
theorem all_eq {h : House} (F : Fit h) {a : Nat} (ha : a ≤ 2) : h.all a = (List.range (full h.m + 1)).filter fun t => canB h.known h.stands a t := by
  unfold House.all House.ps
  refine List.filter_congr fun t ht => ?_
  exact can_eq F ha (Nat.le_of_lt_succ (List.mem_range.mp ht))
end Mc
end

section
/-! What is due, call by call, of an object that has begun. -/
namespace Mc
open Krb7 (full both either not_ within truth right behind count worlds why)
open Krc9 (House act say)
open Krc9Neutral (call told)

theorem ok_t {h : House} {x : Nat} (hx : x ≤ full h.m) : h.ok x = true := decide_eq_true hx
theorem ok_f {h : House} {x : Nat} (hx : ¬ x ≤ full h.m) : h.ok x = false := decide_eq_false hx
section
variable {h : House} {x y : Nat}
theorem act_bad1 (p : Nat) (hp : p ∈ [1, 2, 3, 5, 6, 7, 8, 18]) (hx : ¬ x ≤ full h.m) : act (some h) (call [[(p : Int), (x : Int)]]) = (some h, say (-22)) := by
  have hx := ok_f hx
  simp only [List.mem_cons, List.not_mem_nil, or_false] at hp
  rcases hp with rfl | rfl | rfl | rfl | rfl | rfl | rfl | rfl
  · show (if (!h.ok x) = true then _ else _) = _
    rw [hx]
    rfl
  · show (if (!h.ok x) = true then _ else _) = _
    rw [hx]
    rfl
  · show (if (!h.ok x) = true then _ else _) = _
    rw [hx]
    rfl
  · show (some h, if (!h.ok x) = true then say (-22) else _) = _
    rw [hx]
    rfl
  · show (some h, if (!h.ok x) = true then say (-22) else _) = _
    rw [hx]
    rfl
  · show (some h, if (!h.ok x) = true then say (-22) else _) = _
    rw [hx]
    rfl
  · show (some h, if (!h.ok x) = true then say (-22) else _) = _
    rw [hx]
    rfl
  · show (some h, if (!h.ok x) = true then say (-22) else _) = _
    rw [hx]
    rfl
theorem act_propose (hx : x ≤ full h.m) : act (some h) (call [[1, (x : Int)]]) = (some { h with stands := h.next h.stands x }, { num := right h.known h.stands x, nums := Krc9.«ints» [count h.m (h.next h.stands x)] }) := by
  show (if (!h.ok x) = true then _ else _) = _
  rw [ok_t hx]
  rfl
theorem act_stand (hx : x ≤ full h.m) : act (some h) (call [[2, (x : Int)]]) = if x = 0 then (some h, say (-33)) else (some { h with stands := x }, say (count h.m x)) := by
  show (if (!h.ok x) = true then _ else _) = _
  rw [ok_t hx]
  rfl
theorem act_learn (hx : x ≤ full h.m) : act (some h) (call [[3, (x : Int)]]) = if both h.known x = 0 then (some h, say (-33)) else (some { h with known := both h.known x }, say (count h.m (both h.known x))) := by
  show (if (!h.ok x) = true then _ else _) = _
  rw [ok_t hx]
  rfl
theorem toNats (l : List Nat) : (l.map (fun (x : Nat) => (x : Int))).map Int.toNat = l := by
  induction l with
  | nil => rfl
  | cons x r ih =>
    rw [List.map_cons, List.map_cons, ih]
    rfl
theorem act_stock (l : List Nat) : act (some h) (call [[4], l.map (fun (x : Nat) => (x : Int))]) =
    if 6 < l.length ∨ ∃ p ∈ l, ¬ p ≤ full h.m then (some h, say (-22)) else (some { h with stock := l }, say l.length) := by
  have e : call [[4], l.map (fun (x : Nat) => (x : Int))] = .stock l := by
    show Krc9.Call.stock ((l.map (fun (x : Nat) => (x : Int))).map Int.toNat) = _
    rw [toNats]
  rw [e]
  show (if (decide (6 < l.length) || l.any (fun p => !(h.ok p))) = true then _ else _) = _
  have q : ((decide (6 < l.length) || l.any (fun p => !(h.ok p))) = true) ↔ (6 < l.length ∨ ∃ p ∈ l, ¬ p ≤ full h.m) := by
    rw [Bool.or_eq_true, decide_eq_true_iff, List.any_eq_true]
    constructor
    · rintro (a | ⟨p, hp, z⟩)
      · exact .inl a
      · refine .inr ⟨p, hp, fun y => ?_⟩
        rw [ok_t y] at z
        cases z
    · rintro (a | ⟨p, hp, z⟩)
      · exact .inl a
      · exact .inr ⟨p, hp, by rw [ok_f z]; rfl⟩
  by_cases c : 6 < l.length ∨ ∃ p ∈ l, ¬ p ≤ full h.m
  · rw [if_pos c, if_pos (q.mpr c)]
  · rw [if_neg c, if_neg fun z => c (q.mp z)]
theorem act_answer (hx : x ≤ full h.m) : act (some h) (call [[5, (x : Int)]]) = (some h, { num := right h.known h.stands x, nums := Krc9.«ints» [why h.stands x] }) := by
  show (some h, if (!h.ok x) = true then _ else _) = _
  rw [ok_t hx]
  rfl
theorem act_concede (hx : x ≤ full h.m) : act (some h) (call [[6, (x : Int)]]) = (some h, Krc9.row? (h.row 1 x)) := by
  show (some h, if (!h.ok x) = true then _ else _) = _
  rw [ok_t hx]
  rfl
theorem act_deny (hx : x ≤ full h.m) : act (some h) (call [[7, (x : Int)]]) = (some h, Krc9.row? (h.row 0 x)) := by
  show (some h, if (!h.ok x) = true then _ else _) = _
  rw [ok_t hx]
  rfl
theorem act_may (hx : x ≤ full h.m) : act (some h) (call [[8, (x : Int)]]) = (some h, say (Krc9.bits ([0, 1, 2].filter fun a => h.can a x))) := by
  show (some h, if (!h.ok x) = true then _ else _) = _
  rw [ok_t hx]
  rfl
theorem act_counts : act (some h) (call [[9]]) = (some h, { num := (h.all 1).length, nums := Krc9.«ints» [(h.all 0).length, (h.all 2).length] }) := rfl
/-- the k-th of a list, or there is none -/
def nthA (l : List Nat) (k : Nat) : Krb7.Ans := match l[k]? with
  | none => say (-33)
  | some t => say t
theorem act_nth : act (some h) (call [[10, (x : Int), (y : Int)]]) = (some h, if 2 < x then say (-22) else nthA (h.all x) y) := rfl
theorem act_false : act (some h) (call [[11]]) = (some h, say h.false_.length) := rfl
theorem act_falsenth : act (some h) (call [[12, (x : Int)]]) = (some h, nthA h.false_ x) := rfl
theorem bad2 {A : Type} {a b : A} : (if (!(h.ok y) || decide (2 < x)) = true then a else b) = if ¬ y ≤ full h.m ∨ 2 < x then a else b := by
  by_cases c : ¬ y ≤ full h.m ∨ 2 < x
  · rw [if_pos c]
    refine if_pos ?_
    rcases c with c | c
    · rw [ok_f c]
      rfl
    · rw [decide_eq_true c, Bool.or_true]
  · rw [if_neg c]
    refine if_neg ?_
    have c1 : y ≤ full h.m := Decidable.byContradiction fun z => c (.inl z)
    have c2 : ¬ 2 < x := fun z => c (.inr z)
    rw [ok_t c1, decide_eq_false c2]
    decide
theorem act_surely : act (some h) (call [[13, (x : Int), (y : Int)]]) = (some h, if ¬ y ≤ full h.m ∨ 2 < x then say (-22) else say (if ([0, 1, 2].filter fun a => h.can a y) = [x] then 1 else 0)) := by
  show (some h, if (!(h.ok y) || decide (2 < x)) = true then _ else _) = _
  rw [bad2]
  rfl
theorem act_from : act (some h) (call [[14, (x : Int), (y : Int)]]) = (some h, if ¬ y ≤ full h.m ∨ 2 < x then say (-22) else match h.soonest (fun b => right h.known b y == x) h.stands with
    | none => say (-33)
    | some k => Krc9.list (h.way (fun b => right h.known b y == x) k h.stands)) := by
  show (some h, if (!(h.ok y) || decide (2 < x)) = true then _ else _) = _
  rw [bad2]
  rfl
theorem act_least : act (some h) (call [[15]]) = (some h, match h.least with
    | none => say (-33)
    | some b => { num := count h.m b, nums := Krc9.«ints» [b] }) := rfl
theorem act_reach : act (some h) (call [[16]]) = (some h, say h.reach.length) := rfl
theorem act_reachnth : act (some h) (call [[17, (x : Int)]]) = (some h, nthA h.reach x) := rfl
theorem act_stands (hx : x ≤ full h.m) : act (some h) (call [[18, (x : Int)]]) = (some h, match h.soonest (fun b => b == x) h.stands with
    | none => say (-33)
    | some k => Krc9.list (h.way (fun b => b == x) k h.stands)) := by
  show (some h, if (!h.ok x) = true then _ else _) = _
  rw [ok_t hx]
  rfl
theorem act_idle : act (some h) (call [[19]]) = (some h, Krc9.list ((List.range h.stock.length).filter fun i => h.reach.all fun b => h.next b (h.stock.getD i 0) == b)) := rfl
theorem act_state : act (some h) (call [[20]]) = (some h, { num := h.m, nums := Krc9.«ints» (h.known :: h.stands :: h.stock) }) := rfl
end
theorem act_begin (s : Option House) (m k b : Nat) : act s (call [[0, (m : Int), (k : Int), (b : Int)]]) = if m = 0 ∨ 3 < m ∨ k = 0 ∨ full m < k ∨ full m < b then (s, say (-22)) else if b = 0 then (s, say (-33)) else (some ⟨m, k, b, []⟩, say (count m b)) := rfl
theorem act_none {c : List (List Int)} {p : Nat} {a : List Int} (o : One c p a) (hp : p ≠ 0) : act none (call c) = (none, say (-11)) := by
  cases o with
  | plain _ _ h n l =>
    have e : ∀ q : Nat, q < 21 → q ≠ 0 → ∀ r : List Int, act none (call [(q : Int) :: r]) = (none, say (-11)) := by
      intro q hq h0 r
      match q, hq, h0 with
      | 1, _, _ => rfl
      | 2, _, _ => rfl
      | 3, _, _ => rfl
      | 4, _, _ => rfl
      | 5, _, _ => rfl
      | 6, _, _ => rfl
      | 7, _, _ => rfl
      | 8, _, _ => rfl
      | 9, _, _ => rfl
      | 10, _, _ => rfl
      | 11, _, _ => rfl
      | 12, _, _ => rfl
      | 13, _, _ => rfl
      | 14, _, _ => rfl
      | 15, _, _ => rfl
      | 16, _, _ => rfl
      | 17, _, _ => rfl
      | 18, _, _ => rfl
      | 19, _, _ => rfl
      | 20, _, _ => rfl
      | q + 21, z, _ => exact absurd z (by omega)
    exact e p h hp a
  | stock r => rfl
/-! ### what an object holds stays so -/
theorem Fit.begin {m k b : Nat} (hm : 1 ≤ m) (h3 : m ≤ 3) (hk : k ≤ full m) (k0 : k ≠ 0) (hb : b ≤ full m) (b0 : b ≠ 0) : Fit ⟨m, k, b, []⟩ := ⟨hm, h3, hk, k0, hb, b0, fun p hp => absurd hp (by simp), by simp⟩
theorem Fit.next {h : House} (F : Fit h) {x : Nat} (hx : x ≤ full h.m) : Fit { h with stands := h.next h.stands x } := by
  refine ⟨F.m1, F.m3, F.kn, F.k0, ?_, ?_, F.sk, F.sl⟩
  · show h.next h.stands x ≤ _
    rw [next_eq F.st hx]
    exact nx_full F.st
  · show h.next h.stands x ≠ 0
    rw [next_eq F.st hx]
    exact nx_ne F.s0
theorem Fit.stand {h : House} (F : Fit h) {x : Nat} (hx : x ≤ full h.m) (x0 : x ≠ 0) : Fit { h with stands := x } := ⟨F.m1, F.m3, F.kn, F.k0, hx, x0, F.sk, F.sl⟩
theorem Fit.learn {h : House} (F : Fit h) {x : Nat} (x0 : both h.known x ≠ 0) : Fit { h with known := both h.known x } := ⟨F.m1, F.m3, and_full x F.kn, x0, F.st, F.s0, F.sk, F.sl⟩
theorem Fit.put {h : House} (F : Fit h) {l : List Nat} (hl : l.length ≤ 6) (hp : ∀ p ∈ l, p ≤ full h.m) : Fit { h with stock := l } := ⟨F.m1, F.m3, F.kn, F.k0, F.st, F.s0, hp, hl⟩
theorem pc8 {h : House} (F : Fit h) {b : Nat} (hb : b ≤ full h.m) : count h.m b = pc 8 b := by
  rw [count_pc]
  exact (pc_big (le_full.mp hb) (worlds_le F.m3)).symm
theorem pc8m {m b : Nat} (h3 : m ≤ 3) (hb : b ≤ full m) : count m b = pc 8 b := by
  rw [count_pc]
  exact (pc_big (le_full.mp hb) (worlds_le h3)).symm
end Mc
end

section
/-! A refusal is its number alone, and changes nothing. -/
namespace Mc
open Krc9 (House act say)
def Ref (s : Option House) (r : Option House × Krb7.Ans) : Prop := 0 ≤ r.2.num ∨ (r.1 = s ∧ (r.2 = say (-11) ∨ r.2 = say (-22) ∨ r.2 = say (-33)))
theorem ref_ite {c : Prop} [Decidable c] {s : Option House} {a b : Option House × Krb7.Ans} (h1 : Ref s a) (h2 : Ref s b) : Ref s (if c then a else b) := by
  split
  · exact h1
  · exact h2
theorem ref_ans {c : Prop} [Decidable c] {s : Option House} {a b : Krb7.Ans} (h1 : Ref s (s, a)) (h2 : Ref s (s, b)) : Ref s (s, if c then a else b) := by
  split
  · exact h1
  · exact h2
theorem r11 {s : Option House} : Ref s (s, say (-11)) := .inr ⟨rfl, .inl rfl⟩
theorem r22 {s : Option House} : Ref s (s, say (-22)) := .inr ⟨rfl, .inr (.inl rfl)⟩
theorem r33 {s : Option House} : Ref s (s, say (-33)) := .inr ⟨rfl, .inr (.inr rfl)⟩
theorem rn {s u : Option House} (n : Nat) (l : List Int) : Ref s (u, { num := (n : Int), nums := l }) := .inl (Int.natCast_nonneg n)
theorem rs {s u : Option House} (n : Nat) : Ref s (u, say (n : Int)) := .inl (Int.natCast_nonneg n)
theorem act_ref (s : Option House) (c : Krc9.Call) : Ref s (act s c) := by
  cases c with
  | begin_ m k b =>
    unfold act
    exact ref_ite r22 (ref_ite r33 (rs _))
  | propose p =>
    cases s with
    | none => exact r11
    | some h => exact ref_ite r22 (rn _ _)
  | stand p =>
    cases s with
    | none => exact r11
    | some h => exact ref_ite r22 (ref_ite r33 (rs _))
  | learn p =>
    cases s with
    | none => exact r11
    | some h => exact ref_ite r22 (ref_ite r33 (rs _))
  | stock l =>
    cases s with
    | none => exact r11
    | some h => exact ref_ite r22 (rs _)
  | answer p =>
    cases s with
    | none => exact r11
    | some h => exact ref_ans r22 (rn _ _)
  | concede p =>
    cases s with
    | none => exact r11
    | some h =>
      refine ref_ans r22 ?_
      cases h.row 1 p with
      | none => exact r33
      | some r => exact rn _ _
  | deny p =>
    cases s with
    | none => exact r11
    | some h =>
      refine ref_ans r22 ?_
      cases h.row 0 p with
      | none => exact r33
      | some r => exact rn _ _
  | may p =>
    cases s with
    | none => exact r11
    | some h => exact ref_ans r22 (rs _)
  | counts =>
    cases s with
    | none => exact r11
    | some h => exact rn _ _
  | nth x k =>
    cases s with
    | none => exact r11
    | some h =>
      refine ref_ans r22 ?_
      cases (h.all x)[k]? with
      | none => exact r33
      | some r => exact rs _
  | false_ =>
    cases s with
    | none => exact r11
    | some h => exact rs _
  | falseNth k =>
    cases s with
    | none => exact r11
    | some h =>
      show Ref _ (_, match h.false_[k]? with | none => _ | some t => _)
      cases h.false_[k]? with
      | none => exact r33
      | some r => exact rs _
  | surely x y =>
    cases s with
    | none => exact r11
    | some h =>
      refine ref_ans r22 ?_
      by_cases e : ([0, 1, 2].filter fun a => h.can a y) = [x]
      · rw [if_pos e]
        exact rs 1
      · rw [if_neg e]
        exact rs 0
  | from_ x y =>
    cases s with
    | none => exact r11
    | some h =>
      refine ref_ans r22 ?_
      cases h.soonest (fun b => Krb7.right h.known b y == x) h.stands with
      | none => exact r33
      | some r => exact rn _ _
  | least =>
    cases s with
    | none => exact r11
    | some h =>
      show Ref _ (_, match h.least with | none => _ | some t => _)
      cases h.least with
      | none => exact r33
      | some r => exact rn _ _
  | reach =>
    cases s with
    | none => exact r11
    | some h => exact rs _
  | reachNth k =>
    cases s with
    | none => exact r11
    | some h =>
      show Ref _ (_, match h.reach[k]? with | none => _ | some t => _)
      cases h.reach[k]? with
      | none => exact r33
      | some r => exact rs _
  | stands b =>
    cases s with
    | none => exact r11
    | some h =>
      refine ref_ans r22 ?_
      cases h.soonest (fun x => x == b) h.stands with
      | none => exact r33
      | some r => exact rn _ _
  | idle =>
    cases s with
    | none => exact r11
    | some h => exact rn _ _
  | state =>
    cases s with
    | none => exact r11
    | some h => exact rn _ _
end Mc
end

section
/-! The walk that finds what stands behind rows of the stock: shorter rows first, of like ones the earlier place. -/
namespace Mc
open Krb7 (full both either not_ within truth right behind count worlds why)
open Krc9 (House)

/-- shorter, or as long and earlier -/
def Sl (r s : List Nat) : Prop := r.length < s.length ∨ (r.length = s.length ∧ Lex r s)
theorem lex_trans : ∀ {a b c : List Nat}, Lex a b → Lex b c → Lex a c
  | [], _, _, h, _ => h.elim
  | _ :: _, [], _, h, _ => h.elim
  | _ :: _, _ :: _, [], _, g => g.elim
  | x :: a, y :: b, z :: c, h, g => by
    rcases h with h | ⟨h, h'⟩ <;> rcases g with g | ⟨g, g'⟩
    · exact .inl (by omega)
    · exact .inl (by omega)
    · exact .inl (by omega)
    · exact .inr ⟨by omega, lex_trans h' g'⟩
theorem Sl.trans {a b c : List Nat} (h : Sl a b) (g : Sl b c) : Sl a c := by
  rcases h with h | ⟨h, h'⟩ <;> rcases g with g | ⟨g, g'⟩
  · exact .inl (by omega)
  · exact .inl (by omega)
  · exact .inl (by omega)
  · exact .inr ⟨by omega, lex_trans h' g'⟩
theorem lex_app : ∀ {r s : List Nat} (u v : List Nat), Lex r s → Lex (r ++ u) (s ++ v)
  | [], _, _, _, h => h.elim
  | _ :: _, [], _, _, h => h.elim
  | x :: r, y :: s, u, v, h => by
    rcases h with h | ⟨h, h'⟩
    · exact .inl h
    · exact .inr ⟨h, lex_app u v h'⟩
theorem lex_last : ∀ (r : List Nat) {i j : Nat}, i < j → Lex (r ++ [i]) (r ++ [j])
  | [], _, _, h => .inl h
  | _ :: r, _, _, h => .inr ⟨rfl, lex_last r h⟩
theorem len1 (r : List Nat) (i : Nat) : (r ++ [i]).length = r.length + 1 := by
  rw [List.length_append, List.length_singleton]
theorem Sl.snoc {r s : List Nat} (h : Sl r s) (i j : Nat) : Sl (r ++ [i]) (s ++ [j]) := by
  rcases h with h | ⟨h, h'⟩
  · exact .inl (by rw [len1, len1]; omega)
  · exact .inr ⟨by rw [len1, len1]; omega, lex_app _ _ h'⟩
theorem Sl.last (r : List Nat) {i j : Nat} (h : i < j) : Sl (r ++ [i]) (r ++ [j]) := .inr ⟨by rw [len1, len1], lex_last r h⟩
theorem run_snoc {kn : Nat} {l : List Nat} : ∀ {r : List Nat} {b i : Nat}, run kn l b (r ++ [i]) = nx kn (run kn l b r) (l.getD i 0)
  | [], _, _ => rfl
  | x :: r, b, i => run_snoc (r := r) (b := nx kn b (l.getD x 0)) (i := i)

theorem lt_or {k a i j : Nat} (h : k < a ∨ (k = a ∧ i < j + 1)) (z : ¬ (k = a ∧ i = j)) : k < a ∨ (k = a ∧ i < j) := by
  rcases h with h | ⟨h1, h2⟩
  · exact .inl h
  · exact .inr ⟨h1, Nat.lt_of_le_of_ne (Nat.le_of_lt_succ h2) fun e => z ⟨h1, e⟩⟩
/-- what is found so far: each set with its row; the a-th is gone through up to its j-th place -/
structure Bf (kn : Nat) (l : List Nat) (b : Nat) (es : List (Nat × List Nat)) (a j : Nat) : Prop where
  head : es[0]? = some (b, [])
  ok : ∀ e ∈ es, Pl l e.2 ∧ run kn l b e.2 = e.1
  nd : (es.map (·.1)).Nodup
  up : es.Pairwise fun e f => Sl e.2 f.2
  done : ∀ (k : Nat) (e : Nat × List Nat) (i : Nat), es[k]? = some e → i < l.length → (k < a ∨ (k = a ∧ i < j)) → ∃ f ∈ es, f.1 = nx kn e.1 (l.getD i 0) ∧ (f.2 = e.2 ++ [i] ∨ Sl f.2 (e.2 ++ [i]))
  low : ∀ e : Nat × List Nat, es[a]? = some e → ∀ f ∈ es, Sl f.2 (e.2 ++ [j])
  len : ∀ (k : Nat) (e : Nat × List Nat), es[k]? = some e → e.2.length ≤ k
section
variable {kn : Nat} {l : List Nat} {b : Nat} {es : List (Nat × List Nat)} {a j : Nat}
theorem Bf.start (kn : Nat) (l : List Nat) (b : Nat) : Bf kn l b [(b, [])] 0 0 where
  head := rfl
  ok := fun e he => by
    rw [List.mem_singleton.mp he]
    exact ⟨fun i hi => absurd hi (by simp), rfl⟩
  nd := by simp
  up := List.pairwise_singleton _ _
  done := fun k e i _ _ h => by omega
  low := fun e he f hf => by
    rw [List.mem_singleton.mp hf]
    exact .inl (by rw [len1]; exact Nat.succ_pos _)
  len := fun k e he => by
    cases k with
    | zero =>
      have e1 : (b, []) = e := Option.some.inj he
      rw [← e1]
      exact Nat.le_refl 0
    | succ k => simp at he
theorem Bf.old (B : Bf kn l b es a j) {e : Nat × List Nat} (he : es[a]? = some e) (hin : nx kn e.1 (l.getD j 0) ∈ es.map (·.1)) : Bf kn l b es a (j + 1) where
  head := B.head
  ok := B.ok
  nd := B.nd
  up := B.up
  done := fun k e' i hk hi h => by
    by_cases z : k = a ∧ i = j
    · obtain ⟨rfl, rfl⟩ := z
      rw [he] at hk
      have ee := Option.some.inj hk
      subst ee
      obtain ⟨f, hf, e1⟩ := List.mem_map.mp hin
      exact ⟨f, hf, e1, .inr (B.low e he f hf)⟩
    · exact B.done k e' i hk hi (lt_or h z)
  low := fun e' he' f hf => by
    rw [he] at he'
    have ee := Option.some.inj he'
    subst ee
    exact (B.low e he f hf).trans (Sl.last _ (Nat.lt_succ_self j))
  len := B.len
theorem Bf.add (B : Bf kn l b es a j) {e : Nat × List Nat} (he : es[a]? = some e) (hj : j < l.length) (hin : ¬ nx kn e.1 (l.getD j 0) ∈ es.map (·.1)) :
    Bf kn l b (es ++ [(nx kn e.1 (l.getD j 0), e.2 ++ [j])]) a (j + 1) := by
  have ha : a < es.length := (List.getElem?_eq_some_iff.mp he).1
  have hme : e ∈ es := List.mem_of_getElem? he
  have left : ∀ k, k < es.length → (es ++ [(nx kn e.1 (l.getD j 0), e.2 ++ [j])])[k]? = es[k]? := fun k hk => List.getElem?_append_left hk
  refine ⟨?_, ?_, ?_, ?_, ?_, ?_, ?_⟩
  · rw [left 0 (by omega)]
    exact B.head
  · intro f hf
    rcases List.mem_append.mp hf with hf | hf
    · exact B.ok f hf
    · rw [List.mem_singleton.mp hf]
      refine ⟨fun i hi => ?_, ?_⟩
      · rcases List.mem_append.mp hi with hi | hi
        · exact (B.ok e hme).1 i hi
        · rw [List.mem_singleton.mp hi]
          exact hj
      · show run kn l b (e.2 ++ [j]) = nx kn e.1 (l.getD j 0)
        rw [run_snoc, (B.ok e hme).2]
  · rw [List.map_append]
    refine List.nodup_append.mpr ⟨B.nd, by simp, fun x hx y hy z => ?_⟩
    rw [List.map_singleton, List.mem_singleton] at hy
    rw [z, hy] at hx
    exact hin hx
  · refine List.pairwise_append.mpr ⟨B.up, List.pairwise_singleton _ _, fun x hx y hy => ?_⟩
    rw [List.mem_singleton.mp hy]
    exact B.low e he x hx
  · intro k e' i hk hi h
    have hkl : k < es.length := by omega
    rw [left k hkl] at hk
    by_cases z : k = a ∧ i = j
    · obtain ⟨rfl, rfl⟩ := z
      rw [he] at hk
      have ee := Option.some.inj hk
      subst ee
      exact ⟨_, List.mem_append_right _ (List.mem_singleton.mpr rfl), rfl, .inl rfl⟩
    · obtain ⟨f, hf, h1, h2⟩ := B.done k e' i hk hi (lt_or h z)
      exact ⟨f, List.mem_append_left _ hf, h1, h2⟩
  · intro e' he' f hf
    rw [left a ha, he] at he'
    have ee := Option.some.inj he'
    subst ee
    rcases List.mem_append.mp hf with hf | hf
    · exact (B.low e he f hf).trans (Sl.last _ (Nat.lt_succ_self j))
    · rw [List.mem_singleton.mp hf]
      exact Sl.last _ (Nat.lt_succ_self j)
  · intro k e' hk
    by_cases hkl : k < es.length
    · rw [left k hkl] at hk
      exact B.len k e' hk
    · have hke : k = es.length := by
        have := (List.getElem?_eq_some_iff.mp hk).1
        rw [List.length_append, List.length_singleton] at this
        omega
      subst hke
      rw [List.getElem?_append_right (Nat.le_refl _), Nat.sub_self] at hk
      have ee : (nx kn e.1 (l.getD j 0), e.2 ++ [j]) = e' := Option.some.inj hk
      rw [← ee]
      have := B.len a e he
      show (e.2 ++ [j]).length ≤ _
      rw [len1]
      omega
theorem Bf.turn (B : Bf kn l b es a l.length) (ha : a < es.length) : Bf kn l b es (a + 1) 0 where
  head := B.head
  ok := B.ok
  nd := B.nd
  up := B.up
  done := fun k e i hk hi h => B.done k e i hk hi (by
    rcases h with h | ⟨_, h⟩
    · rcases Nat.lt_or_eq_of_le (Nat.le_of_lt_succ h) with z | z
      · exact .inl z
      · exact .inr ⟨z, hi⟩
    · exact absurd h (Nat.not_lt_zero _))
  low := fun e' he' f hf => by
    have he : es[a]? = some es[a] := List.getElem?_eq_getElem ha
    have ha' := (List.getElem?_eq_some_iff.mp he').1
    have e2 := (List.getElem?_eq_some_iff.mp he').2
    have u := List.pairwise_iff_getElem.mp B.up a (a + 1) ha ha' (Nat.lt_succ_self a)
    rw [e2] at u
    exact (B.low _ he f hf).trans (u.snoc _ _)
  len := B.len
/-- every row leaves what some row that is found leaves, and that is no later -/
theorem Bf.all (B : Bf kn l b es a j) (ha : es.length ≤ a) : ∀ (n : Nat) (s : List Nat), s.length = n → Pl l s → ∃ f ∈ es, f.1 = run kn l b s ∧ (f.2 = s ∨ Sl f.2 s) := by
  intro n
  induction n with
  | zero =>
    intro s hs _
    have e0 := List.eq_nil_of_length_eq_zero hs
    subst e0
    exact ⟨(b, []), List.mem_of_getElem? B.head, rfl, .inl rfl⟩
  | succ n ih =>
    intro s hs hp
    rcases List.eq_nil_or_concat s with e | ⟨t, i, e⟩
    · rw [e] at hs
      cases hs
    · subst e
      rw [List.concat_eq_append] at hs hp ⊢
      rw [len1] at hs
      obtain ⟨f, hf, h1, h2⟩ := ih t (by omega) fun x hx => hp x (List.mem_append_left _ hx)
      obtain ⟨k, hk, ek⟩ := List.mem_iff_getElem.mp hf
      have hk' : es[k]? = some f := by rw [List.getElem?_eq_getElem hk, ek]
      have hi : i < l.length := hp i (List.mem_append_right _ (List.mem_singleton.mpr rfl))
      obtain ⟨g, hg, g1, g2⟩ := B.done k f i hk' hi (.inl (by omega))
      refine ⟨g, hg, ?_, ?_⟩
      · rw [run_snoc, ← h1]
        exact g1
      · rcases h2 with h2 | h2
        · rw [← h2]
          exact g2
        · rcases g2 with g2 | g2
          · rw [g2]
            exact .inr (h2.snoc i i)
          · exact .inr (g2.trans (h2.snoc i i))
end
/-- all is found -/
structure Fo (h : House) (es : List (Nat × List Nat)) : Prop where
  ok : ∀ e ∈ es, Pl h.stock e.2 ∧ run h.known h.stock h.stands e.2 = e.1
  nd : (es.map (·.1)).Nodup
  up : es.Pairwise fun e f => Sl e.2 f.2
  all : ∀ s, Pl h.stock s → ∃ f ∈ es, f.1 = run h.known h.stock h.stands s ∧ (f.2 = s ∨ Sl f.2 s)
  len : ∀ e ∈ es, e.2.length ≤ 256
theorem nodup_few : ∀ (n : Nat) (l : List Nat), l.Nodup → (∀ x ∈ l, x < n) → l.length ≤ n
  | 0, [], _, _ => Nat.le_refl 0
  | 0, x :: l, _, h => absurd (h x List.mem_cons_self) (by omega)
  | n + 1, l, hn, h => by
    have ih := nodup_few n (l.filter fun x => x != n) (hn.filter _) fun x hx => by
      obtain ⟨h1, h2⟩ := List.mem_filter.mp hx
      have := h x h1
      have : x ≠ n := bne_iff_ne.mp h2
      omega
    have key : ∀ l : List Nat, l.Nodup → l.length ≤ (l.filter fun x => x != n).length + 1 := by
      intro l
      induction l with
      | nil =>
        intro _
        exact Nat.zero_le _
      | cons x l ih2 =>
        intro hx
        obtain ⟨hx1, hx2⟩ := List.nodup_cons.mp hx
        rw [List.filter_cons]
        by_cases e : x = n
        · rw [if_neg (by simp [e])]
          have : l.filter (fun y => y != n) = l := by
            refine List.filter_eq_self.mpr fun y hy => bne_iff_ne.mpr fun z => ?_
            rw [z, ← e] at hy
            exact hx1 hy
          rw [this, List.length_cons]
          omega
        · rw [if_pos (bne_iff_ne.mpr e), List.length_cons, List.length_cons]
          have := ih2 hx2
          omega
    have := key l hn
    omega
theorem Bf.few {h : House} (F : Fit h) {es : List (Nat × List Nat)} {a j : Nat} (B : Bf h.known h.stock h.stands es a j) : es.length ≤ 256 := by
  have := nodup_few 256 (es.map (·.1)) B.nd fun x hx => by
    obtain ⟨e, he, rfl⟩ := List.mem_map.mp hx
    have h1 := B.ok e he
    have h2 := Rk.full F.st (run_rk (kn := h.known) (b := h.stands) h1.1)
    rw [h1.2] at h2
    have := full_le F.m3
    omega
  rw [List.length_map] at this
  exact this
theorem Bf.fo {h : House} (F : Fit h) {es : List (Nat × List Nat)} {a j : Nat} (B : Bf h.known h.stock h.stands es a j) (ha : es.length ≤ a) : Fo h es where
  ok := B.ok
  nd := B.nd
  up := B.up
  all := fun s hs => B.all ha s.length s rfl hs
  len := fun e he => by
    obtain ⟨k, hk, ek⟩ := List.mem_iff_getElem.mp he
    have h1 := B.len k e (by rw [List.getElem?_eq_getElem hk, ek])
    have h2 := B.few F
    omega
section
variable {h : House} {es : List (Nat × List Nat)}
theorem Fo.re (B : Fo h es) {c : Nat} : c ∈ es.map (·.1) ↔ Re h.known h.stock h.stands c := by
  constructor
  · intro hc
    obtain ⟨e, he, rfl⟩ := List.mem_map.mp hc
    have h1 := B.ok e he
    exact ⟨e.2.length, by rw [← h1.2]; exact run_rk h1.1⟩
  · rintro ⟨k, hk⟩
    obtain ⟨r, _, h2, h3⟩ := rk_run hk
    obtain ⟨f, hf, h4, _⟩ := B.all r h2
    exact List.mem_map.mpr ⟨f, hf, h4.trans h3⟩
theorem Fo.mem_full (F : Fit h) (B : Fo h es) {e : Nat × List Nat} (he : e ∈ es) : e.1 ≤ full h.m := by
  have h1 := B.ok e he
  have h2 := Rk.full F.st (run_rk (kn := h.known) (b := h.stands) h1.1)
  rw [h1.2] at h2
  exact h2
theorem Fo.ne (B : Fo h es) : 0 < es.length := by
  obtain ⟨f, hf, _⟩ := B.all [] fun i hi => absurd hi (by simp)
  exact List.length_pos_of_mem hf
/-- the keys, rising -/
theorem Fo.reach (F : Fit h) (B : Fo h es) {ns : List Nat} (hp : ns.Perm (es.map (·.1))) (hs : ns.Pairwise (· ≤ ·)) : h.reach = ns := by
  refine reach_is F ?_ fun c => ?_
  · have nd : ns.Nodup := hp.nodup_iff.mpr B.nd
    exact (List.pairwise_and_iff.mpr ⟨hs, nd⟩).imp fun {x y} z => by omega
  · rw [hp.mem_iff]
    exact B.re
theorem Fo.reach_len (F : Fit h) (B : Fo h es) : h.reach.length = es.length := by
  have e := B.reach F (ns := (es.map (·.1)).mergeSort) (List.mergeSort_perm _ _) (by
    have := List.pairwise_mergeSort (le := fun (x y : Nat) => decide (x ≤ y)) (fun a b c h1 h2 => decide_eq_true (Nat.le_trans (of_decide_eq_true h1) (of_decide_eq_true h2))) (fun a b => by
      rcases Nat.le_total a b with z | z
      · rw [decide_eq_true z]
        rfl
      · rw [decide_eq_true z, Bool.or_true]) (es.map (·.1))
    exact this.imp fun {x y} z => of_decide_eq_true z)
  rw [e, List.length_mergeSort, List.length_map]
/-- the first by which f is so -/
theorem Fo.pick (F : Fit h) (B : Fo h es) {f : Nat → Bool} {e : Nat × List Nat} (he : e ∈ es) (hf : f e.1 = true) (hn : ∀ g ∈ es, f g.1 = true → g.2 = e.2 ∨ Sl e.2 g.2) :
    h.soonest f h.stands = some e.2.length ∧ h.way f e.2.length h.stands = e.2 := by
  have h1 := B.ok e he
  have key : ∀ s, Pl h.stock s → f (run h.known h.stock h.stands s) = true → s = e.2 ∨ Sl e.2 s := by
    intro s hs hfs
    obtain ⟨g, hg, g1, g2⟩ := B.all s hs
    rcases hn g hg (by rw [g1]; exact hfs) with z | z
    · rcases g2 with g2 | g2
      · exact .inl (by rw [← g2, z])
      · rw [z] at g2
        exact .inr g2
    · rcases g2 with g2 | g2
      · rw [g2] at z
        exact .inr z
      · exact .inr (z.trans g2)
  have S : Soon h.known h.stock f h.stands (some e.2.length) := by
    refine ⟨⟨e.1, by rw [← h1.2]; exact run_rk h1.1, hf⟩, fun j c hj hr => ?_⟩
    cases q : f c with
    | false => rfl
    | true =>
      obtain ⟨s, s1, s2, s3⟩ := rk_run hr
      rcases key s s2 (by rw [s3]; exact q) with z | z
      · rw [z] at s1
        omega
      · rcases z with z | ⟨z, _⟩ <;> omega
  refine ⟨soonest_is F F.st S, ?_⟩
  refine (way_ok F f e.2.length h.stands F.st S).one ⟨rfl, h1.1, by rw [h1.2]; exact hf, fun s hs ps fs => ?_⟩
  rcases key s ps fs with z | z
  · exact .inl z
  · rcases z with z | ⟨_, z⟩
    · omega
    · exact .inr z
theorem Fo.nil (F : Fit h) (B : Fo h es) {f : Nat → Bool} (hn : ∀ g ∈ es, f g.1 = false) : h.soonest f h.stands = none := by
  refine soonest_is F F.st fun j c hr => ?_
  obtain ⟨e, he, rfl⟩ := List.mem_map.mp (B.re.mpr ⟨j, hr⟩)
  exact hn e he
/-- the i-th, if none before -/
theorem Fo.first (F : Fit h) (B : Fo h es) {f : Nat → Bool} {i : Nat} {e : Nat × List Nat} (he : es[i]? = some e) (hf : f e.1 = true) (hn : ∀ j g, j < i → es[j]? = some g → f g.1 = false) :
    h.soonest f h.stands = some e.2.length ∧ h.way f e.2.length h.stands = e.2 := by
  refine B.pick F (List.mem_of_getElem? he) hf fun g hg hfg => ?_
  obtain ⟨j, hj, ej⟩ := List.mem_iff_getElem.mp hg
  have hj' : es[j]? = some g := by rw [List.getElem?_eq_getElem hj, ej]
  obtain ⟨hi, ei⟩ := List.getElem?_eq_some_iff.mp he
  by_cases z : j < i
  · rw [hn j g z hj'] at hfg
    cases hfg
  · by_cases y : j = i
    · subst y
      rw [he] at hj'
      rw [Option.some.inj hj']
      exact .inl rfl
    · have := List.pairwise_iff_getElem.mp B.up i j hi hj (by omega)
      rw [ei, ej] at this
      exact .inr this
theorem nodup_key {x : Nat} : ∀ {es : List (Nat × List Nat)}, (es.map (·.1)).Nodup → ∀ {e g : Nat × List Nat}, e ∈ es → g ∈ es → e.1 = x → g.1 = x → g = e
  | [], _, _, _, he, _, _, _ => absurd he (by simp)
  | y :: r, hn, e, g, he, hg, e1, g1 => by
    have hn' : (y.1 :: r.map (·.1)).Nodup := hn
    obtain ⟨n1, n2⟩ := List.nodup_cons.mp hn'
    rcases List.mem_cons.mp he with e2 | e2 <;> rcases List.mem_cons.mp hg with g2 | g2
    · rw [e2, g2]
    · subst e2
      exact absurd (List.mem_map.mpr ⟨g, g2, g1.trans e1.symm⟩) n1
    · subst g2
      exact absurd (List.mem_map.mpr ⟨e, e2, e1.trans g1.symm⟩) n1
    · exact nodup_key n2 e2 g2 e1 g1
theorem Fo.key (F : Fit h) (B : Fo h es) {e : Nat × List Nat} (he : e ∈ es) : h.soonest (fun b => b == e.1) h.stands = some e.2.length ∧ h.way (fun b => b == e.1) e.2.length h.stands = e.2 := by
  refine B.pick F he (beq_iff_eq.mpr rfl) fun g hg hfg => .inl ?_
  rw [nodup_key B.nd he hg rfl (beq_iff_eq.mp hfg)]
theorem Fo.nokey (F : Fit h) (B : Fo h es) {x : Nat} (hx : ¬ x ∈ es.map (·.1)) : h.soonest (fun b => b == x) h.stands = none := by
  refine B.nil F fun g hg => beq_eq_false_iff_ne.mpr fun z => hx ?_
  exact List.mem_map.mpr ⟨g, hg, z⟩
/-- the least: the first of the fewest worlds, rising -/
theorem least_is (F : Fit h) {i v : Nat} (hv : h.reach[i]? = some v) (hm : ∀ j u, h.reach[j]? = some u → count h.m v ≤ count h.m u ∧ (j < i → count h.m v < count h.m u)) : h.least = some v := by
  obtain ⟨b, h1, h2, h3⟩ := least_ok F
  rw [h1]
  have hvr := (reach_mem F).mp (List.mem_of_getElem? hv)
  obtain ⟨j, hj, ej⟩ := List.mem_iff_getElem.mp ((reach_mem F).mpr h2)
  have hj' : h.reach[j]? = some b := by rw [List.getElem?_eq_getElem hj, ej]
  obtain ⟨hi, ei⟩ := List.getElem?_eq_some_iff.mp hv
  obtain ⟨m1, m2⟩ := hm j b hj'
  by_cases e : b = v
  · rw [e]
  · rcases h3 v hvr with z | ⟨z, y⟩
    · omega
    · by_cases q : j < i
      · have := m2 q
        omega
      · by_cases q2 : j = i
        · subst q2
          rw [hv] at hj'
          exact absurd (Option.some.inj hj').symm e
        · have := List.pairwise_iff_getElem.mp (reach_sorted h) i j hi hj (by omega)
          rw [ei, ej] at this
          omega
/-- a place that changes nothing -/
theorem Fo.idle (F : Fit h) (B : Fo h es) {p : Nat} (hp : p ≤ full h.m) : (h.reach.all fun b => h.next b p == b) = true ↔ ∀ e ∈ es, nx h.known e.1 p = e.1 := by
  rw [List.all_eq_true]
  constructor
  · intro z e he
    have hr := (reach_mem F).mpr (B.re.mp (List.mem_map.mpr ⟨e, he, rfl⟩))
    have := beq_iff_eq.mp (z e.1 hr)
    rw [next_eq (B.mem_full F he) hp] at this
    exact this
  · intro z c hc
    obtain ⟨e, he, rfl⟩ := List.mem_map.mp (B.re.mpr ((reach_mem F).mp hc))
    refine beq_iff_eq.mpr ?_
    rw [next_eq (B.mem_full F he) hp]
    exact z e he
end
/-! ### false, surely -/
theorem truth_why (k t : Nat) : (truth k t == 0) = decide (why k t = 2) := by
  unfold truth why
  by_cases h1 : within k t = true
  · simp [h1]
  · by_cases h2 : both k t = 0
    · simp [h1, h2]
    · simp [h1, h2]
theorem false_all (h : House) : h.false_ = (h.all 1).filter fun t => decide (why h.known t = 2) := by
  unfold House.false_ House.all
  rw [List.filter_filter]
  refine List.filter_congr fun t _ => ?_
  rw [truth_why]
theorem sure_is {f : Nat → Bool} {x : Nat} (hx : x ≤ 2) : ([0, 1, 2].filter f = [x]) ↔ ((if f 0 = true then 1 else 0) + (if f 1 = true then 2 else 0) + (if f 2 = true then 4 else 0) = 2 ^ x) := by
  rw [List.filter_cons, List.filter_cons, List.filter_cons, List.filter_nil]
  match x, hx with
  | 0, _ => cases f 0 <;> cases f 1 <;> cases f 2 <;> decide
  | 1, _ => cases f 0 <;> cases f 1 <;> cases f 2 <;> decide
  | 2, _ => cases f 0 <;> cases f 1 <;> cases f 2 <;> decide
end Mc
end

section
set_option Elab.async false
set_option linter.all false
set_option maxRecDepth 100000
set_option maxHeartbeats 2000000
/-! Own errors over the hand layer: raised in a def, passed on by its callers, caught by a try. -/
namespace L2
open PySem PySem.Spec PyProof.Rows

/-- an error of the class cls lies behind a call that began at s, H; B: what no way out has touched -/
structure Fl (P : Program) (w : World) (outer : List Env) (H : Hp) (s : Shared) (cls : Value) (H' : Hp) (ea : Addr) (B : Heap) (a0 : Value) (s' : Shared) : Prop where
  os : s'.os = s.os
  bare : AllBare s'.gens
  fly : Heap.FlyingW B outer ea cls a0 s'.heap
  old : ∀ b o, s.heap.get? b = some o → b ∉ frs outer → ∃ o', B.get? b = some o' ∧ (H b = none → o' = o)
  trk : ∀ b u, H' b = some u → ∃ o, B.get? b = some o
  un : Un (frs outer) [] H H' s.heap s'.heap
  hok : HOk P w H' s'.heap
/-- how an error of the program's own lies behind a call -/
def CXF (P : Program) (w : World) : CXT := fun outer H s E e s' => ∃ ea cls H' B a0, e = .ref ea ∧ Fl P w outer H s cls H' ea B a0 s' ∧ E cls none H'

theorem objOk_there {P : Program} {w : World} {H : Hp} {h : Heap} {a : Addr} {o : HO} (x : ObjOk P w H h a o) : ∃ ob, h.get? a = some ob := by
  cases o with
  | lst xs =>
    obtain ⟨_, _, _, _, e⟩ := x
    exact ⟨_, e⟩
  | tup xs =>
    obtain ⟨_, _, _, ob, e, _⟩ := x
    exact ⟨_, e⟩
  | dK kvs =>
    obtain ⟨_, _, _, _, ob, _, _, e, _⟩ := x
    exact ⟨_, e⟩
  | dT kvs =>
    obtain ⟨_, _, _, _, ob, _, _, e, _⟩ := x
    exact ⟨_, e⟩
  | set S n =>
    obtain ⟨ob, _, _, _, e, _⟩ := x
    exact ⟨_, e⟩
  | ins C dx fs =>
    obtain ⟨_, _, _, e, _⟩ := x
    exact ⟨_, e⟩
  | own y => exact x
  | xd fs =>
    obtain ⟨_, ⟨_, _, _, e, _⟩, _⟩ := x
    exact ⟨_, e⟩
  | rng lo hi =>
    obtain ⟨_, _, _, e⟩ := x
    exact ⟨_, e⟩
  | frz ob u =>
    obtain ⟨e, _⟩ := x
    exact ⟨_, e⟩
  | tbl ps =>
    have e : h.get? a = some { cls := .none, data := .fields ps } := x
    exact ⟨_, e⟩
  | met f y =>
    have e : h.get? a = some (PySem.W.methodObj (.ref f) (.ref y)) := x
    exact ⟨_, e⟩
  | ext φ =>
    obtain ⟨_, e, _⟩ := x
    exact e

theorem hok_move {P : Program} {w : World} {H : Hp} {h h' B : Heap} (x : HOk P w H h) (k : B.StaysIn h) (k' : B.StaysIn h') (t : ∀ b u, H b = some u → ∃ o, B.get? b = some o) : HOk P w H h' := fun a u e =>
  (x a u e).stay (fun b v hb q => by
    have : ∃ o, B.get? b = some o := by
      rcases hb with hb | hb
      · rw [hb]
        exact t a u e
      · exact t b _ hb
    obtain ⟨o, ho⟩ := this
    have q' := k b o ho
    rw [q] at q'
    cases q'
    exact k' b _ ho) (fun _ q => q) fun _ _ q => q
theorem un_of {outer : List Env} {H H' : Hp} {h h' B : Heap} (st : B.StaysIn h') (fr : h'.FunFrames B outer)
    (old : ∀ b o, h.get? b = some o → b ∉ frs outer → ∃ o', B.get? b = some o' ∧ (H b = none → o' = o))
    (slot : ∀ b o, h.get? b = some o → H b = none → b ∈ frs outer → ∃ sl, h'.get? b = some { o with slots := sl })
    (free : ∀ b o, h.get? b = some o → H b = none → H' b = none)
    (tups : ∀ b xs, H b = some (.tup xs) → H' b = some (.tup xs)) (frzs : ∀ b o u, H b = some (.frz o u) → H' b = some (.frz o u))
    (tbls : ∀ b ps, H b = some (.tbl ps) → ∃ more, H' b = some (.tbl (ps ++ more))) : Un (frs outer) [] H H' h h' where
  keep := fun b o e n hb _ => by
    obtain ⟨o', q, z⟩ := old b o e hb
    rw [z n] at q
    exact st b o q
  slot := fun b o e n hb _ => slot b o e n hb
  free := fun b o e n _ => free b o e n
  there := fun b o e _ => by
    by_cases hb : b ∈ frs outer
    · obtain ⟨_, o', q, _⟩ := fr.mem hb
      exact ⟨o', q⟩
    · obtain ⟨o', q, _⟩ := old b o e hb
      exact ⟨o', st b o' q⟩
  tups := tups
  frzs := frzs
  tbls := tbls

/-- the error's own records and the frames' slots change, nothing else -/
theorem Fl.move {P : Program} {w : World} {outer : List Env} {H H' : Hp} {s s' : Shared} {cls a0 : Value} {ea : Addr} {B h' : Heap} (F : Fl P w outer H s cls H' ea B a0 s')
    (fl : Heap.FlyingW B outer ea cls a0 h') (up : s'.heap.UpToSlots h') : Fl P w outer H s cls H' ea B a0 { s' with heap := h' } where
  os := F.os
  bare := F.bare
  fly := fl
  old := F.old
  trk := F.trk
  un := un_of fl.1 fl.2.2.1 F.old (fun b o e n hb => by
      obtain ⟨sl, q⟩ := F.un.slot b o e n hb (by simp)
      obtain ⟨_, o2, q2, nd⟩ := F.fly.2.2.1.mem hb
      rw [q] at q2
      cases q2
      obtain ⟨sl', q'⟩ := up b _ q nd
      exact ⟨sl', q'⟩)
    (fun b o e n => F.un.free b o e n (by simp)) F.un.tups F.un.frzs F.un.tbls
  hok := hok_move F.hok F.fly.1 fl.1 F.trk

section
variable {P : Program} {w : World} {K : PySem.W.Frag} {mg : Str → Option Value} {base : Heap} {N : List Str} {qual : Str} {scope : Scope} {f : Addr} {cd : Value} {A : Around} {outer : List Env} {s0 : Shared} {H0 : Hp} {E : XK}
/-- an error that was made here leaves the def -/
theorem fly_new {pins : List (Addr × Obj)} {σ : St} {H : Hp} {s : Shared} {h' : Heap} {ea : Addr} {cls : Value} {args : List Value}
    (I : Inv (cxOf (CXF P w) P w K mg base N qual scope f cd A outer s0 H0 E) pins σ H s) (hx : Heap.MadeExcOf s.heap h' ea cls args) (q : E cls none H) :
    (cxOf (CXF P w) P w K mg base N qual scope f cd A outer s0 H0 E).xe (.ref ea) { s with heap := h' } := by
  have hfree := I.stkFree
  have hsub := I.stkSub
  have kB : Heap.StaysIn (PySem.W.hideAll s.heap (frs (cxOf (CXF P w) P w K mg base N qual scope f cd A outer s0 H0 E).stack)) s.heap := fun b o e => PySem.W.of_hideAll _ e
  have ntrk : ∀ b u, H b = some u → b ∉ frs (cxOf (CXF P w) P w K mg base N qual scope f cd A outer s0 H0 E).stack := fun b u e z => by
    rw [hfree b z] at e
    cases e
  have trk : ∀ b u, H b = some u → ∃ o, (PySem.W.hideAll s.heap (frs (cxOf (CXF P w) P w K mg base N qual scope f cd A outer s0 H0 E).stack)).get? b = some o := fun b u e => by
    obtain ⟨ob, ho⟩ := objOk_there (I.hok b u e)
    exact ⟨ob, PySem.W.hideAll_get _ ho (ntrk b u e)⟩
  have nst : ∀ b o, s0.heap.get? b = some o → b ∉ frs outer → b ∉ frs (cxOf (CXF P w) P w K mg base N qual scope f cd A outer s0 H0 E).stack := fun b o e hb z => by
    rcases List.mem_cons.mp (hsub b z) with z | z
    · have h1 := Heap.lt_size e
      have h2 := I.ok.above
      rw [z] at h1
      exact absurd (Nat.lt_of_lt_of_le h1 h2) (Nat.lt_irrefl _)
    · exact hb z
  have old : ∀ b o, s0.heap.get? b = some o → b ∉ frs outer → ∃ o', (PySem.W.hideAll s.heap (frs (cxOf (CXF P w) P w K mg base N qual scope f cd A outer s0 H0 E).stack)).get? b = some o' ∧ (H0 b = none → o' = o) := fun b o e hb => by
    obtain ⟨o', e1⟩ := I.base.there b o e (by intro z; cases z)
    refine ⟨o', PySem.W.hideAll_get _ e1 (nst b o e hb), fun n => ?_⟩
    have e2 := I.base.keep b o e n hb (by intro z; cases z)
    rw [e1] at e2
    exact Option.some.inj e2
  refine wpAny_leaves_madeW (base := PySem.W.hideAll s.heap (frs (cxOf (CXF P w) P w K mg base N qual scope f cd A outer s0 H0 E).stack)) (h := s.heap) I.ok.frames rfl kB
    (PySem.W.funFrames_hide I.stack fun env he a hf => List.mem_filterMap.mpr ⟨env, he, hf⟩) hx fun h2 t fl tp bt up => ?_
  refine ⟨ea, cls, H, _, .ref t, rfl, ⟨I.os, I.bare, fl, old, trk, ?_, hok_move I.hok kB fl.1 trk⟩, q⟩
  refine un_of fl.1 fl.2.2.1 old (fun b o e n hb => ?_) (fun b o e n => I.base.free b o e n (by intro z; cases z)) I.base.tups I.base.frzs I.base.tbls
  obtain ⟨sl, q1⟩ := I.base.slot b o e n hb (by intro z; cases z)
  obtain ⟨_, o2, q2, nd⟩ := I.funs.mem hb
  rw [q1] at q2
  cases q2
  obtain ⟨sl', q'⟩ := up b _ (hx.keeps b _ q1) nd
  exact ⟨sl', q'⟩
/-- an error of a callee goes on to the caller's callers -/
theorem pass_on : Passes (CXF P w) (cxOf (CXF P w) P w K mg base N qual scope f cd A outer s0 H0 E) E := by
  rintro pins σ H s e s' I ⟨ea, cls, H', B, a0, rfl, F, q⟩
  have hsub := I.stkSub
  have nst : ∀ b o, s0.heap.get? b = some o → b ∉ frs outer → b ∉ frs (cxOf (CXF P w) P w K mg base N qual scope f cd A outer s0 H0 E).stack := fun b o e hb z => by
    rcases List.mem_cons.mp (hsub b z) with z | z
    · have h1 := Heap.lt_size e
      have h2 := I.ok.above
      rw [z] at h1
      exact absurd (Nat.lt_of_lt_of_le h1 h2) (Nat.lt_irrefl _)
    · exact hb z
  have old : ∀ b o, s0.heap.get? b = some o → b ∉ frs outer → ∃ o', B.get? b = some o' ∧ (H0 b = none → o' = o) := fun b o e hb => by
    obtain ⟨o1, e1⟩ := I.base.there b o e (by intro z; cases z)
    obtain ⟨o', e2, z⟩ := F.old b o1 e1 (nst b o e hb)
    refine ⟨o', e2, fun n => ?_⟩
    have e3 := I.base.keep b o e n hb (by intro z; cases z)
    rw [e1] at e3
    rw [z (I.base.free b o e n (by intro z; cases z))]
    exact Option.some.inj e3
  refine wpAny_leaves_onW (base := B) I.ok.frames rfl F.fly fun h2 fl up => ?_
  refine ⟨ea, cls, H', B, a0, rfl, ⟨F.os.trans I.os, F.bare, fl, old, F.trk, ?_, hok_move F.hok F.fly.1 fl.1 F.trk⟩, q⟩
  refine un_of fl.1 fl.2.2.1 old (fun b o e n hb => ?_) (fun b o e n => ?_) (fun b xs e => F.un.tups b xs (I.base.tups b xs e)) (fun b o u e => F.un.frzs b o u (I.base.frzs b o u e)) (fun b ps e => ?_)
  · obtain ⟨sl, q1⟩ := I.base.slot b o e n hb (by intro z; cases z)
    have hb' : b ∈ frs (cxOf (CXF P w) P w K mg base N qual scope f cd A outer s0 H0 E).stack := List.mem_cons_of_mem _ hb
    obtain ⟨sl1, q2⟩ := F.un.slot b _ q1 (I.base.free b o e n (by intro z; cases z)) hb' (by simp)
    obtain ⟨_, o3, q3, nd⟩ := F.fly.2.2.1.mem hb'
    rw [q2] at q3
    cases q3
    obtain ⟨sl', q'⟩ := up b _ q2 nd
    exact ⟨sl', q'⟩
  · obtain ⟨o1, e1⟩ := I.base.there b o e (by intro z; cases z)
    exact F.un.free b o1 e1 (I.base.free b o e n (by intro z; cases z)) (by simp)
  · obtain ⟨m1, e1⟩ := I.base.tbls b ps e
    obtain ⟨m2, e2⟩ := F.un.tbls b _ e1
    exact ⟨m1 ++ m2, by rw [e2, Array.append_assoc]⟩
end

/-! ### raise C() -/
/-- the class at C is an own error class straight under Exception -/
def ownErr (K : PySem.W.Frag) (C : Addr) : Prop := ∃ (dd : Option Addr) (nm : Str) (bs bm : List Value) (ns : Addr) (qn : Str) (hd : Bool) (sn : List Str) (sub : List Value) (ab : Bool) (col : Option Bool) (k0 k1 k2 k3 k5 : Option Value),
  K.lookup C = some ⟨.type "type", dd, .cls ⟨nm, bs, .ref C :: bm, ns, qn, hd, sn, sub, ab, col, false⟩, #[k0, k1, k2, k3, some (.builtin "Exception.__new__"), k5]⟩ ∧
  PySem.W.tailIn K [.type "Exception", .type "BaseException", .type "object"] bm = true ∧ PySem.W.nsOkIn K ns = true ∧ PySem.W.nsIn K ns "__init__" = some none
theorem own_err {K : PySem.W.Frag} {h : Heap} {C : Addr} (X : K.In h) (q : ownErr K C) :
    ∃ nm qn N bs bm hd sn sub ab col dd k0 k1 k2 k3 k5 mN, h.get? C = some (excClassObj nm qn C N bs bm hd sn sub ab col dd k0 k1 k2 k3 k5 "Exception.__new__") ∧ h.Ns N mN ∧ mN "__init__" = none ∧
      OwnTail h [.type "Exception", .type "BaseException", .type "object"] bm := by
  obtain ⟨dd, nm, bs, bm, ns, qn, hd, sn, sub, ab, col, k0, k1, k2, k3, k5, ho, z4, z5, z6⟩ := q
  exact ⟨nm, qn, ns, bs, bm, hd, sn, sub, ab, col, dd, k0, k1, k2, k3, k5, _, X _ _ ho, .of_isNs (PySem.W.isNs_of_in X z5), PySem.W.nsMap_none_of_in X z5 z6, PySem.W.tail_of_in X z4⟩

/-- what a raised error asks of the context -/
def Raises (X : Cx) (E : XK) : Prop := ∀ (pins : List (Addr × Obj)) (σ : St) (H : Hp) (s : Shared) (h' : Heap) (ea : Addr) (cls : Value), Inv X pins σ H s → Heap.MadeExcOf s.heap h' ea cls [] → E cls none H → X.xe (.ref ea) { s with heap := h' }
theorem raises_cx {P : Program} {w : World} {K : PySem.W.Frag} {mg : Str → Option Value} {base : Heap} {N : List Str} {qual : Str} {scope : Scope} {f : Addr} {cd : Value} {A : Around} {outer : List Env} {s0 : Shared} {H0 : Hp} {E : XK} :
    Raises (cxOf (CXF P w) P w K mg base N qual scope f cd A outer s0 H0 E) E := fun _ _ _ _ _ _ _ I hx q => fly_new I hx q
def tRaise (E : XK) (C : Addr) : TS := fun _ _ H => E (.ref C) none H
theorem ps_raise {X : Cx} {E : XK} {C : Addr} {x : Str} {np cpos pos : Pos} (hc : X.calm = true) (R : Raises X E) (hg : Gl X x) (hm : X.mg x = some (.ref C)) (q : ownErr X.K C) (hd : (x == ("__debug__" : Str)) = false := by decide) :
    PS X (.Raise (some (.Call (.Name x np) [] [] cpos)) none pos) (tRaise E C) := by
  intro pins s σ H D I h
  obtain ⟨nm, qn, N, bs, bm, hdd, sn, sub, ab, col, dd, k0, k1, k2, k3, k5, mN, hC, hN, hni, T⟩ := own_err I.kIn q
  refine wpAny_Raise_call_subT (C := C) (nm := nm) (q := qn) (N := N) (bs := bs) (bm := bm) (hdct := hdd) (sn := sn) (sub := sub) (ab := ab) (col := col) (dd := dd) (k0 := k0) (k1 := k1) (k2 := k2) (k3 := k3) (k5 := k5)
    PySem.F.excBase_Exception (mN := mN) (T.hasType PySem.F.excBase_Exception.hasBase) (I.ok.hd hc) rfl hni (ld_glob I hg hm ⟨rfl, ?_⟩ hd)
  exact evalArgs_empty ⟨rfl, Nat.zero_le _, hC, hN, T, fun h' e hx => R pins σ H s h' e _ I hx h⟩

/-! ### try -/
abbrev Cx.tr (X : Cx) (pn : List (Addr × Obj)) (E : Value → Shared → Prop) : Cx := { X with pn := pn, xe := E }
/-- the context of an except suite -/
abbrev Cx.su (X : Cx) (ea : Addr) : Cx := { X with A := X.A.mark (some (.ref ea)), calm := false, xe := fun _ _ => False }
section
variable {X : Cx} {pins : List (Addr × Obj)} {σ : St} {H : Hp} {s : Shared}
theorem Cx.Ok.tr (ok : X.Ok) (pn : List (Addr × Obj)) (E : Value → Shared → Prop) : (X.tr pn E).Ok :=
  ⟨ok.mod, ok.kind, ok.glob, ok.blt, ok.above, ok.inj, ok.has, ok.cab, ok.hd, ok.frames, ok.stk, ok.exf, ok.bs, ok.bsz, ok.noex, ok.exfs, ok.funs, ok.frf⟩
theorem Cx.Ok.untr {pn : List (Addr × Obj)} {E : Value → Shared → Prop} (ok : (X.tr pn E).Ok) : X.Ok :=
  ⟨ok.mod, ok.kind, ok.glob, ok.blt, ok.above, ok.inj, ok.has, ok.cab, ok.hd, ok.frames, ok.stk, ok.exf, ok.bs, ok.bsz, ok.noex, ok.exfs, ok.funs, ok.frf⟩
theorem Inv.tr (I : Inv X pins σ H s) (E : Value → Shared → Prop) : Inv (X.tr (X.pn ++ pins) E) [] σ H s :=
  ⟨I.ok.tr _ E, I.os, I.bare, I.base, I.loc, I.cell, I.free, I.freeC, fun p hp => I.pin p (by simpa using hp), I.hok, I.len⟩
theorem Inv.untr {E : Value → Shared → Prop} {more : List (Addr × Obj)} (I : Inv (X.tr (X.pn ++ pins) E) more σ H s) : Inv X pins σ H s :=
  ⟨I.ok.untr, I.os, I.bare, I.base, I.loc, I.cell, I.free, I.freeC, fun p hp => I.pin p (List.mem_append_left _ hp), I.hok, I.len⟩
theorem Inv.su (I : Inv X pins σ H s) (ea : Addr) : Inv (X.su ea) pins σ H s :=
  ⟨⟨I.ok.mod, I.ok.kind, I.ok.glob, I.ok.blt, I.ok.above, I.ok.inj, I.ok.has, I.ok.cab, (fun z => by cases z), I.ok.frames, I.ok.stk, I.ok.exf, I.ok.bs, I.ok.bsz, I.ok.noex, I.ok.exfs, I.ok.funs, I.ok.frf⟩,
    I.os, I.bare, I.base, I.loc, I.cell, I.free, I.freeC, I.pin, I.hok, I.len⟩
theorem Inv.unsu {ea : Addr} {calm : Bool} (ok : X.Ok) (I : Inv (X.su ea) pins σ H s) : Inv X pins σ H s :=
  ⟨ok, I.os, I.bare, I.base, I.loc, I.cell, I.free, I.freeC, I.pin, I.hok, I.len⟩
theorem SP.untr {D : Ends} {fl : Flow} {E : Value → Shared → Prop} (h : SP (X.tr (X.pn ++ pins) E) [] D fl s) : SP X pins D fl s := by
  cases fl with
  | next =>
    obtain ⟨σ', H', I, q⟩ := h
    exact ⟨σ', H', I.untr, q⟩
  | brk =>
    obtain ⟨σ', H', I, q⟩ := h
    exact ⟨σ', H', I.untr, q⟩
  | cont =>
    obtain ⟨σ', H', I, q⟩ := h
    exact ⟨σ', H', I.untr, q⟩
  | ret u =>
    obtain ⟨v, σ', H', I, r, q⟩ := h
    exact ⟨v, σ', H', I.untr, r, q⟩
theorem SP.unsu {D : Ends} {fl : Flow} {ea : Addr} (ok : X.Ok) (h : SP (X.su ea) pins D fl s) : SP X pins D fl s := by
  cases fl with
  | next =>
    obtain ⟨σ', H', I, q⟩ := h
    exact ⟨σ', H', I.unsu (calm := true) ok, q⟩
  | brk =>
    obtain ⟨σ', H', I, q⟩ := h
    exact ⟨σ', H', I.unsu (calm := true) ok, q⟩
  | cont =>
    obtain ⟨σ', H', I, q⟩ := h
    exact ⟨σ', H', I.unsu (calm := true) ok, q⟩
  | ret u =>
    obtain ⟨v, σ', H', I, r, q⟩ := h
    exact ⟨v, σ', H', I.unsu (calm := true) ok, r, q⟩
/-- the state where an error has landed -/
theorem Fl.inv {Hc : Hp} {sc : Shared} {cls a0 : Value} {ea : Addr} {B : Heap} (I : Inv X pins σ Hc sc) (F : Fl X.prog X.w X.stack Hc sc cls H ea B a0 s) : Inv X pins σ H s :=
  I.call' F.os F.un F.hok F.bare fun _ z => nomatch z
end
/-- the handlers of a try, for an error of the class cls -/
def PH (X : Cx) (cls : Value) (hs : List ExceptHandler) (t : TS) : Prop :=
  ∀ (pins : List (Addr × Obj)) (σ : St) (Hc : Hp) (sc : Shared) (H : Hp) (ea : Addr) (B : Heap) (a0 : Value) (s : Shared) (D : Ends), Inv X pins σ Hc sc → Fl X.prog X.w X.stack Hc sc cls H ea B a0 s → t D σ H →
    wpAny (model X.prog X.w) X.A (handleBy (.ref ea) X.env hs) (SP X pins D) X.xe s
theorem looks_cls {M : Model} {B h : Heap} {l : List Env} {ea : Addr} {cls a0 : Value} (f : Heap.FlyingW B l ea cls a0 h) : PySem.W.Looks M h (typeOf (.ref ea)) cls := by
  obtain ⟨ob, ho, hc⟩ := f.there
  subst hc
  exact (PySem.W.Looks.ld ho).andThen .now
section
variable {X : Cx} {cls c : Value} {x : Str} {np hpos : Pos} {rest : List ExceptHandler} {t : TS}
theorem ph_miss {nm : Option Str} {body : List Stmt} (hg : Gl X x) (hm : X.mg x = some c) (he : PySem.W.exmOne X.K cls c = some false) (h : PH X cls rest t) (hd : (x == ("__debug__" : Str)) = false := by decide) :
    PH X cls (.ExceptHandler (some (.Name x np)) nm body hpos :: rest) t := by
  intro pins σ Hc sc H ea B a0 s D I F q
  have J := F.inv I
  refine wpAny_handleBy_cons (codeAny_handlers_test ?_) (by intro z; cases z)
  refine ld_glob (X := X.su ea) (J.su ea) hg hm ?_ hd
  exact (PySem.W.exm_one J.kIn (looks_cls F.fly) he).here (h pins σ Hc sc H ea B a0 s D I F q)
theorem ph_hit {b0 : Stmt} {suite : List Stmt} (hg : Gl X x) (hm : X.mg x = some c) (he : PySem.W.exmOne X.K cls c = some true) (h : ∀ ea, PSs (X.su ea) (b0 :: suite) t) (hd : (x == ("__debug__" : Str)) = false := by decide) :
    PH X cls (.ExceptHandler (some (.Name x np)) none (b0 :: suite) hpos :: rest) t := by
  intro pins σ Hc sc H ea B a0 s D I F q
  have J := F.inv I
  refine wpAny_handleBy_cons (codeAny_handlers_test ?_) (by intro z; cases z)
  refine ld_glob (X := X.su ea) (J.su ea) hg hm ?_ hd
  refine (PySem.W.exm_one J.kIn (looks_cls F.fly) he).here ?_
  refine codeAny_handlers_suite (lands_againW F.fly fun h2 fl up => ?_)
  have J2 := (F.move fl up).inv I
  exact wpAny_mono (h ea pins _ σ H D (J2.su ea) q) (fun fw s2 z => z.unsu J2.ok) fun _ _ z => z.elim
end
/-- the reading of a try: EX what is said of an error's class and the heap behind it -/
def tTry (tb : XK → TS) (th : Value → TS) : TS := fun D σ H => ∃ EX : XK, tb EX D σ H ∧ ∀ cls σ' H', σ'.length = σ.length → EX cls none H' → th cls D σ' H'
theorem ps_try {X : Cx} {body : List Stmt} {h0 : ExceptHandler} {hs : List ExceptHandler} {pos : Pos} {tb : XK → TS} {th : Value → TS} (hst : X.stack = X.env :: X.outer)
    (hb : ∀ (pn : List (Addr × Obj)) (E' : Value → Shared → Prop) (EX : XK), Passes (CXF X.prog X.w) (X.tr pn E') EX → PSs (X.tr pn E') body (tb EX))
    (hh : ∀ cls, PH X cls (h0 :: hs) (th cls)) : PS X (.Try body (h0 :: hs) [] [] pos) (tTry tb th) := by
  intro pins s σ H D I ⟨EX, q1, q2⟩
  refine wpAny_Try_except ?_
  have fr : X.env.frame = some X.env.locals := by
    rcases I.ok.stk with e | ⟨_, e⟩
    · rw [hst] at e
      exact absurd (congrArg List.length e) (by simp)
    · exact e
  refine wpAny_mono (hb (X.pn ++ pins) (fun e s1 => ∃ σc Hc sc ea cls H' B a0, e = Value.ref ea ∧ Inv X pins σc Hc sc ∧ Fl X.prog X.w X.stack Hc sc cls H' ea B a0 s1 ∧ EX cls none H') EX ?_ [] s σ H D (I.tr _) q1) (fun fl s1 z => ?_) fun e s1 z => ?_
  · rintro pins' σc Hc sc e s1 Ic ⟨ea, cls, H', B, a0, rfl, F, z⟩
    exact ⟨σc, Hc, sc, ea, cls, H', B, a0, rfl, Ic.untr, F, z⟩
  · have z' := SP.untr z
    cases fl with
    | next => exact wpAny_execs_nil z'
    | brk => exact z'
    | cont => exact z'
    | ret u => exact z'
  · obtain ⟨σc, Hc, sc, ea, cls, H', B, a0, rfl, Ic, F, z⟩ := z
    have F' := F
    rw [hst] at F'
    refine wpAny_looks_onW (base := B) (by rw [I.ok.frames, hst]) fr F'.fly fun h1 held up1 => ?_
    refine wpAny_landsW held fun h2 fl up2 => ?_
    have F2 := F'.move fl (up1.trans up2)
    rw [← hst] at F2
    exact hh cls pins σc Hc sc H' ea B a0 _ D Ic F2 (q2 cls σc H' (by rw [Ic.len, I.len]) z)

/-! ### THE RULE for a def whose errors are told -/
theorem Fun.okX {P : Program} {w : World} {K : PySem.W.Frag} {mg : Str → Option Value} {base : Heap} {x qual : Str} {st : Stmt} {f : Addr} {fd : FuncData} {N ps : List Str} {k : Nat} {sp : Sp} (F : Fun K x qual st f fd) (S : FnScope N ps (defScope st))
    (len : ∀ vs H Q E, sp vs H Q E → vs.length = ps.length)
    (hbody : ∀ (cdv : Value) (A : Around) (outer : List Env) (s : Shared) (H : Hp) (vs : List V) (Q : VK) (E : XK), Room k (A.deeper (envOfC qual (defScope st) s.heap.objs.size f cdv)) → sp vs H Q E →
      ∃ t, PSs (cxOf (CXF P w) P w K mg base N qual (defScope st) f cdv A outer s H E) (defBody st) t ∧ t { nx := fun _ H' => Q .non H', rt := Q } (start N vs) H) : FnOk P w K mg base (CXF P w) (k + 1) f fd ps sp := by
  obtain ⟨oc, od, kV, doc, pm, an, cdv, ct, osl, rfl, lk, hcd⟩ := F.ex
  exact fn_of lk hcd S len fun A outer s H vs Q E hr hsp => hbody cdv A outer s H vs Q E hr hsp
/-- a for in such a def: an error may pass it -/
theorem passes_cx {P : Program} {w : World} {K : PySem.W.Frag} {mg : Str → Option Value} {base : Heap} {N : List Str} {qual : Str} {scope : Scope} {f : Addr} {cd : Value} {A : Around} {outer : List Env} {s0 : Shared} {H0 : Hp} {E : XK} {CX : CXT} :
    PassesOwn (model P w) (cxOf CX P w K mg base N qual scope f cd A outer s0 H0 E).A (cxOf CX P w K mg base N qual scope f cd A outer s0 H0 E).env (cxOf CX P w K mg base N qual scope f cd A outer s0 H0 E).xe := PassesOwn.leaving

/-! ### a call of what a place of a tuple holds: t[i](e, ..) -/
theorem arm_callSub (a b : Expr) (p : Pos) (args : List Expr) (keywords : List Keyword) (pos : Pos) (env : Env) : eval (.Call (.Subscript a b p) args keywords pos) env = (do
    callWith pos (← eval (.Subscript a b p) env) [] (backTo pos (starEach args env)) (backToKw pos (keywordEach keywords env))) := rfl
/-- what may be called: a def of the text with its promise -/
structure Cal (X : Cx) (CX : CXT) (k : Nat) (f : Addr) (sp : Sp) : Prop where
  ok : ∃ fd ps, FnOk X.prog X.w X.K X.mg X.base CX k f fd ps sp ∧ Binds X.K fd ps []
  kp : PySem.W.keepIn X.K (.ref f) = true
def tCallV (X : Cx) (CX : CXT) (k : Nat) (E : XK) (tf : TE) (t : TA) : TE := fun σ H Q => tf σ H fun x H1 => ∃ f sp, x = .ref f ∧ Cal X CX k f sp ∧ t σ H1 fun vs H2 => sp vs H2 Q E
theorem pe_callV {X : Cx} {CX : CXT} {k : Nat} {E : XK} {a b e : Expr} {es : List Expr} {p pos : Pos} {tf : TE} {t : TA} (hr : Room k X.A) (hx : Passes CX X E) (hf : PE X (.Subscript a b p) tf) (ha : PA X (e :: es) t)
    (he : starEach (e :: es) X.env = (false, eval e X.env) :: starEach es X.env := by rfl) (hpl : (backTo pos (starEach es X.env)).any (·.1) = false := by rfl) :
    PE X (.Call (.Subscript a b p) (e :: es) [] pos) (tCallV X CX k E tf t) := by
  intro pins s σ H Q I h
  rw [arm_callSub]
  refine wpAny_bind (thn (hf pins s σ H _ I h) fun u s1 z => ?_)
  obtain ⟨v, H1, I1, r, f, sp, rfl, C, q⟩ := z
  obtain rfl : u = Value.ref f := r
  obtain ⟨fd, ps, F, hb⟩ := C.ok
  refine PySem.W.callWith_K (h₀ := X.base) I.ok.mod.kin C.kp (thn (ha pos pins s1 σ H1 _ I1 q) fun us s2 z => ?_) he hpl
  obtain ⟨vs, H2, I2, rv, q2⟩ := z
  exact ⟨I2.kIn, run_fn (dvs := []) F hr hb .nil hx I2 rv (by rw [List.append_nil]; exact q2)⟩
end L2
end

section
set_option Elab.async false
set_option linter.all false
set_option maxRecDepth 100000
set_option maxHeartbeats 4000000
/-! Rules that the layer lacks: a walk over a dict's keys, sorted of a dict, min with an own def as its key. -/
namespace L2
open PySem PySem.Spec PyProof.Rows
/-- over the keys of a locked dict -/
theorem for_keys {d : Addr} {o : Obj} {kvs : List (Key × V)} {g : TG} {tb : TS} {D : Ends} {σ : St} {H : Hp} (Pv : Nat → St → Hp → Prop) (h0 : Pv 0 σ H) (hl : ∀ i σ H, i ≤ kvs.length → Pv i σ H → H d = some (.frz o (.dK kvs)))
    (hs : ∀ i k v σ H, kvs[i]? = some (k, v) → Pv i σ H → g (kV k) σ H fun σ2 H2 => tb { D with nx := Pv (i + 1), ct := Pv (i + 1), bk := D.nx } σ2 H2) (hd : ∀ σ H, Pv kvs.length σ H → D.nx σ H) :
    ∃ W : Nat → Nat → St → Hp → Prop, (∃ m, W 0 m σ H) ∧ ∀ i m σ H, W i m σ H →
      ((Itk d o kvs).stop i H ∧ D.nx σ H) ∨ ((Itk d o kvs).go i H ∧ ∃ N : St → Hp → Prop, (∀ σ' H', N σ' H' → ∃ m', m' < m ∧ W (i + 1) m' σ' H') ∧ ∀ x H', (Itk d o kvs).yld i H x H' → g x σ H' fun σ2 H2 => tb { D with nx := N, ct := N, bk := D.nx } σ2 H2) := by
  refine ⟨fun i m σ H => m = kvs.length - i ∧ i ≤ kvs.length ∧ Pv i σ H, ⟨kvs.length, by simp, Nat.zero_le _, h0⟩, ?_⟩
  rintro i m σ H ⟨rfl, hi, p⟩
  have q := hl i σ H hi p
  by_cases hlt : i < kvs.length
  · refine .inr ⟨⟨q, hlt⟩, Pv (i + 1), fun σ' H' p' => ⟨kvs.length - (i + 1), Nat.sub_lt_sub_left hlt (Nat.lt_succ_self i), rfl, hlt, p'⟩, fun x H' y => ?_⟩
    obtain ⟨e, k, v, hk, rfl⟩ := y
    subst e
    exact hs i k v σ _ hk p
  · have e : i = kvs.length := by omega
    subst e
    exact .inl ⟨⟨q, Nat.le_refl _⟩, hd σ H p⟩

/-! ### sorted of a dict -/
theorem ints_of : ∀ {l : List Value} {ns : List Int}, l.length = ns.length → (∀ (i : Nat) (v : Value), l[i]? = some v → ∃ (t : Tok) (n : Int), ns[i]? = some n ∧ v = Value.int n t) → IntsAre l ns
  | [], [], _, _ => .nil
  | v :: l, [], h, _ => by cases h
  | [], n :: ns, h, _ => by cases h
  | v :: l, n :: ns, h, q => by
    obtain ⟨t, n', e, rfl⟩ := q 0 v rfl
    have e' : n = n' := Option.some.inj e
    subst e'
    exact .cons _ _ (ints_of (Nat.succ.inj h) fun i v hv => q (i + 1) v hv)
theorem ints_keys {P : Program} {w : World} {kvs : List (Key × V)} {vs : List (Key × Value)} {ns : List Int} (rel : KV kvs vs) (hk : kvs.map (·.1) = ns.map Sum.inl) {acc : Array Value}
    (h : ItemsOf (fun i v => ∃ k x, vs[i]? = some (k, x) ∧ (mixKind P w).is k v = true) acc vs.length) : IntsAre acc.toList ns := by
  have e := rel.keys
  rw [hk] at e
  refine ints_of ?_ fun i v hv => ?_
  · rw [Array.length_toList, h.1]
    have := congrArg List.length e
    rw [List.length_map, List.length_map] at this
    exact this.symm
  · obtain ⟨k, x, h1, h2⟩ := h.2 i v (by rw [← Array.getElem?_toList]; exact hv)
    have e2 := congrArg (fun l => l[i]?) e
    rw [List.getElem?_map, List.getElem?_map, h1] at e2
    cases q : ns[i]? with
    | none =>
      rw [q] at e2
      cases e2
    | some n =>
      rw [q] at e2
      have e3 : (Sum.inl n : Key) = k := Option.some.inj e2
      subst e3
      rcases keyIs_shape (show keyIs (.inl n) v = true from h2) with ⟨z, t, e4, e5⟩ | ⟨z, t, e4, _⟩
      · cases e4
        exact ⟨t, n, rfl, e5⟩
      · cases e4
section
variable {X : Cx}
def rSortedD : List V → Hp → VK → Prop := fun xs H Q => ∃ (d : Addr) (kvs : List (Key × V)) (ns : List Int), xs = [.ref d] ∧ H d = some (.dK kvs) ∧ kvs.map (·.1) = ns.map Sum.inl ∧
  ∀ (ns' : List Int) (p : Addr), ns'.Perm ns → ns'.Pairwise (· ≤ ·) → H p = none → Q (.ref p) (upd H p (.lst (ns'.map V.int)))
/-- a dict's keys gathered into a new list: all that stood stays, and the heap has grown -/
theorem keys_gathered {A : Around} {E : Value → Shared → Prop} {s : Shared} {d : Addr} {vs : List (Key × Value)} {ep : Nat} {R : List Value → Shared → Prop} (lo : (d == sysModules) = false) (hh : A.handled = none) (hat : s.heap.DictAt (mixKind X.prog X.w) d vs ep) (hn : vs.length ≤ sizeLine)
    (go : ∀ (h' : Heap) (tk : Nat) (acc : Array Value), s.heap.objs.size ≤ h'.objs.size → (∀ b o, s.heap.get? b = some o → h'.get? b = some o) → ItemsOf (fun i v => ∃ k x, vs[i]? = some (k, x) ∧ (mixKind X.prog X.w).is k v = true) acc vs.length → R acc.toList { s with heap := h', toks := tk }) :
    wpAny (model X.prog X.w) A (collect (.ref d)) R E s := by
  have src := PySem.W.kdl_dict (prog := X.prog) (w := X.w) (knd := mixKind X.prog X.w) (kvs := vs) (ep := ep) lo
  have dlt : s.heap.objs.size ≠ d := Nat.ne_of_gt (src.there s.heap hat).1
  unfold collect
  refine wpAny_bind (wpAny_runValue (codeAny_builtin entry_proto_collect' ?_))
  rw [Around.under_plainId PySem.F.plain_proto_collect _]
  refine (show wpAny _ A.in1 (newList [] >>= fun l => again (.builtin "list.__iadd__" ⟨[l, .ref d], []⟩)) _ _ s from wpAny_bind (wpAny_newObj_type (wpAny_pure ⟨plainId_quiet PySem.F.plain_list_iadd _, codeAny_builtin entry_list_iadd' ?_⟩)))
  rw [Around.under_plainId PySem.F.plain_list_iadd _]
  have got : (s.heap.push { cls := .type "list", data := .seq ([] : List Value).toArray }).get? s.heap.objs.size = some { cls := .type "list", data := .seq #[] } := Heap.get?_push_size _ rfl
  have key := PySem.W.kdl_extend (A := A) (s := { s with heap := s.heap.push { cls := .type "list", data := .seq ([] : List Value).toArray } })
    (R := fun (q : Result) (s' : Shared) => ∃ (h' : Heap) (tk : Nat) (acc : Array Value) (c : Nat), (q = .ok (.ret (.ref s.heap.objs.size)) ∧ s' = { s with heap := h', toks := tk }) ∧ h'.get? s.heap.objs.size = some { cls := .type "list", dict := none, data := .seq acc c, slots := #[] } ∧
      (∀ b o, s.heap.get? b = some o → h'.get? b = some o) ∧ ItemsOf (fun i v => ∃ k x, vs[i]? = some (k, x) ∧ (mixKind X.prog X.w).is k v = true) acc vs.length)
    src hh (src.keep _ _ hat fun b _ o e => Heap.get?_push_of_some _ e) s.heap.objs.size dlt dlt (.ref s.heap.objs.size) 0 got
    (fun h' tk acc c keep at_ items => ⟨h', tk, acc, c, ⟨rfl, rfl⟩, at_, fun b o e => keep b o (Nat.ne_of_lt (Heap.lt_size e)) (Heap.get?_push_of_some _ e), items⟩) hn
  have last : ∀ {h' : Heap} {tk : Nat} {acc : Array Value} {c : Nat}, h'.get? s.heap.objs.size = some { cls := .type "list", dict := none, data := .seq acc c, slots := #[] } → (∀ b o, s.heap.get? b = some o → h'.get? b = some o) →
      ItemsOf (fun i v => ∃ k x, vs[i]? = some (k, x) ∧ (mixKind X.prog X.w).is k v = true) acc vs.length →
      wpAny (model X.prog X.w) A (load s.heap.objs.size >>= fun o => match o.data with
        | .seq xs _ => pure xs.toList
        | _ => unsupported "internal:collect") R E { s with heap := h', toks := tk } := fun at_ keep items =>
    wpAny_bind (wpAny_load at_ (wpAny_pure (go _ _ _ (Nat.le_of_lt (Heap.lt_size at_)) keep items)))
  refine wpAny_mono key (fun fin s' z => ?_) fun e s' z => ?_
  · cases fin with
    | done fl =>
      obtain ⟨h', tk, acc, c, ⟨e, rfl⟩, at_, keep, items⟩ := z
      cases e
      exact last at_ keep items
    | again c₁ =>
      refine ⟨z.1, codeAny_mono z.2 fun q s₂ y => ?_⟩
      obtain ⟨h', tk, acc, c, ⟨rfl, rfl⟩, at_, keep, items⟩ := y
      exact last at_ keep items
  · obtain ⟨_, _, _, _, ⟨e', _⟩, _⟩ := z
    cases e'
theorem cr_sortedD (hc : X.calm = true) : CallR X (.builtin "sorted") rSortedD := by
  intro pins s σ H xs us Q I r h
  obtain ⟨d, kvs, ns, rfl, hd, hk, q⟩ := h
  rw [Vals.ref1 r]
  obtain ⟨hz, lo, vs, rel, dd⟩ := dk_of I.hok hd
  obtain ⟨ep, hat⟩ := dd.dictAt
  have hlv : kvs.length = vs.length := Paired.length rel
  refine Calls.call_function_entry kind_sorted plain_sorted entry_sorted (args_sorted1 _) ?_
  unfold Builtin.«sorted»
  refine wpAny_bind (m := checkCount "sorted" 1 1 _) (wpAny_pure (wpAny_bind (keys_gathered (A := X.A.in1) lo (I.ok.hd hc) hat (by rw [← hlv]; exact hz) fun h' tk acc hsz keep items => ?_)))
  have hI : IntsAre acc.toList ns := ints_keys rel hk items
  have hL : acc.toList.length ≤ sizeLine := by rw [Array.length_toList, items.1, ← hlv]; exact hz
  refine wpAny_bind (wpAny_newList ?_ hL)
  have hoL : (h'.push (seqObj "list" acc.toList.toArray 0)).get? h'.objs.size = some (seqObj "list" acc.toList.toArray 0) := Heap.get?_push_size _ rfl
  show wpAny _ _ _ _ _ { s with heap := h'.push (seqObj "list" acc.toList.toArray 0), toks := tk }
  refine wpAny_bind (wpAny_holding (wpAny_call_entry slot_list_sort ⟨_, hoL, rfl⟩ entry_list_sort (list_sort_treeAny hoL hI hL fun out ns' h1 h2 h3 => ⟨_, rfl, wpAny_pure ⟨_, rfl, ?_⟩⟩) (args_list_sort _)))
  obtain ⟨e', he'⟩ := sortedHeap_at (out := out) hoL
  have hlen : (ns'.map V.int).length ≤ sizeLine := by
    rw [List.length_map, h2.length_eq, ← hI.length]
    exact hL
  refine ⟨.ref h'.objs.size, upd H h'.objs.size (.lst (ns'.map V.int)), I.laid (t' := tk) (fun b u e => ?_) hsz ⟨hlen, out.toList, e', vals_of_ints h1, he'⟩, rfl, q ns' _ h2 h3 (I.hok.fresh hsz)⟩
  have eb := keep b u e
  have lb := Heap.lt_size eb
  rw [sortedHeap_old (Nat.ne_of_lt lb) (by rw [size_push']; exact Nat.lt_succ_of_lt lb), Heap.get?_push_ne _ _ _ (Nat.ne_of_lt lb)]
  exact eb
end

/-! ### min(xs, key=f), f an own def -/
section
variable {X : Cx} {k : Nat} {f : Addr} {fd : FuncData} {ps : List Str} {sp : Sp} {pins : List (Addr × Obj)} {σ : St} {H : Hp}
theorem run_in1 {s : Shared} {Q : VK} {us : List Value} {vs : List V} (F : FnOk X.prog X.w X.K X.mg X.base CX0 k f fd ps sp) (hr : Room (k + 1) X.A) (hb : Binds X.K fd ps []) (I : Inv X pins σ H s) (r : Vals vs us) (h : sp vs H Q E0) :
    wpAny (model X.prog X.w) X.A.in1 (call (.ref f) us) (EP X pins σ Q) (fun _ _ => False) s := by
  have hl : us.length = ps.length := by rw [← r.length]; exact F.len _ _ _ _ h
  have e0 := I.env0
  have e1 : Env0 X.prog X.w X.K X.mg X.base X.A.in1 X.stack s H := ⟨e0.frames, e0.mod, e0.bs, e0.bsz, e0.funs, e0.frf, e0.hok, e0.bare⟩
  have hb' := hb s us I.kIn (by rw [List.append_nil]; exact hl)
  rw [List.append_nil] at hb'
  refine wpAny_call (codeAny_mono (F.run X.A.in1 X.stack s H ⟨us, []⟩ us vs Q E0 hr.in1 e1 hb' r h) fun r s' hq => ?_)
  cases r with
  | error e => exact hq
  | ok fl =>
    cases fl with
    | ret u => exact I.after hq
    | next => exact False.elim hq
    | brk => exact False.elim hq
    | cont => exact False.elim hq
theorem FpOk.turn {s : Shared} {h' : Heap} {t' : Nat} {it : Addr} (I : Inv X pins σ H s) (fp : FpOk X pins H it) (k : ∀ b o, b ≠ it → s.heap.get? b = some o → h'.get? b = some o) : Inv X pins σ H { s with heap := h', toks := t' } :=
  I.turned k fp.1 fp.2.1 fp.2.2.2.1 fp.2.2.2.2.1 fp.2.2.2.2.2
theorem int_at {ns : List Int} {its : List Value} (rv : Vals (ns.map V.int) its) {i : Nat} {v : Value} (h : its[i]? = some v) : ∃ n t, ns[i]? = some n ∧ v = .int n t := by
  have hl := rv.length
  rw [List.length_map] at hl
  have hi := (List.getElem?_eq_some_iff.mp h).1
  have hi' : i < ns.length := by omega
  obtain ⟨u, hu, t, ru⟩ := Vals.get (i := i) (x := V.int ns[i]) rv (by rw [List.getElem?_map, List.getElem?_eq_getElem hi']; rfl)
  rw [h] at hu
  cases hu
  exact ⟨ns[i], t, List.getElem?_eq_getElem hi', ru⟩
/-- the key's def is called while objects of min's own stand by -/
theorem key_at {s : Shared} {fp : List Addr} {n z : Int} {t : Tok} (F : FnOk X.prog X.w X.K X.mg X.base CX0 k f fd ps sp) (hr : Room (k + 1) X.A) (hb : Binds X.K fd ps []) (Iv : Inv X pins σ H s) (hf : ∀ b ∈ fp, FpOk X pins H b)
    (ho : ∀ b ∈ fp, ∃ o, s.heap.get? b = some o ∧ ∀ v, o.data ≠ .cell v) (h : sp [.int n] H (fun y H' => y = .int z ∧ H' = H) E0) :
    wpAny (model X.prog X.w) X.A.in1 (call (.ref f) [.int n t]) (fun x s2 => ∃ t2, x = .int z t2 ∧ Inv X pins σ H s2 ∧ ∀ b ∈ fp, ∀ o, s.heap.get? b = some o → s2.heap.get? b = some o) (fun _ _ => False) s := by
  refine thn (run_in1 F hr hb (Iv.pinned hf ho) (vs := [.int n]) (.cons ⟨t, rfl⟩ .nil) h) fun x s2 ⟨y, H', I2, ry, ey, eH⟩ => ?_
  subst ey eH
  obtain ⟨t2, rfl⟩ := ry
  exact ⟨t2, rfl, I2.unpinned, fun b hb o e => (I2.pin (b, o) (List.mem_append_right _ (List.mem_append_right _ (mem_pinsAt hb e)))).1⟩
/-- the words of the loop: min's store at S (what is best so far), its iterator at I -/
structure MinAt (X : Cx) (pins : List (Addr × Obj)) (σ : St) (H : Hp) (l I S : Addr) (its : Array Value) (j : Nat) (s : Shared) : Prop where
  inv : Inv X pins σ H s
  store : ∃ c, s.heap.get? S = some (seqObj "list" its c)
  iter : s.heap.IsListIter I l j
theorem MinAt.put {s : Shared} {l I S : Addr} {its its' : Array Value} {j : Nat} (M : MinAt X pins σ H l I S its j s) (hSI : S ≠ I) (fS : FpOk X pins H S) : MinAt X pins σ H l I S its' j { s with heap := s.heap.update S (Obj.mapSeq fun _ => its') } := by
  obtain ⟨c, hc⟩ := M.store
  obtain ⟨oI, h1, h2, h3⟩ := id M.iter
  have sb := Heap.SameBut.update s.heap S (Obj.mapSeq fun _ => its')
  exact ⟨fS.turn (t' := s.toks) M.inv fun b o hb e => (sb.2 b hb).trans e, ⟨_, get?_update_seq hc fun _ => its'⟩, oI, (sb.2 I hSI.symm).trans h1, h2, h3⟩
/-- the next item, and its key -/
theorem MinAt.next {s : Shared} {l I S : Addr} {its : Array Value} {j : Nat} {ns : List Int} {z n : Int} {E : Value → Shared → Prop} {Q : Option Value → Shared → Prop} (M : MinAt X pins σ H l I S its j s) (hc : X.calm = true) (hl : H l = some (.lst (ns.map V.int))) (hSI : S ≠ I) (fI : FpOk X pins H I)
    (hn : ns[j]? = some n) (go : ∀ (t : Tok) (s1 : Shared), MinAt X pins σ H l I S its (j + 1) s1 → Q (some (.int n t)) s1) : wpAny (model X.prog X.w) X.A.in1 (pyNext (.ref I)) Q E s := by
  obtain ⟨c, hcS⟩ := M.store
  obtain ⟨vs, rv, hP, _⟩ := M.inv.list (SqL.of hl)
  have hj : j < ns.length := (List.getElem?_eq_some_iff.mp hn).1
  have hsz : vs.toArray.size = ns.length := by
    have := rv.length
    rw [List.length_map] at this
    rw [List.size_toArray, this]
  refine (Walks.list (prog := X.prog) (w := X.w) (A := X.A.in1) (M.inv.ok.hd hc) I l (ne_of_none hl fI.1) vs.toArray).item j s _ _ (by rw [hsz]; exact hj) ⟨M.iter, hP.isList⟩ fun v h' tk' hv st keep => ?_
  obtain ⟨u, t, hu, rfl⟩ := int_at rv (i := j) (v := v) (by simpa using hv)
  rw [hn] at hu
  cases hu
  exact go t _ ⟨fI.turn M.inv fun b o hb e => keep b o (by simpa using hb) e, ⟨c, keep S _ (by simpa using hSI) hcS⟩, st.1⟩
theorem MinAt.over {s : Shared} {l I S : Addr} {its : Array Value} {ns : List Int} {E : Value → Shared → Prop} {Q : Option Value → Shared → Prop} (M : MinAt X pins σ H l I S its ns.length s) (hc : X.calm = true) (hl : H l = some (.lst (ns.map V.int))) (hSI : S ≠ I) (fI : FpOk X pins H I)
    (go : ∀ s1 : Shared, Inv X pins σ H s1 → (∃ c, s1.heap.get? S = some (seqObj "list" its c)) → Q none s1) : wpAny (model X.prog X.w) X.A.in1 (pyNext (.ref I)) Q E s := by
  obtain ⟨c, hcS⟩ := M.store
  obtain ⟨vs, rv, hP, _⟩ := M.inv.list (SqL.of hl)
  have hsz : vs.toArray.size = ns.length := by
    have := rv.length
    rw [List.length_map] at this
    rw [List.size_toArray, this]
  refine (Walks.list (prog := X.prog) (w := X.w) (A := X.A.in1) (M.inv.ok.hd hc) I l (ne_of_none hl fI.1) vs.toArray).done s _ _ ⟨by rw [hsz]; exact M.iter, hP.isList⟩ fun h' tk' keep => ?_
  exact go _ (fI.turn M.inv fun b o hb e => keep b o (by simpa using hb) e) ⟨c, keep S _ (by simpa using hSI) hcS⟩
theorem MinAt.key {s : Shared} {l I S : Addr} {its : Array Value} {j : Nat} {n z : Int} {t : Tok} (M : MinAt X pins σ H l I S its j s) (F : FnOk X.prog X.w X.K X.mg X.base CX0 k f fd ps sp) (hr : Room (k + 1) X.A) (hb : Binds X.K fd ps []) (fS : FpOk X pins H S) (fI : FpOk X pins H I)
    (h : sp [.int n] H (fun y H' => y = .int z ∧ H' = H) E0) : wpAny (model X.prog X.w) X.A.in1 (call (.ref f) [.int n t]) (fun x s2 => ∃ t2, x = .int z t2 ∧ MinAt X pins σ H l I S its j s2) (fun _ _ => False) s := by
  obtain ⟨c, hcS⟩ := M.store
  obtain ⟨oI, h1, h2, h3⟩ := id M.iter
  refine thn (key_at (fp := [S, I]) F hr hb M.inv (fun b hb => ?_) (fun b hb => ?_) h) fun x s2 ⟨t2, e, I2, keep⟩ => ⟨t2, e, I2, ⟨c, keep S (by simp) _ hcS⟩, oI, keep I (by simp) _ h1, h2, h3⟩
  · rcases List.mem_cons.mp hb with e | hb
    · rw [e]
      exact fS
    · rw [List.mem_singleton.mp hb]
      exact fI
  · rcases List.mem_cons.mp hb with e | hb
    · rw [e]
      exact ⟨_, hcS, fun v z => by cases z⟩
    · rw [List.mem_singleton.mp hb]
      exact ⟨_, h1, fun v z => by rw [h3] at z; cases z⟩
theorem loop_name : (toString "min" ++ toString ".loop" : String) = "min.loop" := by decide
theorem min_key_loop {l I S : Addr} {ns : List Int} {R : Result → Shared → Prop} (kf : Nat → Int) (hc : X.calm = true) (F : FnOk X.prog X.w X.K X.mg X.base CX0 k f fd ps sp) (hr : Room (k + 1) X.A) (hb : Binds X.K fd ps [])
    (hl : H l = some (.lst (ns.map V.int))) (hSI : S ≠ I) (fS : FpOk X pins H S) (fI : FpOk X pins H I)
    (turn : ∀ (i : Nat) (n : Int), ns[i]? = some n → sp [.int n] H (fun y H' => y = .int (kf i) ∧ H' = H) E0)
    (hR : ∀ (i : Nat) (n : Int) (t : Tok) (s' : Shared), ns[i]? = some n → (∀ j, j < ns.length → kf i ≤ kf j ∧ (j < i → kf i < kf j)) → Inv X pins σ H s' → R (.ok (.ret (.int n t))) s') :
    ∀ (r j i : Nat) (s : Shared) (n : Int) (t tb : Tok), ns.length - (j + 1) = r → j + 1 ≤ ns.length → MinAt X pins σ H l I S #[.int n t, .int (kf i) tb] (j + 1) s →
      ns[i]? = some n → i ≤ j → (∀ j', j' ≤ j → kf i ≤ kf j' ∧ (j' < i → kf i < kf j')) → codeAny (model X.prog X.w) X.A (.builtin "min.loop" ⟨[.ref I, .ref f, .ref S], []⟩) R s
  | 0, j, i, s, n, t, tb, hr0, hj, M, hn, hij, hbest => by
    have hin : j + 1 = ns.length := Nat.le_antisymm hj (Nat.sub_eq_zero_iff_le.mp hr0)
    obtain ⟨c, hcS⟩ := M.store
    rw [hin] at M
    refine codeAny_builtin PySem.F.entry_min_loop ?_
    rw [Around.under_plainId PySem.F.plain_min_loop _]
    refine (show wpAny _ X.A.in1 (seqItems? (.ref S) >>= _) _ _ _ from wpAny_bind (wpAny_seqItems hcS rfl ?_))
    refine (show wpAny _ X.A.in1 (tryCatch (pyNext (.ref I)) _ >>= _) _ _ _ from wpAny_bind (wpAny_tryCatch (M.over hc hl hSI fI fun s1 I1 ⟨c1, h1⟩ => ?_)))
    have sb := Heap.SameBut.update s1.heap S (Obj.mapSeq fun _ => (#[] : Array Value))
    refine (show wpAny _ X.A.in1 (updateSeq S (fun _ => #[]) >>= _) _ _ _ from wpAny_bind (wpAny_updateSeq h1 rfl (wpAny_bind (wpAny_letGo (wpAny_pure ?_)))))
    exact hR i n t _ hn (fun j' hj' => hbest j' (Nat.le_of_lt_succ (show j' < j + 1 by rw [hin]; exact hj'))) (fS.turn (t' := s1.toks) I1 fun b o hb e => (sb.2 b hb).trans e)
  | r + 1, j, i, s, n, t, tb, hr0, hj, M, hn, hij, hbest => by
    have hlt : j + 1 < ns.length := Nat.lt_of_sub_ne_zero (by rw [hr0]; exact Nat.succ_ne_zero r)
    have hr1 : ns.length - (j + 1 + 1) = r := by rw [Nat.sub_succ, hr0]; rfl
    have hu : ns[j + 1]? = some ns[j + 1] := List.getElem?_eq_getElem hlt
    obtain ⟨c, hcS⟩ := M.store
    refine codeAny_builtin PySem.F.entry_min_loop ?_
    rw [Around.under_plainId PySem.F.plain_min_loop _]
    refine (show wpAny _ X.A.in1 (seqItems? (.ref S) >>= _) _ _ _ from wpAny_bind (wpAny_seqItems hcS rfl ?_))
    refine (show wpAny _ X.A.in1 (tryCatch (pyNext (.ref I)) _ >>= _) _ _ _ from wpAny_bind (wpAny_tryCatch (M.next (z := 0) hc hl hSI fI hu fun t1 s1 M1 => ?_)))
    refine (show wpAny _ X.A.in1 (tryCatch (holding [.int ns[j + 1] t1] (call (.ref f) [.int ns[j + 1] t1])) _ >>= _) _ _ _ from
      wpAny_bind (wpAny_tryCatch (wpAny_holding (wpAny_mono (M1.key F hr hb fS fI (turn (j + 1) _ hu)) (fun x s2 he => ?_) fun _ _ no => no.elim))))
    obtain ⟨t2, rfl, M2⟩ := he
    refine (show wpAny _ X.A.in1 (tryCatch (holding [.int ns[j + 1] t1, .int (kf (j + 1)) t2] (richCompare .Lt (.int (kf (j + 1)) t2) (.int (kf i) tb) >>= _)) _ >>= _) _ _ _ from
      wpAny_bind (wpAny_tryCatch (wpAny_holding (wpAny_bind (CmpOf.ints_lt (prog := X.prog) (w := X.w) (A := X.A.in1) (P := fun i v => ∃ t, v = .int (kf i) t) kf (fun _ _ z => z) (j + 1) i _ _ _ _ _ ⟨t2, rfl⟩ ⟨tb, rfl⟩ ?_)))))
    refine wpAny_bind (wpAny_holding (wpAny_truthy_bool (wpAny_bind (wpAny_letGo (wpAny_pure ?_)))))
    obtain ⟨c2, hc2⟩ := M2.store
    by_cases less : kf (j + 1) < kf i
    · simp only [less, decide_true, if_true]
      refine wpAny_bind (wpAny_updateSeq hc2 rfl (wpAny_bind (wpAny_letGo ?_)))
      rw [loop_name]
      refine wpAny_pure ⟨plainId_quiet PySem.F.plain_min_loop _, min_key_loop kf hc F hr hb hl hSI fS fI turn hR r (j + 1) (j + 1) _ _ t1 t2 hr1 hlt (M2.put hSI fS) hu (Nat.le_refl _) fun j' hj' => ?_⟩
      by_cases e : j' = j + 1
      · subst e
        exact ⟨Int.le_refl _, fun no => absurd no (Nat.lt_irrefl _)⟩
      · have old := Int.lt_of_lt_of_le less (hbest j' (Nat.le_of_lt_succ (Nat.lt_of_le_of_ne hj' e))).1
        exact ⟨Int.le_of_lt old, fun _ => old⟩
    · simp only [less, decide_false, Bool.false_eq_true, if_false]
      refine wpAny_bind (wpAny_letGo ?_)
      rw [loop_name]
      refine wpAny_pure ⟨plainId_quiet PySem.F.plain_min_loop _, min_key_loop kf hc F hr hb hl hSI fS fI turn hR r (j + 1) i _ n t tb hr1 hlt M2 hn (Nat.le_succ_of_le hij) fun j' hj' => ?_⟩
      by_cases e : j' = j + 1
      · subst e
        exact ⟨Int.not_lt.mp less, fun no => absurd (Nat.lt_of_lt_of_le no hij) (Nat.not_lt_of_le (Nat.le_succ j))⟩
      · exact hbest j' (Nat.le_of_lt_succ (Nat.lt_of_le_of_ne hj' e))
theorem min_key {s : Shared} {l : Addr} {ns : List Int} {Q : VK} (kf : Nat → Int) (hc : X.calm = true) (F : FnOk X.prog X.w X.K X.mg X.base CX0 k f fd ps sp) (hr : Room (k + 1) X.A) (hb : Binds X.K fd ps []) (Iv : Inv X pins σ H s)
    (hl : H l = some (.lst (ns.map V.int))) (hne : 0 < ns.length) (turn : ∀ (i : Nat) (n : Int), ns[i]? = some n → sp [.int n] H (fun y H' => y = .int (kf i) ∧ H' = H) E0)
    (hQ : ∀ (i : Nat) (n : Int), ns[i]? = some n → (∀ j, j < ns.length → kf i ≤ kf j ∧ (j < i → kf i < kf j)) → Q (.int n) H) :
    wpAny (model X.prog X.w) X.A (call (.builtin "min") [.ref l] [(Str.ofString "key", .ref f)]) (EP X pins σ Q) X.xe s := by
  obtain ⟨its, rv, hP, _⟩ := Iv.list (SqL.of hl)
  have hu : ns[0]? = some ns[0] := List.getElem?_eq_getElem hne
  refine kmk_tree PySem.F.kind_min PySem.F.plain_min PySem.F.entry_min (kmk_min_key _ _) ?_
  refine (show wpAny _ X.A.in1 (Builtin.Builtins.bindParams "min" ["key", "default"] 0 ⟨[], [(Str.ofString "key", .ref f)]⟩ >>= _) _ _ s from
    wpAny_bind (wpAny_of_eq (show Builtin.Builtins.bindParams "min" ["key", "default"] 0 ⟨[], [(Str.ofString "key", .ref f)]⟩ = pure [some (.ref f), none] from rfl) ?_))
  refine wpAny_bind (wpAny_pure (wpAny_bind (wpAny_pyIter_list hP.isList (wpAny_bind (wpAny_newList ?_ (Nat.zero_le _))))))
  rw [loop_name]
  have hS : (s.heap.push { cls := .type "list_iterator", data := .fields #[.ref l, .int 0 0] }).objs.size = s.heap.objs.size + 1 := size_push' ..
  have hSI : (s.heap.push { cls := .type "list_iterator", data := .fields #[.ref l, .int 0 0] }).objs.size ≠ s.heap.objs.size := by rw [hS]; exact Nat.ne_of_gt (Nat.lt_succ_self _)
  have fI : FpOk X pins H s.heap.objs.size := Iv.fpOk (Nat.le_refl _) (Iv.hok.fresh (Nat.le_refl _))
  have fS : FpOk X pins H (s.heap.push { cls := .type "list_iterator", data := .fields #[.ref l, .int 0 0] }).objs.size := Iv.fpOk (by rw [hS]; exact Nat.le_succ _) (Iv.hok.fresh (by rw [hS]; exact Nat.le_succ _))
  have M : MinAt X pins σ H l s.heap.objs.size (s.heap.push { cls := .type "list_iterator", data := .fields #[.ref l, .int 0 0] }).objs.size #[] 0 { s with heap := (s.heap.push { cls := .type "list_iterator", data := .fields #[.ref l, .int 0 0] }).push (seqObj "list" #[] 0) } :=
    ⟨Iv.kept (t' := s.toks) fun b u e => Heap.get?_push_of_some _ (Heap.get?_push_of_some _ e), ⟨0, Heap.get?_push_size _ rfl⟩, _, Heap.get?_push_of_some _ (Heap.get?_push_size _ rfl), rfl, rfl⟩
  refine wpAny_pure ⟨plainId_quiet PySem.F.plain_min_loop _, ?_⟩
  generalize (s.heap.push { cls := .type "list_iterator", data := .fields #[.ref l, .int 0 0] }).objs.size = S at hSI fS M ⊢
  obtain ⟨c, hcS⟩ := M.store
  refine codeAny_builtin PySem.F.entry_min_loop ?_
  rw [Around.under_plainId PySem.F.plain_min_loop _]
  refine (show wpAny _ X.A.in1 (seqItems? (.ref S) >>= _) _ _ _ from wpAny_bind (wpAny_seqItems hcS rfl ?_))
  refine (show wpAny _ X.A.in1 (tryCatch (pyNext (.ref s.heap.objs.size)) _ >>= _) _ _ _ from wpAny_bind (wpAny_tryCatch (M.next (z := 0) hc hl hSI fI hu fun t1 s1 M1 => ?_)))
  refine (show wpAny _ X.A.in1 (tryCatch (holding [.int ns[0] t1] (call (.ref f) [.int ns[0] t1])) _ >>= _) _ _ _ from
    wpAny_bind (wpAny_tryCatch (wpAny_holding (wpAny_mono (M1.key F hr hb fS fI (turn 0 _ hu)) (fun x s2 he => ?_) fun _ _ no => no.elim))))
  obtain ⟨t2, rfl, M2⟩ := he
  obtain ⟨c2, hc2⟩ := M2.store
  refine (show wpAny _ X.A.in1 (updateSeq S (fun _ => #[.int ns[0] t1, .int (kf 0) t2]) >>= _) _ _ _ from wpAny_bind (wpAny_updateSeq hc2 rfl ?_))
  rw [loop_name]
  refine wpAny_pure ⟨plainId_quiet PySem.F.plain_min_loop _, min_key_loop kf hc F hr hb hl hSI fS fI turn (fun i n t s' hn hbst Is => ⟨.int n, H, Is, ⟨t, rfl⟩, hQ i n hn hbst⟩) _ 0 0 _ _ t1 t2 rfl hne (M2.put hSI fS) hu (Nat.le_refl _) fun j' hj' => ?_⟩
  have e : j' = 0 := by omega
  subst e
  exact ⟨by omega, fun h => absurd h (Nat.lt_irrefl _)⟩
def tMinK (sp : Sp) (ta : TA) : TE := fun σ H Q => ta σ H fun xs H1 => ∃ (a : Addr) (ns : List Int) (kf : Nat → Int), xs = [.ref a] ∧ H1 a = some (.lst (ns.map V.int)) ∧ 0 < ns.length ∧
  (∀ (i : Nat) (n : Int), ns[i]? = some n → sp [.int n] H1 (fun y H' => y = .int (kf i) ∧ H' = H1) E0) ∧ ∀ (i : Nat) (n : Int), ns[i]? = some n → (∀ j, j < ns.length → kf i ≤ kf j ∧ (j < i → kf i < kf j)) → Q (.int n) H1
theorem pe_minK {e : Expr} {ta : TA} {y : Str} {p p2 kp pos : Pos} (hc : X.calm = true) (F : FnOk X.prog X.w X.K X.mg X.base CX0 k f fd ps sp) (hr : Room (k + 1) X.A) (hb : Binds X.K fd ps []) (hm : X.mg "min" = none) (hmy : X.mg y = some (.ref f)) (ha : PA X [e] ta)
    (hg : Gl X "min" := by rfl) (hgy : Gl X y := by rfl) (hdy : (y == ("__debug__" : Str)) = false := by decide)
    (h1 : backTo pos (starEach [e] X.env) = (false, eval e X.env) :: backTo pos (starEach [] X.env) := by rfl) (h2 : (backTo pos (starEach [e] X.env)).any (·.1) = false := by rfl) :
    PE X (.Call (.Name "min" p) [e] [⟨some "key", .Name y p2, kp⟩] pos) (tMinK sp ta) := by
  intro pins s σ H Q I h
  refine wpAny_Call_Name_kw (ld_blt I hg hm boot_min ?_)
  refine PyProof.Rows.callWith_kw (thn (ha pos pins s σ H _ I h) fun us s1 ⟨vs, H1, I1, r, q⟩ => ?_) h1 h2
  obtain ⟨a, ns, kf, rfl, hl, hne, turn, hQ⟩ := q
  rw [Vals.ref1 r]
  refine kws_cons (ld_glob I1 hgy hmy ?_ hdy)
  refine kws_nil ?_
  exact min_key kf hc F hr hb I1 hl hne turn hQ
end
end L2
end

section
set_option Elab.async false
set_option linter.all false
set_option maxRecDepth 100000
set_option maxHeartbeats 2000000
/-! The text by places. -/
namespace Mp
open PySem PySem.Spec PyProof.Rows L2
def top (i : Nat) : Stmt := PySem.Challenge.pw_madeconceded_s01_answers.main.body.getD i (.Pass ⟨0, 0, 0, 0⟩)
abbrev s_all_worlds : Stmt := top 9
theorem cs_all_worlds : FnScope ["letters"] ["letters"] (defScope s_all_worlds) := ⟨rfl, rfl, rfl, by decide +kernel, rfl, by decide +kernel, by decide +kernel⟩
abbrev s_all_propositions : Stmt := top 10
theorem cs_all_propositions : FnScope ["letters"] ["letters"] (defScope s_all_propositions) := ⟨rfl, rfl, rfl, by decide +kernel, rfl, by decide +kernel, by decide +kernel⟩
abbrev s_how_many : Stmt := top 11
theorem cs_how_many : FnScope ["worlds", "counted"] ["worlds"] (defScope s_how_many) := ⟨rfl, rfl, rfl, by decide +kernel, rfl, by decide +kernel, by decide +kernel⟩
abbrev s_without : Stmt := top 12
theorem cs_without : FnScope ["worlds", "proposition"] ["worlds", "proposition"] (defScope s_without) := ⟨rfl, rfl, rfl, by decide +kernel, rfl, by decide +kernel, by decide +kernel⟩
abbrev s_bearing : Stmt := top 13
theorem cs_bearing : FnScope ["standing", "proposition"] ["standing", "proposition"] (defScope s_bearing) := ⟨rfl, rfl, rfl, by decide +kernel, rfl, by decide +kernel, by decide +kernel⟩
abbrev s_right_answer : Stmt := top 14
theorem cs_right_answer : FnScope ["known", "standing", "proposition", "by_standing", "relation"] ["known", "standing", "proposition"] (defScope s_right_answer) := ⟨rfl, rfl, rfl, by decide +kernel, rfl, by decide +kernel, by decide +kernel⟩
abbrev s_standing_behind : Stmt := top 15
theorem cs_standing_behind : FnScope ["known", "standing", "proposition", "given"] ["known", "standing", "proposition"] (defScope s_standing_behind) := ⟨rfl, rfl, rfl, by decide +kernel, rfl, by decide +kernel, by decide +kernel⟩
abbrev s_can_be_made : Stmt := top 16
theorem cs_can_be_made : FnScope ["known", "standing", "wanted", "proposition", "real"] ["known", "standing", "wanted", "proposition"] (defScope s_can_be_made) := ⟨rfl, rfl, rfl, by decide +kernel, rfl, by decide +kernel, by decide +kernel⟩
abbrev s_all_that_can_be_made : Stmt := top 17
theorem cs_all_that_can_be_made : FnScope ["letters", "known", "standing", "wanted", "every", "proposition"] ["letters", "known", "standing", "wanted"] (defScope s_all_that_can_be_made) := ⟨rfl, rfl, rfl, by decide +kernel, rfl, by decide +kernel, by decide +kernel⟩
abbrev s_shortest_row : Stmt := top 18
theorem cs_shortest_row : FnScope ["letters", "known", "standing", "wanted", "proposition", "first", "behind"] ["letters", "known", "standing", "wanted", "proposition"] (defScope s_shortest_row) := ⟨rfl, rfl, rfl, by decide +kernel, rfl, by decide +kernel, by decide +kernel⟩
abbrev s_rows_of_stock : Stmt := top 19
theorem cs_rows_of_stock : FnScope ["known", "standing", "stock", "rows", "waiting", "at", "before", "place", "behind"] ["known", "standing", "stock"] (defScope s_rows_of_stock) := ⟨rfl, rfl, rfl, by decide +kernel, rfl, by decide +kernel, by decide +kernel⟩
abbrev s_fewest_worlds : Stmt := top 20
theorem cs_fewest_worlds : FnScope ["standings"] ["standings"] (defScope s_fewest_worlds) := ⟨rfl, rfl, rfl, by decide +kernel, rfl, by decide +kernel, by decide +kernel⟩
abbrev s_changes_something : Stmt := top 21
theorem cs_changes_something : FnScope ["known", "standings", "proposition", "standing"] ["known", "standings", "proposition"] (defScope s_changes_something) := ⟨rfl, rfl, rfl, by decide +kernel, rfl, by decide +kernel, by decide +kernel⟩
abbrev s_Disputation_init : Stmt := inClass (top 30) 0
theorem cs_Disputation_init : FnScope ["self"] ["self"] (defScope s_Disputation_init) := ⟨rfl, rfl, rfl, by decide +kernel, rfl, by decide +kernel, by decide +kernel⟩
abbrev s_check_proposition : Stmt := top 31
theorem cs_check_proposition : FnScope ["letters", "number"] ["letters", "number"] (defScope s_check_proposition) := ⟨rfl, rfl, rfl, by decide +kernel, rfl, by decide +kernel, by decide +kernel⟩
abbrev s_check_answer : Stmt := top 32
theorem cs_check_answer : FnScope ["number"] ["number"] (defScope s_check_answer) := ⟨rfl, rfl, rfl, by decide +kernel, rfl, by decide +kernel, by decide +kernel⟩
abbrev s_check_some_world : Stmt := top 33
theorem cs_check_some_world : FnScope ["worlds"] ["worlds"] (defScope s_check_some_world) := ⟨rfl, rfl, rfl, by decide +kernel, rfl, by decide +kernel, by decide +kernel⟩
abbrev s_begin : Stmt := top 34
theorem cs_begin : FnScope ["disputation", "arguments", "letters", "known", "standing"] ["disputation", "arguments"] (defScope s_begin) := ⟨rfl, rfl, rfl, by decide +kernel, rfl, by decide +kernel, by decide +kernel⟩
abbrev s_propose : Stmt := top 35
theorem cs_propose : FnScope ["disputation", "arguments", "proposition", "given"] ["disputation", "arguments"] (defScope s_propose) := ⟨rfl, rfl, rfl, by decide +kernel, rfl, by decide +kernel, by decide +kernel⟩
abbrev s_stand : Stmt := top 36
theorem cs_stand : FnScope ["disputation", "arguments", "standing"] ["disputation", "arguments"] (defScope s_stand) := ⟨rfl, rfl, rfl, by decide +kernel, rfl, by decide +kernel, by decide +kernel⟩
abbrev s_learn : Stmt := top 37
theorem cs_learn : FnScope ["disputation", "arguments", "learnt", "known"] ["disputation", "arguments"] (defScope s_learn) := ⟨rfl, rfl, rfl, by decide +kernel, rfl, by decide +kernel, by decide +kernel⟩
abbrev s_put_stock : Stmt := top 38
theorem cs_put_stock : FnScope ["disputation", "arguments", "propositions", "proposition"] ["disputation", "arguments"] (defScope s_put_stock) := ⟨rfl, rfl, rfl, by decide +kernel, rfl, by decide +kernel, by decide +kernel⟩
abbrev s_tell_answer : Stmt := top 39
theorem cs_tell_answer : FnScope ["disputation", "arguments", "proposition", "given"] ["disputation", "arguments"] (defScope s_tell_answer) := ⟨rfl, rfl, rfl, by decide +kernel, rfl, by decide +kernel, by decide +kernel⟩
abbrev s_tell_row : Stmt := top 40
theorem cs_tell_row : FnScope ["disputation", "wanted", "proposition", "row"] ["disputation", "wanted", "proposition"] (defScope s_tell_row) := ⟨rfl, rfl, rfl, by decide +kernel, rfl, by decide +kernel, by decide +kernel⟩
abbrev s_concede : Stmt := top 41
theorem cs_concede : FnScope ["disputation", "arguments"] ["disputation", "arguments"] (defScope s_concede) := ⟨rfl, rfl, rfl, by decide +kernel, rfl, by decide +kernel, by decide +kernel⟩
abbrev s_deny : Stmt := top 42
theorem cs_deny : FnScope ["disputation", "arguments"] ["disputation", "arguments"] (defScope s_deny) := ⟨rfl, rfl, rfl, by decide +kernel, rfl, by decide +kernel, by decide +kernel⟩
abbrev s_added_answers : Stmt := top 43
theorem cs_added_answers : FnScope ["disputation", "proposition", "added", "wanted"] ["disputation", "proposition"] (defScope s_added_answers) := ⟨rfl, rfl, rfl, by decide +kernel, rfl, by decide +kernel, by decide +kernel⟩
abbrev s_may : Stmt := top 44
theorem cs_may : FnScope ["disputation", "arguments", "proposition"] ["disputation", "arguments"] (defScope s_may) := ⟨rfl, rfl, rfl, by decide +kernel, rfl, by decide +kernel, by decide +kernel⟩
abbrev s_those_that_can_be_made : Stmt := top 45
theorem cs_those_that_can_be_made : FnScope ["disputation", "wanted"] ["disputation", "wanted"] (defScope s_those_that_can_be_made) := ⟨rfl, rfl, rfl, by decide +kernel, rfl, by decide +kernel, by decide +kernel⟩
abbrev s_counts : Stmt := top 46
theorem cs_counts : FnScope ["disputation", "arguments", "wanted"] ["disputation", "arguments"] (defScope s_counts) := ⟨rfl, rfl, rfl, by decide +kernel, rfl, by decide +kernel, by decide +kernel⟩
abbrev s_pick : Stmt := top 47
theorem cs_pick : FnScope ["found", "place"] ["found", "place"] (defScope s_pick) := ⟨rfl, rfl, rfl, by decide +kernel, rfl, by decide +kernel, by decide +kernel⟩
abbrev s_nth : Stmt := top 48
theorem cs_nth : FnScope ["disputation", "arguments"] ["disputation", "arguments"] (defScope s_nth) := ⟨rfl, rfl, rfl, by decide +kernel, rfl, by decide +kernel, by decide +kernel⟩
abbrev s_false_that_can_be_conceded : Stmt := top 49
theorem cs_false_that_can_be_conceded : FnScope ["disputation", "found", "proposition"] ["disputation"] (defScope s_false_that_can_be_conceded) := ⟨rfl, rfl, rfl, by decide +kernel, rfl, by decide +kernel, by decide +kernel⟩
abbrev s_count_false : Stmt := top 50
theorem cs_count_false : FnScope ["disputation", "arguments"] ["disputation", "arguments"] (defScope s_count_false) := ⟨rfl, rfl, rfl, by decide +kernel, rfl, by decide +kernel, by decide +kernel⟩
abbrev s_nth_false : Stmt := top 51
theorem cs_nth_false : FnScope ["disputation", "arguments"] ["disputation", "arguments"] (defScope s_nth_false) := ⟨rfl, rfl, rfl, by decide +kernel, rfl, by decide +kernel, by decide +kernel⟩
abbrev s_surely : Stmt := top 52
theorem cs_surely : FnScope ["disputation", "arguments", "wanted", "proposition"] ["disputation", "arguments"] (defScope s_surely) := ⟨rfl, rfl, rfl, by decide +kernel, rfl, by decide +kernel, by decide +kernel⟩
abbrev s_rows_to_standings : Stmt := top 53
theorem cs_rows_to_standings : FnScope ["disputation"] ["disputation"] (defScope s_rows_to_standings) := ⟨rfl, rfl, rfl, by decide +kernel, rfl, by decide +kernel, by decide +kernel⟩
abbrev s_row_from_stock : Stmt := top 54
theorem cs_row_from_stock : FnScope ["disputation", "arguments", "wanted", "proposition", "rows", "standing"] ["disputation", "arguments"] (defScope s_row_from_stock) := ⟨rfl, rfl, rfl, by decide +kernel, rfl, by decide +kernel, by decide +kernel⟩
abbrev s_least : Stmt := top 55
theorem cs_least : FnScope ["disputation", "arguments", "fewest"] ["disputation", "arguments"] (defScope s_least) := ⟨rfl, rfl, rfl, by decide +kernel, rfl, by decide +kernel, by decide +kernel⟩
abbrev s_count_reach : Stmt := top 56
theorem cs_count_reach : FnScope ["disputation", "arguments"] ["disputation", "arguments"] (defScope s_count_reach) := ⟨rfl, rfl, rfl, by decide +kernel, rfl, by decide +kernel, by decide +kernel⟩
abbrev s_nth_reach : Stmt := top 57
theorem cs_nth_reach : FnScope ["disputation", "arguments"] ["disputation", "arguments"] (defScope s_nth_reach) := ⟨rfl, rfl, rfl, by decide +kernel, rfl, by decide +kernel, by decide +kernel⟩
abbrev s_row_that_leaves : Stmt := top 58
theorem cs_row_that_leaves : FnScope ["disputation", "arguments", "standing", "rows"] ["disputation", "arguments"] (defScope s_row_that_leaves) := ⟨rfl, rfl, rfl, by decide +kernel, rfl, by decide +kernel, by decide +kernel⟩
abbrev s_idle : Stmt := top 59
theorem cs_idle : FnScope ["disputation", "arguments", "stock", "rows", "places", "place"] ["disputation", "arguments"] (defScope s_idle) := ⟨rfl, rfl, rfl, by decide +kernel, rfl, by decide +kernel, by decide +kernel⟩
abbrev s_state : Stmt := top 60
theorem cs_state : FnScope ["disputation", "arguments"] ["disputation", "arguments"] (defScope s_state) := ⟨rfl, rfl, rfl, by decide +kernel, rfl, by decide +kernel, by decide +kernel⟩
abbrev s_answer_call : Stmt := top 62
theorem cs_answer_call : FnScope ["disputation", "number", "arguments"] ["disputation", "number", "arguments"] (defScope s_answer_call) := ⟨rfl, rfl, rfl, by decide +kernel, rfl, by decide +kernel, by decide +kernel⟩
abbrev s_answer_or_refusal : Stmt := top 63
theorem cs_answer_or_refusal : FnScope ["disputation", "number", "arguments"] ["disputation", "number", "arguments"] (defScope s_answer_or_refusal) := ⟨rfl, rfl, rfl, by decide +kernel, rfl, by decide +kernel, by decide +kernel⟩
abbrev s_end_of_call : Stmt := top 64
theorem cs_end_of_call : FnScope ["calls", "start", "end"] ["calls", "start"] (defScope s_end_of_call) := ⟨rfl, rfl, rfl, by decide +kernel, rfl, by decide +kernel, by decide +kernel⟩
abbrev s_answers : Stmt := top 65
theorem cs_answers : FnScope ["calls", "disputation", "told", "start", "end", "numbers"] ["calls"] (defScope s_answers) := ⟨rfl, rfl, rfl, by decide +kernel, rfl, by decide +kernel, by decide +kernel⟩
end Mp
end

section
set_option Elab.async false
set_option linter.all false
set_option maxRecDepth 100000
set_option maxHeartbeats 2000000
/-! Words over the layer: a def of the text with its promise, a constant of the text. -/
namespace Mp
open PySem PySem.Spec PyProof.Rows L2

/-- a def of the text as it stands behind the top -/
def Def (K : PySem.W.Frag) (mg : Str → Option Value) (x : Str) (st : Stmt) (ps : List Str) : Prop := ∃ f fd, mg x = some (.ref f) ∧ Fun K x x st f fd ∧ Binds K fd ps []
/-- a def of the text that keeps its promise -/
def Cb (P : Program) (w : World) (K : PySem.W.Frag) (mg : Str → Option Value) (base : Heap) (CX : CXT) (k : Nat) (x : Str) (sp : Sp) : Prop :=
  ∃ f fd ps, mg x = some (.ref f) ∧ FnOk P w K mg base CX k f fd ps sp ∧ Binds K fd ps [] ∧ PySem.W.keepIn K (.ref f) = true
section
variable {P : Program} {w : World} {K : PySem.W.Frag} {mg : Str → Option Value} {base : Heap}
theorem cb_of {CX : CXT} {k : Nat} {x : Str} {st : Stmt} {ps : List Str} {sp : Sp} (D : Def K mg x st ps) (h : ∀ f fd, Fun K x x st f fd → FnOk P w K mg base CX k f fd ps sp) : Cb P w K mg base CX k x sp := by
  obtain ⟨f, fd, hm, F, b⟩ := D
  exact ⟨f, fd, ps, hm, h f fd F, b, F.kp⟩
/-- an int of the top -/
def GI (mg : Str → Option Value) (x : Str) (i : Int) : Prop := ∃ t, mg x = some (.int i t)
end
section
variable {X : Cx} {CX : CXT} {k : Nat} {x : Str} {sp : Sp} {E : XK} {e : Expr} {es : List Expr} {t : TA} {p pos : Pos}
theorem pe_cb (C : Cb X.prog X.w X.K X.mg X.base CX k x sp) (hr : Room k X.A) (hx : Passes CX X E) (ha : PA X (e :: es) t) (hg : Gl X x := by rfl) (hdb : (x == ("__debug__" : Str)) = false := by decide)
    (he : starEach (e :: es) X.env = (false, eval e X.env) :: starEach es X.env := by rfl) (hpl : (backTo pos (starEach es X.env)).any (·.1) = false := by rfl) :
    PE X (.Call (.Name x p) (e :: es) [] pos) (tCall sp [] E t) := by
  obtain ⟨f, fd, ps, hm, F, b, kp⟩ := C
  exact pe_call F hr hg hm kp b .nil hx ha hdb he hpl
theorem pe_gi {i : Int} (h : GI X.mg x i) (hg : Gl X x := by rfl) (hd : (x == ("__debug__" : Str)) = false := by decide) : PE X (.Name x pos) (tC (.int i)) := by
  obtain ⟨t, hm⟩ := h
  exact pe_glob hg hm ⟨t, rfl⟩ hd
theorem pe_gr {a : Addr} (hm : X.mg x = some (.ref a)) (hg : Gl X x := by rfl) (hd : (x == ("__debug__" : Str)) = false := by decide) : PE X (.Name x pos) (tC (.ref a)) := pe_glob hg hm rfl hd
end
/-! ### bits of ints that are 0 or more -/
theorem and_nat (a b : Nat) : Builtin.bitAnd (a : Int) (b : Int) = ((a &&& b : Nat) : Int) := rfl
theorem bit_sum : ∀ i, i < 2 → ∀ j, j < 2 → (i ^^^ j) + 2 * (i &&& j) = i + j := by decide
theorem lin_sum {X A a b x c i j : Nat} (p : X + 2 * A = a + b) (q : x + 2 * c = i + j) : (2 * X + x) + 2 * (2 * A + c) = (2 * a + i) + (2 * b + j) := by omega
theorem xor_sum (m : Nat) : ∀ n : Nat, (m ^^^ n) + 2 * (m &&& n) = m + n := by
  induction m using Nat.strongRecOn with
  | _ m ih =>
    intro n
    by_cases h0 : m = 0
    · rw [h0, Nat.zero_xor, Nat.zero_and, Nat.mul_zero, Nat.add_zero, Nat.zero_add]
    · have p := ih (m / 2) (Nat.div_lt_self (Nat.pos_of_ne_zero h0) (by decide)) (n / 2)
      rw [← Nat.xor_div_two, ← Nat.and_div_two] at p
      have q := bit_sum (m % 2) (Nat.mod_lt _ (by decide)) (n % 2) (Nat.mod_lt _ (by decide))
      have ex : (m ^^^ n) % 2 = (m % 2) ^^^ (n % 2) := Nat.xor_mod_two_pow (n := 1)
      have ea : (m &&& n) % 2 = (m % 2) &&& (n % 2) := Nat.and_mod_two_pow (n := 1)
      rw [← ex, ← ea] at q
      have r := lin_sum p q
      rwa [Nat.div_add_mod, Nat.div_add_mod, Nat.div_add_mod, Nat.div_add_mod] at r
theorem xor_nat (a b : Nat) : Builtin.bitXor (a : Int) (b : Int) = ((a ^^^ b : Nat) : Int) := by
  have e := xor_sum a b
  rw [bitXor_and, and_nat]
  omega
end Mp
end

section
set_option Elab.async false
set_option linter.all false
set_option maxRecDepth 100000
set_option maxHeartbeats 2000000
/-! list(range(n)) -/
namespace Mp
open PySem PySem.Spec PyProof.Rows L2
section
variable {X : Cx}
theorem cr_range1 : CallR X (.type "range") (fun xs H Q => ∃ j : Int, xs = [.int j] ∧ ∀ p, H p = none → Q (.ref p) (upd H p (.rng 0 j))) := by
  intro pins s σ H xs us Q I r h
  obtain ⟨j, rfl, q⟩ := h
  obtain ⟨u, rfl, rx⟩ := vals1 r
  obtain ⟨t, rfl⟩ := rx
  refine call_range_1 ⟨.ref s.heap.objs.size, _, I.laid (fun _ _ e => Heap.get?_push_of_some _ e) (Nat.le_refl _) (o := .rng 0 j) ⟨_, _, _, Heap.get?_push_size _ rfl⟩, rfl, q _ I.fresh⟩
theorem vals_items {a : Int} : ∀ {n : Nat} {acc : Array Value}, ItemsOf (fun i v => ∃ t, v = .int (a + i * 1) t) acc n → Vals ((List.range n).map fun (i : Nat) => V.int (a + (i : Int))) acc.toList := by
  intro n acc h
  have hs := h.1
  have key : ∀ (l : List Value) (k : Nat), (∀ i v, l[i]? = some v → ∃ t, v = Value.int (a + ((k + i : Nat) : Int) * 1) t) → Vals ((List.range' k l.length).map fun (i : Nat) => V.int (a + (i : Int))) l := by
    intro l
    induction l with
    | nil =>
      intro k _
      exact .nil
    | cons v l ih =>
      intro k hl
      rw [List.length_cons, List.range'_succ, List.map_cons]
      refine .cons ?_ (ih (k + 1) fun i v hv => ?_)
      · obtain ⟨t, e⟩ := hl 0 v rfl
        exact ⟨t, by rw [e]; simp⟩
      · obtain ⟨t, e⟩ := hl (i + 1) v hv
        exact ⟨t, by rw [e]; congr 3; omega⟩
  have := key acc.toList 0 fun i v hv => by
    have hv' : acc[i]? = some v := by rw [← Array.getElem?_toList]; exact hv
    obtain ⟨t, e⟩ := h.2 i v hv'
    exact ⟨t, by rw [e]; congr 3; omega⟩
  rw [Array.length_toList, hs, ← List.range_eq_range'] at this
  exact this
theorem cr_list_rng (hc : X.calm = true) : CallR X (.type "list") (fun xs H Q => ∃ (p : Addr) (n : Nat), xs = [.ref p] ∧ H p = some (.rng 0 (n : Int)) ∧ n ≤ 1000 ∧ ∀ l, H l = none → Q (.ref l) (upd H l (.lst ((List.range n).map fun (i : Nat) => V.int (i : Int))))) := by
  intro pins s σ H xs us Q I r h
  obtain ⟨p, n, rfl, hp, hn, q⟩ := h
  obtain ⟨u, rfl, rx⟩ := vals1 r
  cases rx
  obtain ⟨t, u, v, e⟩ := I.hok p _ hp
  refine call_list_range (n := n) (I.ok.hd hc) e (small_one (by omega) (by omega) (by omega) (by omega)) (by rw [rangeSize_one]; split <;> omega) (by omega) fun h' tk acc c kp ho it => ?_
  have hv := vals_items it
  have e1 : ((List.range n).map fun (i : Nat) => V.int (0 + (i : Int))) = (List.range n).map fun (i : Nat) => V.int (i : Int) := by
    refine List.map_congr_left fun i _ => ?_
    rw [Int.zero_add]
  rw [e1] at hv
  refine ⟨.ref s.heap.objs.size, _, I.laid (t' := tk) kp (Nat.le_refl _) (o := .lst ((List.range n).map fun (i : Nat) => V.int (i : Int))) ⟨?_, acc.toList, c, hv, ?_⟩, rfl, q _ I.fresh⟩
  · rw [List.length_map, List.length_range]
    exact Nat.le_of_lt (small1000 hn)
  · rw [Array.toArray_toList]
    exact ho
end
end Mp
end

section
set_option Elab.async false
set_option linter.all false
set_option maxRecDepth 100000
set_option maxHeartbeats 2000000
/-! The defs of worlds.py, one promise each. -/
namespace Mp
open PySem PySem.Spec PyProof.Rows L2
open Krb7 (full both not_ within truth right count worlds why)
open Mc (wo nx canB tell)

/-- what of the text the defs of worlds.py lean on -/
structure TxW (K : PySem.W.Frag) (mg : Str → Option Value) : Prop where
  denied : GI mg "DENIED" 0
  conceded : GI mg "CONCEDED" 1
  doubted : GI mg "DOUBTED" 2
  indiff : GI mg "INDIFFERENT" 0
  follows : GI mg "FOLLOWS" 1
  against : GI mg "AGAINST" 2
  most : GI mg "MOST_LETTERS" 3
  all : ∃ a, mg "ALL_WORLDS" = some (.ref a) ∧ ∀ H, SqT K H a [.int 0, .int 3, .int 15, .int 255]
  len : mg "len" = none
  list : mg "list" = none
  range : mg "range" = none
  sorted : mg "sorted" = none
  min : mg "min" = none
  all_worlds : Def K mg "all_worlds" s_all_worlds ["letters"]
  all_propositions : Def K mg "all_propositions" s_all_propositions ["letters"]
  how_many : Def K mg "how_many" s_how_many ["worlds"]
  without : Def K mg "without" s_without ["worlds", "proposition"]
  bearing : Def K mg "bearing" s_bearing ["standing", "proposition"]
  right_answer : Def K mg "right_answer" s_right_answer ["known", "standing", "proposition"]
  standing_behind : Def K mg "standing_behind" s_standing_behind ["known", "standing", "proposition"]
  can_be_made : Def K mg "can_be_made" s_can_be_made ["known", "standing", "wanted", "proposition"]
  all_that : Def K mg "all_that_can_be_made" s_all_that_can_be_made ["letters", "known", "standing", "wanted"]
  shortest_row : Def K mg "shortest_row" s_shortest_row ["letters", "known", "standing", "wanted", "proposition"]
  rows_of_stock : Def K mg "rows_of_stock" s_rows_of_stock ["known", "standing", "stock"]
  fewest_worlds : Def K mg "fewest_worlds" s_fewest_worlds ["standings"]
  changes_something : Def K mg "changes_something" s_changes_something ["known", "standings", "proposition"]

section
variable {P : Program} {w : World} {K : PySem.W.Frag} {mg : Str → Option Value} {base : Heap}

inductive ISpAllWorlds (vs : List V) (H : Hp) (Q : VK) (E : XK) : Prop
  | mk (m : Nat) (h0_ : vs = [.int m]) (h1_ : 1 ≤ m) (h2_ : m ≤ 3) (h3_ : Q (.int (full m : Nat)) H) : ISpAllWorlds vs H Q E
def spAllWorlds : Sp := fun vs H Q E => ISpAllWorlds vs H Q E
theorem cb_all_worlds (T : TxW K mg) : Cb P w K mg base CX0 1 "all_worlds" spAllWorlds := cb_of T.all_worlds fun f fd F => by
  refine F.ok cs_all_worlds (fun vs H Q E h => ?_) (fun cdv A outer s H vs Q E hr h => ?_)
  · obtain ⟨m, rfl, _⟩ := h
    rfl
  · obtain ⟨m, rfl, h1, h3, k⟩ := h
    obtain ⟨a, ha, hT⟩ := T.all
    refine ⟨_, pss_one (ps_ret (pe_ix ix_tup (pe_gr ha) (pv 0) (fun _ _ => rfl))), ?_⟩
    refine ⟨_, rfl, a, _, _, .int (full m : Nat), rfl, rfl, hT _, at_of (j := m) rfl ?_, k⟩
    match m, h1, h3 with
    | 1, _, _ => rfl
    | 2, _, _ => rfl
    | 3, _, _ => rfl

inductive ISpHowMany (vs : List V) (H : Hp) (Q : VK) (E : XK) : Prop
  | mk (b : Nat) (h0_ : vs = [.int b]) (h1_ : b < 256) (h2_ : Q (.int (Mc.pc 8 b : Nat)) H) : ISpHowMany vs H Q E
def spHowMany : Sp := fun vs H Q E => ISpHowMany vs H Q E
theorem cb_how_many (T : TxW K mg) : Cb P w K mg base CX0 1 "how_many" spHowMany := cb_of T.how_many fun f fd F => by
  refine F.ok cs_how_many (fun vs H Q E h => ?_) (fun cdv A outer s H vs Q E hr h => ?_)
  · obtain ⟨b, rfl, _⟩ := h
    rfl
  · obtain ⟨b, rfl, hb, k⟩ := h
    refine ⟨_, pss_cons (ps_set (i := 1) cs_how_many.nd rfl (Or.inl rfl) pe_int)
      (pss_cons (ps_while PassesOwn.never (pt_cmpR op_gt (pv 0) pe_int (nomark _))
        (pss_cons (ps_aug (i := 1) cs_how_many.nd rfl (Or.inl rfl) (pe_op op_and (pv 0) pe_int) ip_add)
        (pss_one (ps_set (i := 0) cs_how_many.nd rfl (Or.inl rfl) (pe_op op_shr (pv 0) pe_int)))))
      (pss_one (ps_ret (pv 1)))), ?_⟩
    refine while_by (fun σ H' => ∃ c n : Nat, σ = [some (.int c), some (.int n)] ∧ H' = H ∧ c < 256 ∧ n + Mc.pc 8 c = Mc.pc 8 b) (fun σ _ => match σ with | some (.int c) :: _ => c.toNat | _ => 0) ⟨b, 0, rfl, rfl, hb, by omega⟩ ?_ ?_
    · rintro σ H' ⟨c, n, rfl, rfl, hc, hn⟩
      refine ⟨_, rfl, _, _, rfl, rfl, _, rfl, ?_⟩
      refine ite2 (fun e => ?_) (fun e => ?_)
      · have e0 : 0 < c := by
          have := of_decide_eq_true e
          omega
        refine ⟨_, rfl, _, rfl, _, _, rfl, rfl, _, _, rfl, rfl, ?_⟩
        refine ⟨_, rfl, _, _, rfl, rfl, (show (0 : Int) ≤ 1 by decide), ?_⟩
        have ea : Builtin.bitAnd (c : Int) 1 = ((c % 2 : Nat) : Int) := by
          have := and_nat c 1
          rw [Nat.and_one_is_mod] at this
          exact this
        have es : (c : Int) / 2 ^ (1 : Int).toNat = ((c / 2 : Nat) : Int) := rfl
        refine ⟨⟨c / 2, n + c % 2, ?_, rfl, by omega, ?_⟩, ?_⟩
        · show [some (V.int ((c : Int) / 2 ^ (1 : Int).toNat)), some (V.int ((n : Int) + Builtin.bitAnd (c : Int) 1))] = _
          rw [es, ea]
          rfl
        · rw [← hn]
          have hb2 : c / 2 < 2 ^ 7 := by omega
          have e1 : Mc.pc 8 c = c % 2 + Mc.pc 7 (c / 2) := rfl
          have e2 : Mc.pc 8 (c / 2) = Mc.pc 7 (c / 2) := Mc.pc_big hb2 (by decide)
          omega
        · show ((c : Int) / 2 ^ (1 : Int).toNat).toNat < (c : Int).toNat
          rw [es]
          exact Nat.div_lt_self e0 (by decide)
      · have e0 : c = 0 := by
          have : ¬ (0 : Int) < (c : Int) := fun z => e (decide_eq_true z)
          omega
        subst e0
        refine ⟨_, rfl, ?_⟩
        rw [Mc.pc_zero] at hn
        have : n = Mc.pc 8 b := by omega
        rw [this]
        exact k
    · rintro σ H' Q1 Q2 hq ⟨v, e, i, j, e1, e2, kk, e3, q⟩
      exact ⟨v, e, i, j, e1, e2, kk, e3, hq _ _ q⟩

inductive ISpWithout (vs : List V) (H : Hp) (Q : VK) (E : XK) : Prop
  | mk (b p : Nat) (h0_ : vs = [.int b, .int p]) (h1_ : Q (.int (wo b p : Nat)) H) : ISpWithout vs H Q E
def spWithout : Sp := fun vs H Q E => ISpWithout vs H Q E
theorem cb_without (T : TxW K mg) : Cb P w K mg base CX0 1 "without" spWithout := cb_of T.without fun f fd F => by
  refine F.ok cs_without (fun vs H Q E h => ?_) (fun cdv A outer s H vs Q E hr h => ?_)
  · obtain ⟨b, p, rfl, _⟩ := h
    rfl
  · obtain ⟨b, p, rfl, k⟩ := h
    refine ⟨_, pss_one (ps_ret (pe_op op_xor (pv 0) (pe_op op_and (pv 0) (pv 1)))), ?_⟩
    refine ⟨_, rfl, _, rfl, _, rfl, _, _, rfl, rfl, _, _, rfl, rfl, ?_⟩
    show Q (.int (Builtin.bitXor (b : Int) ((b &&& p : Nat) : Int))) H
    rw [xor_nat]
    exact k

inductive ISpBearing (vs : List V) (H : Hp) (Q : VK) (E : XK) : Prop
  | mk (b p : Nat) (h0_ : vs = [.int b, .int p]) (h1_ : Q (.int (why b p : Nat)) H) : ISpBearing vs H Q E
def spBearing : Sp := fun vs H Q E => ISpBearing vs H Q E
theorem cb_bearing (T : TxW K mg) : Cb P w K mg base CX0 2 "bearing" spBearing := cb_of T.bearing fun f fd F => by
  refine F.ok cs_bearing (fun vs H Q E h => ?_) (fun cdv A outer s H vs Q E hr h => ?_)
  · obtain ⟨b, p, rfl, _⟩ := h
    rfl
  · obtain ⟨b, p, rfl, k⟩ := h
    refine ⟨_, pss_cons (ps_if (pt_cmpR op_eq (pe_cb (cb_without T) hr pass0 (pa_cons (pv 0) (pa_cons (pv 1) pa_nil))) pe_int (nomark _)) (pss_one (ps_ret (pe_gi T.follows))) pss_nil)
      (pss_cons (ps_if (pt_cmpR op_eq (pe_op op_and (pv 0) (pv 1)) pe_int (nomark _)) (pss_one (ps_ret (pe_gi T.against))) pss_nil)
      (pss_one (ps_ret (pe_gi T.indiff)))), ?_⟩
    rw [Mc.why_eq] at k
    refine ⟨_, rfl, _, rfl, b, p, rfl, rfl, _, rfl, ?_⟩
    refine ite2 (fun e => ?_) (fun e => ?_)
    · have e0 : wo b p = 0 := by
        have := of_decide_eq_true e
        simpa using this
      rw [if_pos e0] at k
      exact k
    · have e0 : ¬ wo b p = 0 := fun z => e (decide_eq_true (by rw [z]; rfl))
      rw [if_neg e0] at k
      refine ⟨_, rfl, _, rfl, _, _, rfl, rfl, rfl, _, rfl, ?_⟩
      refine ite2 (fun e => ?_) (fun e => ?_)
      · have e1 : b &&& p = 0 := by
          have q : V.int ((b &&& p : Nat) : Int) = V.int 0 := of_decide_eq_true e
          simpa using q
        rw [if_pos e1] at k
        exact k
      · have e1 : ¬ b &&& p = 0 := fun z => e (decide_eq_true (by show V.int ((b &&& p : Nat) : Int) = V.int 0; rw [z]; rfl))
        rw [if_neg e1] at k
        exact k
end
end Mp
end

section
set_option Elab.async false
set_option linter.all false
set_option maxRecDepth 100000
set_option maxHeartbeats 2000000
/-! The defs of worlds.py, further on. -/
namespace Mp
open PySem PySem.Spec PyProof.Rows L2
open Krb7 (full both not_ within truth right count worlds why)
open Mc (wo nx canB tell)

theorem di {a b : Int} : decide (V.int a = V.int b) = true ↔ a = b := by
  rw [decide_eq_true_iff]
  exact ⟨fun h => V.int.inj h, fun h => by rw [h]⟩
/-- if a == b of two numbers that are 0 or more -/
theorem iteE {a b : Nat} {A B : Prop} (h1 : a = b → A) (h2 : a ≠ b → B) : if decide (V.int (a : Int) = V.int (b : Int)) = true then A else B := by
  refine ite2 (fun e => h1 ?_) (fun e => h2 fun z => e ?_)
  · have := di.mp e
    omega
  · exact di.mpr (by rw [z])
theorem beqE (a b : Nat) : decide (V.int (a : Int) = V.int (b : Int)) = decide (a = b) := by
  by_cases h : a = b
  · rw [decide_eq_true h]
    exact di.mpr (by rw [h])
  · rw [decide_eq_false h]
    refine decide_eq_false fun z => h ?_
    have := V.int.inj z
    omega
section
variable {P : Program} {w : World} {K : PySem.W.Frag} {mg : Str → Option Value} {base : Heap}

inductive ISpRight (vs : List V) (H : Hp) (Q : VK) (E : XK) : Prop
  | mk (k b p : Nat) (h0_ : vs = [.int k, .int b, .int p]) (h1_ : Q (.int (right k b p : Nat)) H) : ISpRight vs H Q E
def spRight : Sp := fun vs H Q E => ISpRight vs H Q E
theorem cb_right (T : TxW K mg) : Cb P w K mg base CX0 3 "right_answer" spRight := cb_of T.right_answer fun f fd F => by
  refine F.ok cs_right_answer (fun vs H Q E h => ?_) (fun cdv A outer s H vs Q E hr h => ?_)
  · obtain ⟨k, b, p, rfl, _⟩ := h
    rfl
  · obtain ⟨k, b, p, rfl, q⟩ := h
    have nd := cs_right_answer.nd
    refine ⟨_, pss_cons (ps_set (i := 3) nd rfl (Or.inl rfl) (pe_cb (cb_bearing T) hr pass0 (pa_cons (pv 1) (pa_cons (pv 2) pa_nil))))
      (pss_cons (ps_set (i := 4) nd rfl (Or.inl rfl) (pe_ifExp (pt_cmpR op_eq (pv 3) (pe_gi T.indiff) (nomark _)) (pe_cb (cb_bearing T) hr pass0 (pa_cons (pv 0) (pa_cons (pv 2) pa_nil))) (pv 3)))
      (pss_cons (ps_if (pt_cmpR op_eq (pv 4) (pe_gi T.follows) (nomark _)) (pss_one (ps_ret (pe_gi T.conceded))) pss_nil)
      (pss_cons (ps_if (pt_cmpR op_eq (pv 4) (pe_gi T.against) (nomark _)) (pss_one (ps_ret (pe_gi T.denied))) pss_nil)
      (pss_one (ps_ret (pe_gi T.doubted)))))), ?_⟩
    rw [Mc.right_tell] at q
    have fin : ∀ r : Nat, Q (.int (tell r : Nat)) H → tSeq (tIfS (tTest (tOp rEq (tVar 4) (tC (.int 1)))) (tRet (tC (.int 1))) tNext) (tSeq (tIfS (tTest (tOp rEq (tVar 4) (tC (.int 2)))) (tRet (tC (.int 0))) tNext) (tRet (tC (.int 2))))
        { nx := fun _ H' => Q .non H', rt := Q } [some (.int k), some (.int b), some (.int p), some (.int (why b p : Nat)), some (.int (r : Nat))] H := by
      intro r hq
      refine ⟨_, rfl, rfl, _, rfl, ?_⟩
      refine iteE (a := r) (b := 1) (fun e => ?_) (fun e => ?_)
      · subst e
        exact hq
      · refine ⟨_, rfl, rfl, _, rfl, ?_⟩
        refine iteE (a := r) (b := 2) (fun e2 => ?_) (fun e2 => ?_)
        · subst e2
          exact hq
        · have : tell r = 2 := by
            unfold tell
            rw [if_neg e, if_neg e2]
          rw [this] at hq
          exact hq
    refine ⟨_, rfl, _, rfl, b, p, rfl, ?_⟩
    refine ⟨_, rfl, rfl, _, rfl, ?_⟩
    refine iteE (a := why b p) (b := 0) (fun e => ?_) (fun e => ?_)
    · rw [if_pos e] at q
      exact ⟨_, rfl, _, rfl, k, p, rfl, fin (why k p) q⟩
    · rw [if_neg e] at q
      exact ⟨_, rfl, fin (why b p) q⟩

inductive ISpBehind (vs : List V) (H : Hp) (Q : VK) (E : XK) : Prop
  | mk (k b p : Nat) (h0_ : vs = [.int k, .int b, .int p]) (h1_ : Q (.int (nx k b p : Nat)) H) : ISpBehind vs H Q E
def spBehind : Sp := fun vs H Q E => ISpBehind vs H Q E
theorem cb_behind (T : TxW K mg) : Cb P w K mg base CX0 4 "standing_behind" spBehind := cb_of T.standing_behind fun f fd F => by
  refine F.ok cs_standing_behind (fun vs H Q E h => ?_) (fun cdv A outer s H vs Q E hr h => ?_)
  · obtain ⟨k, b, p, rfl, _⟩ := h
    rfl
  · obtain ⟨k, b, p, rfl, q⟩ := h
    have nd := cs_standing_behind.nd
    refine ⟨_, pss_cons (ps_set (i := 3) nd rfl (Or.inl rfl) (pe_cb (cb_right T) hr pass0 (pa_cons (pv 0) (pa_cons (pv 1) (pa_cons (pv 2) pa_nil)))))
      (pss_cons (ps_if (pt_cmpR op_eq (pv 3) (pe_gi T.conceded) (nomark _)) (pss_one (ps_ret (pe_op op_and (pv 1) (pv 2)))) pss_nil)
      (pss_cons (ps_if (pt_cmpR op_eq (pv 3) (pe_gi T.denied) (nomark _)) (pss_one (ps_ret (pe_cb (cb_without T) (hr.mono (by decide)) pass0 (pa_cons (pv 1) (pa_cons (pv 2) pa_nil))))) pss_nil)
      (pss_one (ps_ret (pv 1))))), ?_⟩
    unfold nx at q
    refine ⟨_, rfl, _, rfl, _, rfl, k, b, p, rfl, ?_⟩
    refine ⟨_, rfl, rfl, _, rfl, ?_⟩
    refine iteE (a := right k b p) (b := 1) (fun e => ?_) (fun e => ?_)
    · rw [if_pos e] at q
      exact ⟨_, rfl, _, rfl, _, _, rfl, rfl, q⟩
    · rw [if_neg e] at q
      refine ⟨_, rfl, rfl, _, rfl, ?_⟩
      refine iteE (a := right k b p) (b := 0) (fun e2 => ?_) (fun e2 => ?_)
      · rw [if_pos e2] at q
        exact ⟨_, rfl, _, rfl, b, p, rfl, q⟩
      · rw [if_neg e2] at q
        exact ⟨_, rfl, q⟩

inductive ISpCan (vs : List V) (H : Hp) (Q : VK) (E : XK) : Prop
  | mk (k b a p : Nat) (h0_ : vs = [.int k, .int b, .int a, .int p]) (h1_ : a ≤ 2) (h2_ : Q (.bl (canB k b a p)) H) : ISpCan vs H Q E
def spCan : Sp := fun vs H Q E => ISpCan vs H Q E
theorem cb_can (T : TxW K mg) : Cb P w K mg base CX0 4 "can_be_made" spCan := cb_of T.can_be_made fun f fd F => by
  refine F.ok cs_can_be_made (fun vs H Q E h => ?_) (fun cdv A outer s H vs Q E hr h => ?_)
  · obtain ⟨k, b, a, p, rfl, _⟩ := h
    rfl
  · obtain ⟨k, b, a, p, rfl, ha, q⟩ := h
    have nd := cs_can_be_made.nd
    refine ⟨_, pss_cons (ps_set (i := 4) nd rfl (Or.inl rfl) (pe_op op_and (pv 1) (pv 0)))
      (pss_cons (ps_if (pt_cmpR op_eq (pv 2) (pe_gi T.conceded) (nomark _)) (pss_one (ps_ret
          (pe_and (pe_cmpR op_ne (pe_op op_and (pv 1) (pv 3)) pe_int (nomark _)) (pe_one (pe_cmpR op_eq (pe_cb (cb_without T) (hr.mono (by decide)) pass0 (pa_cons (pv 4) (pa_cons (pv 3) pa_nil))) pe_int (nomark _)))))) pss_nil)
      (pss_cons (ps_if (pt_cmpR op_eq (pv 2) (pe_gi T.denied) (nomark _)) (pss_one (ps_ret
          (pe_and (pe_cmpR op_ne (pe_cb (cb_without T) (hr.mono (by decide)) pass0 (pa_cons (pv 1) (pa_cons (pv 3) pa_nil))) pe_int (nomark _)) (pe_one (pe_cmpR op_eq (pe_op op_and (pv 4) (pv 3)) pe_int (nomark _)))))) pss_nil)
      (pss_one (ps_ret (pe_cmpR op_eq (pe_cb (cb_right T) hr pass0 (pa_cons (pv 0) (pa_cons (pv 1) (pa_cons (pv 3) pa_nil)))) (pe_gi T.doubted) (nomark _)))))), ?_⟩
    unfold canB at q
    refine ⟨_, rfl, _, rfl, _, _, rfl, rfl, ?_⟩
    refine ⟨_, rfl, rfl, _, rfl, ?_⟩
    refine iteE (a := a) (b := 1) (fun e => ?_) (fun e => ?_)
    · rw [if_pos e] at q
      refine ⟨_, rfl, _, rfl, _, _, rfl, rfl, rfl, _, rfl, ?_⟩
      have e1 : (!decide (V.int ((b &&& p : Nat) : Int) = V.int ((0 : Nat) : Int))) = decide (b &&& p ≠ 0) := by
        rw [beqE]
        by_cases z : b &&& p = 0 <;> simp [z]
      show if (!decide (V.int ((b &&& p : Nat) : Int) = V.int ((0 : Nat) : Int))) = true then _ else _
      rw [e1]
      refine ite2 (fun z => ?_) (fun z => ?_)
      · refine ⟨_, rfl, _, rfl, (b &&& k), p, rfl, rfl, ?_⟩
        show Q (.bl (decide (V.int ((wo (b &&& k) p : Nat) : Int) = V.int ((0 : Nat) : Int)))) H
        rw [beqE]
        rw [z] at q
        exact q
      · have z' : decide (b &&& p ≠ 0) = false := by simpa using z
        rw [z'] at q
        exact q
    · rw [if_neg e] at q
      refine ⟨_, rfl, rfl, _, rfl, ?_⟩
      refine iteE (a := a) (b := 0) (fun e2 => ?_) (fun e2 => ?_)
      · rw [if_pos e2] at q
        refine ⟨_, rfl, _, rfl, b, p, rfl, rfl, _, rfl, ?_⟩
        have e1 : (!decide (V.int ((wo b p : Nat) : Int) = V.int ((0 : Nat) : Int))) = decide (wo b p ≠ 0) := by
          rw [beqE]
          by_cases z : wo b p = 0 <;> simp [z]
        show if (!decide (V.int ((wo b p : Nat) : Int) = V.int ((0 : Nat) : Int))) = true then _ else _
        rw [e1]
        refine ite2 (fun z => ?_) (fun z => ?_)
        · refine ⟨_, rfl, _, rfl, _, _, rfl, rfl, rfl, ?_⟩
          show Q (.bl (decide (V.int (((b &&& k) &&& p : Nat) : Int) = V.int ((0 : Nat) : Int)))) H
          rw [beqE]
          rw [z] at q
          exact q
        · have z' : decide (wo b p ≠ 0) = false := by simpa using z
          rw [z'] at q
          exact q
      · rw [if_neg e2] at q
        refine ⟨_, rfl, _, rfl, _, rfl, k, b, p, rfl, rfl, ?_⟩
        show Q (.bl (decide (V.int ((right k b p : Nat) : Int) = V.int ((2 : Nat) : Int)))) H
        rw [beqE]
        exact q
end
end Mp
end

section
set_option Elab.async false
set_option linter.all false
set_option maxRecDepth 100000
set_option maxHeartbeats 2000000
/-! The defs of worlds.py that go through all propositions. -/
namespace Mp
open PySem PySem.Spec PyProof.Rows L2
open Krb7 (full both not_ within truth right count worlds why)
open Mc (wo nx canB tell)

theorem bl_list : bootBuiltins "list" = some (.type "list") := by decide +kernel
/-- numbers as values -/
def nV (l : List Nat) : List V := l.map fun (n : Nat) => V.int (n : Int)
theorem nV_len (l : List Nat) : (nV l).length = l.length := List.length_map _
theorem nV_at {l : List Nat} {i : Nat} {y : V} (h : (nV l)[i]? = some y) : ∃ n, l[i]? = some n ∧ y = V.int (n : Int) := by
  unfold nV at h
  rw [List.getElem?_map] at h
  cases e : l[i]? with
  | none =>
    rw [e] at h
    cases h
  | some n =>
    rw [e] at h
    exact ⟨n, rfl, (Option.some.inj h).symm⟩
theorem nV_app (l r : List Nat) : nV (l ++ r) = nV l ++ nV r := List.map_append
theorem range_at {n i m : Nat} (h : (List.range n)[i]? = some m) : m = i ∧ i < n := by
  by_cases hi : i < n
  · rw [List.getElem?_range hi] at h
    exact ⟨(Option.some.inj h).symm, hi⟩
  · rw [List.getElem?_eq_none (by rw [List.length_range]; omega)] at h
    cases h
theorem line1000 {n : Nat} (h : n ≤ 1000) : n < sizeLine := small1000 h
theorem same_upd {H H' : Hp} {l : Addr} {o : HO} (s : Same H H') (hl : H' l = none) : Same H (upd H' l o) := fun b u e => by
  rw [upd_ne (ne_of_none (s b u e) hl)]
  exact s b u e
/-- a new list of numbers is handed back, all else is as it was -/
def NewL (H : Hp) (Q : VK) (l : List Nat) : Prop := ∀ (H' : Hp) (p : Addr), Same H H' → H p = none → H' p = some (.lst (nV l)) → Q (.ref p) H'
section
variable {P : Program} {w : World} {K : PySem.W.Frag} {mg : Str → Option Value} {base : Heap}

inductive ISpProps (vs : List V) (H : Hp) (Q : VK) (E : XK) : Prop
  | mk (m : Nat) (h0_ : vs = [.int m]) (h1_ : 1 ≤ m) (h2_ : m ≤ 3) (h3_ : NewL H Q (List.range (full m + 1))) : ISpProps vs H Q E
def spProps : Sp := fun vs H Q E => ISpProps vs H Q E
theorem cb_props (T : TxW K mg) : Cb P w K mg base CX0 2 "all_propositions" spProps := cb_of T.all_propositions fun f fd F => by
  refine F.ok cs_all_propositions (fun vs H Q E h => ?_) (fun cdv A outer s H vs Q E hr h => ?_)
  · obtain ⟨m, rfl, _⟩ := h
    rfl
  · obtain ⟨m, rfl, h1, h3, k⟩ := h
    refine ⟨_, pss_one (ps_ret (pe_callTy (cr_list_rng rfl) rfl T.list bl_list (pa_cons (pe_callTy cr_range1 rfl T.range boot_range
      (pa_cons (pe_op op_add (pe_cb (cb_all_worlds T) hr pass0 (pa_cons (pv 0) pa_nil)) pe_int) pa_nil)) pa_nil))), ?_⟩
    refine ⟨_, rfl, m, rfl, h1, h3, _, _, rfl, rfl, _, rfl, fun p hp => ?_⟩
    have hf := Mc.full_le h3
    refine ⟨p, full m + 1, rfl, upd_same, by omega, fun l hl => ?_⟩
    have hpl : H l = none := by
      by_cases e : l = p
      · rw [e]
        exact hp
      · rw [upd_ne e] at hl
        exact hl
    exact k _ l (same_upd (same_upd (Same.refl H) hp) hl) hpl upd_same

inductive ISpAll (vs : List V) (H : Hp) (Q : VK) (E : XK) : Prop
  | mk (m k b a : Nat) (h0_ : vs = [.int m, .int k, .int b, .int a]) (h1_ : 1 ≤ m) (h2_ : m ≤ 3) (h3_ : a ≤ 2) (h4_ : NewL H Q ((List.range (full m + 1)).filter fun t => canB k b a t)) : ISpAll vs H Q E
def spAll : Sp := fun vs H Q E => ISpAll vs H Q E
theorem cb_all (T : TxW K mg) : Cb P w K mg base CX0 5 "all_that_can_be_made" spAll := cb_of T.all_that fun f fd F => by
  refine F.ok cs_all_that_can_be_made (fun vs H Q E h => ?_) (fun cdv A outer s H vs Q E hr h => ?_)
  · obtain ⟨m, k, b, a, rfl, _⟩ := h
    rfl
  · obtain ⟨m, k, b, a, rfl, h1, h3, ha, q⟩ := h
    have nd := cs_all_that_can_be_made.nd
    refine ⟨_, pss_cons (ps_set (i := 4) nd rfl (Or.inl rfl) (pe_cb (cb_props T) (hr.mono (by decide)) pass0 (pa_cons (pv 0) pa_nil)))
      (pss_one (ps_ret (pe_lc (own := [("proposition", 5)]) rfl nd (pi_list (pv 4)) (blkOk_by (N := ["letters", "known", "standing", "wanted", "every", "proposition"]) (sc := defScope s_all_that_can_be_made) (by decide +kernel)) (fun _ _ _ _ _ => pg_name (i := 5) nd rfl (Or.inl rfl))
        (fun _ _ _ _ _ => pts_one (pt_val (pe_cb (cb_can T) (hr.mono (by decide)) pass0 (pa_cons (pv 1) (pa_cons (pv 2) (pa_cons (pv 3) (pa_cons (pv 5) pa_nil)))))))
        (fun _ _ _ _ _ => pv 5)))), ?_⟩
    refine ⟨_, rfl, m, rfl, h1, h3, fun H1 e s1 fe he => ?_⟩
    refine ⟨_, rfl, e, rfl, ⟨_, SqL.of he⟩, fun D hD => ?_⟩
    have hDe : D ≠ e := fun z => by
      rw [z, he] at hD
      cases hD
    refine lc_list (K := K) (a := e) (xs := nV (List.range (full m + 1))) (fun i H2 => H2 D = some (.lst (nV (((List.range (full m + 1)).take i).filter fun t => canB k b a t))) ∧ Same H1 H2) ⟨upd_same, same_upd (Same.refl H1) hD⟩
      (fun i H2 _ hh => SqL.of (hh.2 _ _ he)) ?_ ?_
    · rintro i x H2 hx ⟨hd, s2⟩
      obtain ⟨n, hn, rfl⟩ := nV_at hx
      obtain ⟨rfl, hi⟩ := range_at hn
      refine ⟨rfl, ?_⟩
      refine ⟨_, rfl, _, rfl, _, rfl, _, rfl, k, b, a, n, rfl, ha, _, rfl, ?_⟩
      have tk : (List.range (full m + 1)).take (n + 1) = (List.range (full m + 1)).take n ++ [n] := by
        rw [List.take_succ, List.getElem?_range hi]
        rfl
      refine ite2 (fun z => ?_) (fun z => ?_)
      · refine ⟨_, rfl, _, hd, ?_, ?_⟩
        · rw [nV_len]
          refine line1000 ?_
          have l1 := List.length_filter_le (fun t => canB k b a t) ((List.range (full m + 1)).take n)
          have l2 := List.length_take_le n (List.range (full m + 1))
          have := Mc.full_le h3
          omega
        · refine ⟨?_, fun c o hc => ?_⟩
          · rw [upd_same, tk, List.filter_append, List.filter_cons, if_pos z, List.filter_nil, nV_app]
            rfl
          · rw [upd_ne (ne_of_none hc hD)]
            exact s2 c o hc
      · refine ⟨?_, s2⟩
        rw [hd, tk, List.filter_append, List.filter_cons, if_neg z, List.filter_nil, List.append_nil]
    · rintro H2 ⟨hd, s2⟩
      rw [nV_len, List.take_length] at hd
      refine q H2 D (s1.trans s2) (s1.free hD) hd

/-- the row that the loop finds -/
def rowL (m k b a t : Nat) : List Nat := if right k b t = a then [t] else match (List.range (full m + 1)).find? (fun p => right k (nx k b p) t == a) with
  | some p => [p, t]
  | none => []
theorem find_some {n i : Nat} {f : Nat → Bool} (hi : i < n) (h : f i = true) (hn : ∀ j, j < i → f j = false) : (List.range n).find? f = some i := by
  rw [List.find?_eq_some_iff_getElem]
  refine ⟨h, i, by rw [List.length_range]; exact hi, List.getElem_range _, fun j hj => ?_⟩
  rw [List.getElem_range, hn j hj]
  rfl
theorem find_none {n : Nat} {f : Nat → Bool} (hn : ∀ j, j < n → f j = false) : (List.range n).find? f = none := by
  rw [List.find?_eq_none]
  intro x hx
  rw [hn x (List.mem_range.mp hx)]
  decide
inductive ISpRow (vs : List V) (H : Hp) (Q : VK) (E : XK) : Prop
  | mk (m k b a t : Nat) (h0_ : vs = [.int m, .int k, .int b, .int a, .int t]) (h1_ : 1 ≤ m) (h2_ : m ≤ 3) (h3_ : NewL H Q (rowL m k b a t)) : ISpRow vs H Q E
def spRow : Sp := fun vs H Q E => ISpRow vs H Q E
theorem cb_row (T : TxW K mg) : Cb P w K mg base CX0 5 "shortest_row" spRow := cb_of T.shortest_row fun f fd F => by
  refine F.ok cs_shortest_row (fun vs H Q E h => ?_) (fun cdv A outer s H vs Q E hr h => ?_)
  · obtain ⟨m, k, b, a, t, rfl, _⟩ := h
    rfl
  · obtain ⟨m, k, b, a, t, rfl, h1, h3, q⟩ := h
    have nd := cs_shortest_row.nd
    refine ⟨_, pss_cons (ps_if (pt_cmpR op_eq (pe_cb (cb_right T) (hr.mono (by decide)) pass0 (pa_cons (pv 1) (pa_cons (pv 2) (pa_cons (pv 4) pa_nil)))) (pv 3) (nomark _)) (pss_one (ps_ret (pe_lst (pa_cons (pv 4) pa_nil)))) pss_nil)
      (pss_cons (ps_for PassesOwn.never rfl (pi_list (pe_cb (cb_props T) (hr.mono (by decide)) pass0 (pa_cons (pv 0) pa_nil))) (pg_name (i := 5) nd rfl (Or.inl rfl))
        (pss_cons (ps_set (i := 6) nd rfl (Or.inl rfl) (pe_cb (cb_behind T) hr pass0 (pa_cons (pv 1) (pa_cons (pv 2) (pa_cons (pv 5) pa_nil)))))
        (pss_one (ps_if (pt_cmpR op_eq (pe_cb (cb_right T) (hr.mono (by decide)) pass0 (pa_cons (pv 1) (pa_cons (pv 6) (pa_cons (pv 4) pa_nil)))) (pv 3) (nomark _)) (pss_one (ps_ret (pe_lst (pa_cons (pv 5) (pa_cons (pv 4) pa_nil))))) pss_nil))))
      (pss_one (ps_ret (pe_lst pa_nil)))), ?_⟩
    refine ⟨_, rfl, _, rfl, _, rfl, k, b, t, rfl, _, rfl, rfl, _, rfl, ?_⟩
    unfold rowL at q
    refine iteE (a := right k b t) (b := a) (fun e => ?_) (fun e => ?_)
    · rw [if_pos e] at q
      refine ⟨_, rfl, (by show 1 ≤ sizeLine; decide), fun l hl => ?_⟩
      exact q _ l (same_upd (Same.refl H) hl) hl upd_same
    · rw [if_neg e] at q
      refine ⟨_, rfl, m, rfl, h1, h3, fun H1 l s1 fl hl => ?_⟩
      refine ⟨l, rfl, ⟨_, SqL.of hl⟩, for_list (K := K) (a := l) (xs := nV (List.range (full m + 1)))
        (fun i σ H2 => ∃ v5 v6 : Option V, σ = [some (.int m), some (.int k), some (.int b), some (.int a), some (.int t), v5, v6] ∧ H2 = H1 ∧ ∀ j, j < i → (right k (nx k b j) t == a) = false)
        ⟨none, none, rfl, rfl, fun j hj => absurd hj (by omega)⟩ (fun i σ H2 _ ⟨_, _, _, e2, _⟩ => by rw [e2]; exact SqL.of hl) ?_ ?_⟩
      · rintro i x σ H2 hx ⟨v5, v6, rfl, rfl, hn⟩
        obtain ⟨n, hn1, rfl⟩ := nV_at hx
        obtain ⟨rfl, hi⟩ := range_at hn1
        refine ⟨_, rfl, _, rfl, _, rfl, k, b, n, rfl, ?_⟩
        refine ⟨_, rfl, _, rfl, _, rfl, k, nx k b n, t, rfl, _, rfl, rfl, _, rfl, ?_⟩
        refine iteE (a := right k (nx k b n) t) (b := a) (fun e2 => ?_) (fun e2 => ?_)
        · rw [find_some (f := fun p => right k (nx k b p) t == a) hi (beq_iff_eq.mpr e2) hn] at q
          refine ⟨_, rfl, _, rfl, (by show 2 ≤ sizeLine; decide), fun p hp => ?_⟩
          exact q _ p (same_upd s1 hp) (s1.free hp) upd_same
        · refine ⟨_, _, rfl, rfl, fun j hj => ?_⟩
          by_cases z : j = n
          · rw [z]
            exact beq_eq_false_iff_ne.mpr e2
          · exact hn j (by omega)
      · rintro σ H2 ⟨v5, v6, rfl, rfl, hn⟩
        rw [nV_len, List.length_range] at hn
        rw [find_none (f := fun p => right k (nx k b p) t == a) hn] at q
        refine ⟨Nat.zero_le _, fun p hp => ?_⟩
        exact q _ p (same_upd s1 hp) (s1.free hp) upd_same
end
end Mp
end

section
set_option Elab.async false
set_option linter.all false
set_option maxRecDepth 100000
set_option maxHeartbeats 4000000
/-! The defs of worlds.py that walk rows of the stock. -/
namespace Mp
open PySem PySem.Spec PyProof.Rows L2
open Krb7 (full both not_ within truth right count worlds why)
open Krc9 (House)
open Mc (wo nx canB tell Fit Bf Fo)

theorem upd_back {H : Hp} {d : Addr} {u x : HO} (h : H d = some u) : upd (upd H d x) d u = H := by
  funext b
  unfold upd
  by_cases e : b = d
  · rw [if_pos e, e, h]
  · rw [if_neg e, if_neg e]
theorem same_over {H H' : Hp} {d : Addr} {o : HO} (s : Same H H') (hd : H d = none) : Same H (upd H' d o) := fun b u e => by
  rw [upd_ne (ne_of_none e hd)]
  exact s b u e
theorem upd_none {H : Hp} {d q : Addr} {o : HO} (h : upd H d o q = none) : q ≠ d ∧ H q = none := by
  by_cases e : q = d
  · rw [e, upd_same] at h
    cases h
  · rw [upd_ne e] at h
    exact ⟨e, h⟩
/-- the rows as they stand in the heap: each set with its row's list, none of which is the one at w -/
def RwP (H : Hp) (w : Addr) (kv : Key × V) (e : Nat × List Nat) : Prop := kv.1 = Sum.inl (e.1 : Int) ∧ ∃ a, kv.2 = V.ref a ∧ a ≠ w ∧ H a = some (.lst (nV e.2))
def Rw (H : Hp) (w : Addr) (kvs : List (Key × V)) (es : List (Nat × List Nat)) : Prop := PySem.Paired (RwP H w) kvs es
section
variable {H H' : Hp} {w : Addr} {kvs : List (Key × V)} {es : List (Nat × List Nat)}
theorem Rw.move (r : Rw H w kvs es) (k : ∀ a xs, a ≠ w → H a = some (.lst xs) → H' a = some (.lst xs)) : Rw H' w kvs es := by
  unfold Rw at r ⊢
  induction r with
  | nil => exact .nil
  | cons h t ih =>
    obtain ⟨h1, a, h2, h3, h4⟩ := h
    exact .cons ⟨h1, a, h2, h3, k a _ h3 h4⟩ ih
theorem Rw.keys (r : Rw H w kvs es) : kvs.map (·.1) = (es.map fun e => ((e.1 : Nat) : Int)).map Sum.inl := by
  unfold Rw at r
  induction r with
  | nil => rfl
  | cons h t ih => rw [List.map_cons, List.map_cons, List.map_cons, ih, h.1]
theorem Rw.len (r : Rw H w kvs es) : kvs.length = es.length := by
  have := congrArg List.length r.keys
  rw [List.length_map, List.length_map, List.length_map] at this
  exact this
theorem Rw.at (r : Rw H w kvs es) {i : Nat} {k : Key} {v : V} (h : kvs[i]? = some (k, v)) : ∃ e, es[i]? = some e ∧ k = Sum.inl (e.1 : Int) ∧ ∃ a, v = V.ref a ∧ H a = some (.lst (nV e.2)) := by
  obtain ⟨e, h1, h2, a, h3, _, h4⟩ := paired_get r h
  exact ⟨e, h1, h2, a, h3, h4⟩
theorem inl_nat {x y : Nat} : (Sum.inl (x : Int) : Key) = Sum.inl (y : Int) ↔ x = y := by
  constructor
  · intro h
    have := Sum.inl.inj h
    omega
  · intro h
    rw [h]
theorem Rw.val (r : Rw H w kvs es) (nd : (es.map (·.1)).Nodup) {e : Nat × List Nat} (he : e ∈ es) : ∃ a, valV kvs (Sum.inl (e.1 : Int)) = some (V.ref a) ∧ a ≠ w ∧ H a = some (.lst (nV e.2)) := by
  unfold Rw at r
  induction r with
  | nil => exact absurd he (by simp)
  | @cons p y ps ys h t ih =>
    have nd' : (y.1 :: ys.map (·.1)).Nodup := nd
    obtain ⟨n1, n2⟩ := List.nodup_cons.mp nd'
    obtain ⟨h1, a, h2, h3, h4⟩ := h
    rcases List.mem_cons.mp he with e1 | e1
    · subst e1
      exact ⟨a, by rw [valV_pos h1, h2], h3, h4⟩
    · have ne : ¬ p.1 = Sum.inl (e.1 : Int) := fun z => by
        rw [h1] at z
        have := inl_nat.mp z
        exact n1 (by rw [this]; exact List.mem_map.mpr ⟨e, e1, rfl⟩)
      rw [valV_neg ne]
      exact ih n2 e1
theorem Rw.non (r : Rw H w kvs es) {x : Nat} (hx : ¬ x ∈ es.map (·.1)) : valV kvs (Sum.inl (x : Int)) = none := by
  unfold Rw at r
  induction r with
  | nil => rfl
  | @cons p y ps ys h t ih =>
    have hx' : ¬ (x = y.1 ∨ x ∈ ys.map (·.1)) := fun z => hx (List.mem_cons.mpr z)
    have ne : ¬ p.1 = Sum.inl (x : Int) := fun z => by
      rw [h.1] at z
      exact hx' (.inl (inl_nat.mp z).symm)
    rw [valV_neg ne]
    exact ih fun z => hx' (.inr z)
theorem Rw.snoc (r : Rw H w kvs es) {x : Nat} {row : List Nat} {a : Addr} (h1 : a ≠ w) (h2 : H a = some (.lst (nV row))) : Rw H w (kvs ++ [(Sum.inl (x : Int), V.ref a)]) (es ++ [(x, row)]) := PySem.Paired.snoc r ⟨rfl, a, rfl, h1, h2⟩
end
/-- a new dict of all rows is handed back, all else is as it was -/
def NewD (h : House) (H : Hp) (Q : VK) : Prop := ∀ (H' : Hp) (p w : Addr) (kvs : List (Key × V)) (es : List (Nat × List Nat)), Same H H' → H p = none → H' p = some (.dK kvs) → Rw H' w kvs es → Fo h es → Q (.ref p) H'
/-- the words of the outer and of the inner walk -/
def RowsW (H : Hp) (h : House) (l d wt : Addr) (σ : L2.St) (H2 : Hp) : Prop := ∃ (a : Nat) (es : List (Nat × List Nat)) (kvs : List (Key × V)) (v6 v7 v8 : Option V), σ = [some (.int h.known), some (.int h.stands), some (.ref l), some (.ref d), some (.ref wt), some (.int (a : Int)), v6, v7, v8] ∧ Same H H2 ∧
  H2 d = some (.dK kvs) ∧ H2 wt = some (.lst (nV (es.map (·.1)))) ∧ Rw H2 wt kvs es ∧ Bf h.known h.stock h.stands es a 0 ∧ a ≤ es.length
def rowsMu (σ : L2.St) (_ : Hp) : Nat := match σ with | [_, _, _, _, _, some (.int a), _, _, _] => 257 - a.toNat | _ => 0
def RowsF (H : Hp) (h : House) (l d wt : Addr) (a : Nat) (e : Nat × List Nat) (i : Nat) (σ : L2.St) (H3 : Hp) : Prop := ∃ (es : List (Nat × List Nat)) (kvs : List (Key × V)) (v7 v8 : Option V), σ = [some (.int h.known), some (.int h.stands), some (.ref l), some (.ref d), some (.ref wt), some (.int (a : Int)), some (.int (e.1 : Nat)), v7, v8] ∧ Same H H3 ∧
  H3 d = some (.dK kvs) ∧ H3 wt = some (.lst (nV (es.map (·.1)))) ∧ Rw H3 wt kvs es ∧ Bf h.known h.stock h.stands es a i ∧ es[a]? = some e
def ChgI (k p : Nat) (d : Addr) (H0 : Hp) (es : List (Nat × List Nat)) (i : Nat) (σ : L2.St) (H2 : Hp) : Prop := ∃ v3 : Option V, σ = [some (.int k), some (.ref d), some (.int p), v3] ∧ H2 = H0 ∧ ∀ (j : Nat) (e : Nat × List Nat), j < i → es[j]? = some e → nx k e.1 p = e.1
section
variable {P : Program} {w : World} {K : PySem.W.Frag} {mg : Str → Option Value} {base : Heap}

inductive ISpRows (vs : List V) (H : Hp) (Q : VK) (E : XK) : Prop
  | mk (l : Addr) (h : House) (h0_ : vs = [.int h.known, .int h.stands, .ref l]) (h1_ : H l = some (.lst (nV h.stock))) (h2_ : Fit h) (h3_ : NewD h H Q) : ISpRows vs H Q E
def spRows : Sp := fun vs H Q E => ISpRows vs H Q E
theorem cb_rows (T : TxW K mg) : Cb P w K mg base CX0 5 "rows_of_stock" spRows := cb_of T.rows_of_stock fun f fd F => by
  refine F.ok cs_rows_of_stock (fun vs H Q E h => ?_) (fun cdv A outer s H vs Q E hr h => ?_)
  · obtain ⟨l, h, rfl, _⟩ := h
    rfl
  · obtain ⟨l, h, rfl, hl, Fh, k⟩ := h
    have nd := cs_rows_of_stock.nd
    have hu := hu_of hr
    refine ⟨_, pss_cons (ps_set (i := 3) nd rfl (Or.inl rfl) (pe_disp (pps_cons (pv 1) (pe_lst pa_nil) pps_nil) (by rfl) (by rfl) (by simp) (by decide)))
      (pss_cons (ps_set (i := 4) nd rfl (Or.inl rfl) (pe_lst (pa_cons (pv 1) pa_nil)))
      (pss_cons (ps_set (i := 5) nd rfl (Or.inl rfl) pe_int)
      (pss_cons (ps_while PassesOwn.never (pt_cmpR op_lt (pv 5) (pe_callB call_len_seq (by rfl) T.len PySem.boot_len (pa_cons (pv 4) pa_nil)) (nomark _))
        (pss_cons (ps_set (i := 6) nd rfl (Or.inl rfl) (pe_ix ix_list (pv 4) (pv 5) (fun _ _ => rfl)))
        (pss_cons (ps_for PassesOwn.never rfl (pi_range1 rfl T.range (pa_cons (pe_callB call_len_seq (by rfl) T.len PySem.boot_len (pa_cons (pv 2) pa_nil)) pa_nil)) (pg_name (i := 7) nd rfl (Or.inl rfl))
          (pss_cons (ps_set (i := 8) nd rfl (Or.inl rfl) (pe_cb (cb_behind T) hr pass0 (pa_cons (pv 0) (pa_cons (pv 6) (pa_cons (pe_ix ix_list (pv 2) (pv 7) (fun _ _ => rfl)) pa_nil)))))
          (pss_one (ps_if (pt_cmp (pc_dnotin hu (pv 8) (pv 3)))
            (pss_cons (ps_dput hu (pv 3) (pv 8) (pe_op op_cat (pe_dget hu (pv 3) (pv 6) (fun _ _ => rfl)) (pe_lst (pa_cons (pv 7) pa_nil))) rfl)
            (pss_one (ps_expr (pe_bm PySem.F.plainAttrs_list PySem.F.slot_list_append PySem.F.type_list_append mt_append (pv 4) (pa_cons (pv 8) pa_nil))))) pss_nil))))
        (pss_one (ps_aug (i := 5) nd rfl (Or.inl rfl) pe_int ip_add)))))
      (pss_one (ps_ret (pv 3)))))), ?_⟩
    intro d hd
    refine ⟨_, rfl, Nat.zero_le _, fun r hr0 => ?_⟩
    obtain ⟨rd, hr1⟩ := upd_none hr0
    refine ⟨by rw [upd_ne rd.symm, upd_same], [(Sum.inl (h.stands : Int), .ref r)], rfl, (by show 1 ≤ 15; decide), ?_⟩
    refine ⟨_, rfl, (by show 1 ≤ sizeLine; decide), fun wt hw => ?_⟩
    obtain ⟨wd, hw1⟩ := upd_none hw
    obtain ⟨wr, hw2⟩ := upd_none hw1
    obtain ⟨_, hw3⟩ := upd_none hw2
    refine while_by (RowsW H h l d wt) rowsMu ?_ ?_ ?_
    · refine ⟨0, [(h.stands, [])], [(Sum.inl (h.stands : Int), .ref r)], none, none, none, rfl, ?_, ?_, ?_, ?_, Bf.start _ _ _, Nat.zero_le _⟩
      · exact same_over (same_over (same_over (same_over (Same.refl H) hd) hr1) hd) hw3
      · rw [upd_ne wd.symm, upd_same]
        rfl
      · rw [upd_same]
        rfl
      · refine .cons ⟨rfl, r, rfl, wr.symm, ?_⟩ .nil
        rw [upd_ne wr.symm, upd_ne rd, upd_same]
        rfl
    · rintro σ H2 ⟨a, es, kvs, v6, v7, v8, rfl, sH, hdd, hww, RW, B, ha⟩
      refine ⟨_, rfl, _, rfl, wt, _, rfl, .inl (SqL.of hww), _, _, rfl, rfl, _, rfl, ?_⟩
      rw [nV_len, List.length_map]
      refine ite2 (fun z => ?_) (fun z => ?_)
      · have hlt : a < es.length := by
          have := of_decide_eq_true z
          omega
        have hea : es[a]? = some es[a] := List.getElem?_eq_getElem hlt
        generalize es[a] = e at hea
        have hfew := B.few Fh
        refine ⟨_, rfl, _, rfl, wt, _, _, .int (e.1 : Nat), rfl, rfl, SqL.of hww, at_of (j := a) rfl (by unfold nV; rw [List.getElem?_map, List.getElem?_map, hea]; rfl), ?_⟩
        refine ⟨_, rfl, l, _, rfl, .inl (SqL.of (sH _ _ hl)), _, rfl, ?_, ?_, for_range (lo := 0) (n := (((nV h.stock).length : Nat) : Int).toNat)
          (RowsF H h l d wt a e)
          ⟨es, kvs, v7, v8, rfl, sH, hdd, hww, RW, B, hea⟩ ?_ ?_⟩
        · have := Fh.sl
          rw [nV_len]
          omega
        · have := Fh.sl
          rw [nV_len]
          omega
        · rintro i σ H3 hi ⟨es3, kvs3, v7, v8, rfl, sH3, hd3, hw3', R3, B3, he3⟩
          rw [nV_len, Int.toNat_natCast] at hi
          rw [Int.zero_add]
          have hgi : h.stock[i]? = some (h.stock.getD i 0) := by
            rw [List.getD_eq_getElem?_getD, List.getElem?_eq_getElem hi]
            rfl
          refine ⟨_, rfl, _, rfl, _, rfl, _, rfl, l, _, _, .int (h.stock.getD i 0 : Nat), rfl, rfl, SqL.of (sH3 _ _ hl), at_of (j := i) rfl (by unfold nV; rw [List.getElem?_map, hgi]; rfl), h.known, e.1, h.stock.getD i 0, rfl, ?_⟩
          have hme : e ∈ es3 := List.mem_of_getElem? he3
          have hfew3 := B3.few Fh
          refine ⟨_, rfl, _, rfl, d, _, rfl, DGet.k (k := Sum.inl ((nx h.known e.1 (h.stock.getD i 0) : Nat) : Int)) hd3, _, rfl, ?_⟩
          by_cases hin : nx h.known e.1 (h.stock.getD i 0) ∈ es3.map (·.1)
          · obtain ⟨g, hg, eg⟩ := List.mem_map.mp hin
            obtain ⟨r', hv, _⟩ := R3.val B3.nd hg
            rw [eg] at hv
            rw [hv]
            exact iteF ⟨es3, kvs3, _, _, rfl, sH3, hd3, hw3', R3, B3.old he3 hin, he3⟩
          · have hv := R3.non hin
            rw [hv]
            refine iteT ?_
            obtain ⟨r', hv2, rw', hr'⟩ := R3.val B3.nd hme
            refine ⟨_, rfl, _, rfl, d, .ref r', rfl, .inl ⟨kvs3, Sum.inl (e.1 : Int), .inl hd3, rfl, hv2.symm⟩, _, rfl, (by show 1 ≤ sizeLine; decide), fun q hq => ?_⟩
            have hrq : r' ≠ q := ne_of_none hr' hq
            have hrow : e.2.length ≤ 256 := by
              have := B3.len a e he3
              have := (List.getElem?_eq_some_iff.mp he3).1
              omega
            refine ⟨r', q, _, _, rfl, rfl, (by rw [upd_ne hrq]; exact hr'), upd_same, ?_, fun u hu' => ?_⟩
            · refine Nat.le_of_lt (line1000 ?_)
              rw [nV_len]
              show e.2.length + 1 ≤ 1000
              omega
            · obtain ⟨uq, hu3⟩ := upd_none hu'
              have dq : d ≠ q := ne_of_none hd3 hq
              have du : d ≠ u := ne_of_none hd3 hu3
              have wq : wt ≠ q := ne_of_none hw3' hq
              have wu : wt ≠ u := ne_of_none hw3' hu3
              have wd' : wt ≠ d := ne_of hw3' hd3 (by intro y; cases y)
              have hlk := R3.len
              refine ⟨_, rfl, _, rfl, d, _, rfl, DPut.k (k := Sum.inl ((nx h.known e.1 (h.stock.getD i 0) : Nat) : Int)) (kvs := kvs3) (by rw [upd_ne du, upd_ne dq]; exact hd3) (line1000 (by omega)), ?_⟩
              rw [putK_new _ hv]
              have hwx : upd (upd (upd H3 q (.lst [.int (i : Int)])) u (.lst (nV e.2 ++ [.int (i : Int)]))) d (.dK (kvs3 ++ [(Sum.inl ((nx h.known e.1 (h.stock.getD i 0) : Nat) : Int), .ref u)])) wt = some (.lst (nV (es3.map (·.1)))) := by
                rw [upd_ne wd', upd_ne wu, upd_ne wq]
                exact hw3'
              refine ⟨_, rfl, .inl ⟨rfl, _, SqL.of hwx⟩, _, rfl, wt, _, _, rfl, rfl, hwx, ?_, ?_⟩
              · rw [nV_len, List.length_map]
                exact line1000 (by omega)
              · refine ⟨es3 ++ [(nx h.known e.1 (h.stock.getD i 0), e.2 ++ [i])], _, _, _, rfl, ?_, (by rw [upd_ne wd'.symm, upd_same]), ?_, ?_, B3.add he3 hi hin, ?_⟩
                · exact same_over (same_over (same_over (same_over sH3 (sH3.free hq)) (sH3.free hu3)) hd) hw3
                · rw [upd_same, List.map_append, nV_app]
                  rfl
                · have R4 := R3.move (H' := upd (upd (upd (upd H3 q (.lst [.int (i : Int)])) u (.lst (nV e.2 ++ [.int (i : Int)]))) d (.dK (kvs3 ++ [(Sum.inl ((nx h.known e.1 (h.stock.getD i 0) : Nat) : Int), .ref u)]))) wt (.lst (nV (es3.map (·.1)) ++ [.int ((nx h.known e.1 (h.stock.getD i 0) : Nat) : Int)]))) fun b xs bw hb => by
                    rw [upd_ne bw, upd_ne (ne_of hb hd3 (by intro y; cases y)), upd_ne (ne_of_none hb hu3), upd_ne (ne_of_none hb hq)]
                    exact hb
                  refine R4.snoc wu.symm ?_
                  rw [upd_ne wu.symm, upd_ne du.symm, upd_same, nV_app]
                  rfl
                · rw [List.getElem?_append_left (List.getElem?_eq_some_iff.mp he3).1]
                  exact he3
        · rintro σ H3 ⟨es3, kvs3, v7, v8, rfl, sH3, hd3, hw3', R3, B3, he3⟩
          rw [nV_len, Int.toNat_natCast] at B3
          have hl3 := (List.getElem?_eq_some_iff.mp he3).1
          refine ⟨_, rfl, _, _, rfl, rfl, ⟨a + 1, es3, kvs3, _, _, _, rfl, sH3, hd3, hw3', R3, B3.turn hl3, hl3⟩, ?_⟩
          show 257 - (a + 1) < 257 - a
          exact Nat.sub_lt_sub_left (Nat.lt_of_lt_of_le hl3 (Nat.le_trans (B3.few Fh) (by decide))) (Nat.lt_succ_self a)
      · have hge : es.length ≤ a := by
          have : ¬ (a : Int) < (es.length : Int) := fun y => z (decide_eq_true y)
          omega
        exact ⟨_, rfl, k H2 d wt kvs es sH hd hdd RW (B.fo Fh hge)⟩
    · rintro σ H' Q1 Q2 hq ⟨v, e, v2, e2, p2, ys, e3, e4, i1, j1, e5, e6, kk, e7, q⟩
      exact ⟨v, e, v2, e2, p2, ys, e3, e4, i1, j1, e5, e6, kk, e7, hq _ _ q⟩

inductive ISpChg (vs : List V) (H : Hp) (Q : VK) (E : XK) : Prop
  | mk (k p : Nat) (d wt : Addr) (kvs : List (Key × V)) (es : List (Nat × List Nat)) (h0_ : vs = [.int k, .ref d, .int p]) (h1_ : H d = some (.dK kvs)) (h2_ : Rw H wt kvs es) (h3_ : ((∀ e ∈ es, nx k e.1 p = e.1) → Q (.bl false) H)) (h4_ : ((∃ e ∈ es, nx k e.1 p ≠ e.1) → Q (.bl true) H)) : ISpChg vs H Q E
def spChg : Sp := fun vs H Q E => ISpChg vs H Q E
theorem cb_chg (T : TxW K mg) : Cb P w K mg base CX0 5 "changes_something" spChg := cb_of T.changes_something fun f fd F => by
  refine F.ok cs_changes_something (fun vs H Q E h => ?_) (fun cdv A outer s H vs Q E hr h => ?_)
  · obtain ⟨k, p, d, wt, kvs, es, rfl, _⟩ := h
    rfl
  · obtain ⟨k, p, d, wt, kvs, es, rfl, hd, RW, q0, q1⟩ := h
    have nd := cs_changes_something.nd
    refine ⟨_, pss_cons (ps_lock (ps_for PassesOwn.never rfl (pi_keys (pv 1)) (pg_name (i := 3) nd rfl (Or.inl rfl))
        (pss_one (ps_if (pt_cmpR op_ne (pe_cb (cb_behind T) hr pass0 (pa_cons (pv 0) (pa_cons (pv 3) (pa_cons (pv 2) pa_nil)))) (pv 3) (nomark _)) (pss_one (ps_ret pe_bl)) pss_nil))))
      (pss_one (ps_ret pe_bl)), ?_⟩
    refine ⟨d, .dK kvs, hd, trivial, fun od => ?_⟩
    refine ⟨_, rfl, d, od, rfl, .inl ⟨kvs, upd_same, for_keys (d := d) (o := od) (kvs := kvs) (ChgI k p d (upd H d (.frz od (.dK kvs))) es)
      ⟨none, rfl, rfl, fun j e hj => absurd hj (by omega)⟩ (fun i σ H2 _ ⟨_, _, e2, _⟩ => by rw [e2]; exact upd_same) ?_ ?_⟩⟩
    · rintro i kk v σ H2 hk ⟨v3, rfl, rfl, hn⟩
      obtain ⟨e, he, rfl, _⟩ := RW.at hk
      refine ⟨_, rfl, _, rfl, _, rfl, k, e.1, p, rfl, _, rfl, rfl, _, rfl, ?_⟩
      show if (!decide (V.int ((nx k e.1 p : Nat) : Int) = V.int ((e.1 : Nat) : Int))) = true then _ else _
      rw [beqE]
      refine ite2 (fun z => ?_) (fun z => ?_)
      · refine ⟨upd_same, ?_⟩
        rw [upd_back hd]
        refine q1 ⟨e, List.mem_of_getElem? he, fun y => ?_⟩
        rw [decide_eq_true y] at z
        cases z
      · refine ⟨_, rfl, rfl, fun j g hj hg => ?_⟩
        by_cases y : j = i
        · rw [y, he] at hg
          cases hg
          refine Decidable.byContradiction fun x => z ?_
          rw [decide_eq_false x]
          rfl
        · exact hn j g (by omega) hg
    · rintro σ H2 ⟨v3, rfl, rfl, hn⟩
      refine ⟨upd_same, ?_⟩
      show Q (.bl false) _
      rw [upd_back hd]
      refine q0 fun e he => ?_
      obtain ⟨j, hj, ej⟩ := List.mem_iff_getElem.mp he
      exact hn j e (by rw [RW.len]; exact hj) (by rw [List.getElem?_eq_getElem hj, ej])

/-- a list of ints that is one of numbers, in another order -/
theorem nat_perm {ns : List Int} {l : List Nat} (h : ns.Perm (l.map fun (x : Nat) => (x : Int))) : ∃ ms : List Nat, ns = ms.map (fun (x : Nat) => (x : Int)) ∧ ms.Perm l := by
  have key : ∀ r : List Int, (∀ z ∈ r, 0 ≤ z) → (r.map Int.toNat).map (fun (x : Nat) => (x : Int)) = r := by
    intro r
    induction r with
    | nil =>
      intro _
      rfl
    | cons z r ih =>
      intro hr
      rw [List.map_cons, List.map_cons, ih fun y hy => hr y (List.mem_cons_of_mem _ hy), Int.toNat_of_nonneg (hr z List.mem_cons_self)]
  refine ⟨ns.map Int.toNat, (key ns fun z hz => ?_).symm, ?_⟩
  · obtain ⟨x, _, e⟩ := List.mem_map.mp (h.mem_iff.mp hz)
    rw [← e]
    exact Int.natCast_nonneg x
  · have := h.map Int.toNat
    rw [List.map_map] at this
    have e : (l.map (Int.toNat ∘ fun (x : Nat) => (x : Int))) = l := by
      have : (Int.toNat ∘ fun (x : Nat) => (x : Int)) = id := by
        funext x
        exact Int.toNat_natCast x
      rw [this, List.map_id]
    rw [e] at this
    exact this
theorem up_nat {ms : List Nat} (h : (ms.map fun (x : Nat) => (x : Int)).Pairwise (· ≤ ·)) : ms.Pairwise (· ≤ ·) := (List.pairwise_map.mp h).imp fun {x y} z => by omega
/-- the keys, rising, as a new list -/
theorem sorted_reach {h : House} (Fh : Fit h) {es : List (Nat × List Nat)} (B : Fo h es) {ns : List Int} (hp : ns.Perm (es.map fun e => ((e.1 : Nat) : Int))) (hs : ns.Pairwise (· ≤ ·)) : ns = h.reach.map fun (x : Nat) => (x : Int) := by
  have e : (es.map fun e => ((e.1 : Nat) : Int)) = (es.map (·.1)).map fun (x : Nat) => (x : Int) := by
    rw [List.map_map]
    rfl
  rw [e] at hp
  obtain ⟨ms, rfl, hm⟩ := nat_perm hp
  rw [B.reach Fh hm (up_nat hs)]
inductive ISpFew (vs : List V) (H : Hp) (Q : VK) (E : XK) : Prop
  | mk (d wt : Addr) (kvs : List (Key × V)) (es : List (Nat × List Nat)) (h : House) (h0_ : vs = [.ref d]) (h1_ : H d = some (.dK kvs)) (h2_ : Rw H wt kvs es) (h3_ : Fit h) (h4_ : Fo h es) (h5_ : ∀ (H' : Hp) (b : Nat), Same H H' → h.least = some b → b ≤ full h.m → Q (.int b) H') : ISpFew vs H Q E
def spFew : Sp := fun vs H Q E => ISpFew vs H Q E
theorem cb_few (T : TxW K mg) : Cb P w K mg base CX0 3 "fewest_worlds" spFew := cb_of T.fewest_worlds fun f fd F => by
  refine F.ok cs_fewest_worlds (fun vs H Q E h => ?_) (fun cdv A outer s H vs Q E hr h => ?_)
  · obtain ⟨d, wt, kvs, es, h, rfl, _⟩ := h
    rfl
  · obtain ⟨d, wt, kvs, es, h, rfl, hd, RW, Fh, B, q⟩ := h
    obtain ⟨fh, fdh, psh, hmh, Fn, bh, _⟩ := cb_how_many (P := P) (w := w) (base := base) T
    refine ⟨_, pss_one (ps_ret (pe_minK rfl Fn hr bh T.min hmh (pa_cons (pe_callB (cr_sortedD rfl) (by rfl) T.sorted boot_sorted (pa_cons (pv 0) pa_nil)) pa_nil))), ?_⟩
    refine ⟨_, rfl, d, kvs, _, rfl, hd, RW.keys, fun ns p hp hs hfree => ?_⟩
    have e := sorted_reach Fh B hp hs
    subst e
    have hfull : ∀ x ∈ h.reach, x ≤ full h.m := fun x hx => by
      obtain ⟨k, r⟩ := (Mc.reach_mem Fh).mp hx
      exact Mc.Rk.full Fh.st r
    have h256 : ∀ x ∈ h.reach, x < 256 := fun x hx => by
      have := hfull x hx
      have := Mc.full_le Fh.m3
      omega
    have hat : ∀ (i : Nat) (n : Int), (h.reach.map fun (x : Nat) => (x : Int))[i]? = some n → ∃ x, h.reach[i]? = some x ∧ n = (x : Int) := by
      intro i n hn
      rw [List.getElem?_map] at hn
      cases y : h.reach[i]? with
      | none =>
        rw [y] at hn
        cases hn
      | some x =>
        rw [y] at hn
        exact ⟨x, rfl, (Option.some.inj hn).symm⟩
    refine ⟨p, _, fun i => ((Mc.pc 8 (h.reach.getD i 0) : Nat) : Int), rfl, upd_same, ?_, fun i n hn => ?_, fun i n hn hb => ?_⟩
    · rw [List.length_map, B.reach_len Fh]
      exact B.ne
    · obtain ⟨x, hx, rfl⟩ := hat i n hn
      refine ⟨x, rfl, h256 x (List.mem_of_getElem? hx), ?_, rfl⟩
      show V.int _ = V.int ((Mc.pc 8 (h.reach.getD i 0) : Nat) : Int)
      rw [List.getD_eq_getElem?_getD, hx]
      rfl
    · obtain ⟨x, hx, rfl⟩ := hat i n hn
      refine q _ x (same_upd (Same.refl H) hfree) (Mc.least_is Fh hx fun j u hu => ?_) (hfull x (List.mem_of_getElem? hx))
      have hj : j < (h.reach.map fun (x : Nat) => (x : Int)).length := by
        rw [List.length_map]
        exact (List.getElem?_eq_some_iff.mp hu).1
      have z := hb j hj
      have ei : h.reach.getD i 0 = x := by
        rw [List.getD_eq_getElem?_getD, hx]
        rfl
      have ej : h.reach.getD j 0 = u := by
        rw [List.getD_eq_getElem?_getD, hu]
        rfl
      simp only [ei, ej] at z
      rw [Mc.pc8 Fh (hfull x (List.mem_of_getElem? hx)), Mc.pc8 Fh (hfull u (List.mem_of_getElem? hu))]
      exact ⟨by omega, fun y => by have := z.2 y; omega⟩
end
end Mp
end

section
set_option Elab.async false
set_option linter.all false
set_option maxRecDepth 100000
set_option maxHeartbeats 2000000
/-! The disputation as an object; what every call promises. -/
namespace Mp
open PySem PySem.Spec PyProof.Rows L2
open Krb7 (full both not_ within truth right count worlds why)
open Krc9 (House)
open Mc (wo nx canB tell Fit One Nat32)

/-- the addresses: the class, the three errors -/
structure Ad where
  C : Addr
  c1 : Addr
  c2 : Addr
  c3 : Addr
/-- the object's attributes -/
def dF (m k b : Int) (l : Addr) : List (Str × V) := [("letters", .int m), ("known", .int k), ("standing", .int b), ("stock", .ref l)]
theorem dF_letters {m k b z : Int} {l : Addr} : putF "letters" (.int z) (dF m k b l) = dF z k b l := rfl
theorem dF_known {m k b z : Int} {l : Addr} : putF "known" (.int z) (dF m k b l) = dF m z b l := rfl
theorem dF_standing {m k b z : Int} {l : Addr} : putF "standing" (.int z) (dF m k b l) = dF m k z l := rfl
theorem dF_stock {m k b : Int} {l z : Addr} : putF "stock" (.ref z) (dF m k b l) = dF m k b z := rfl

/-- the object at d holds these -/
structure At (C : Addr) (H : Hp) (d dx l : Addr) (m k b : Nat) (st : List Nat) : Prop where
  ob : H d = some (.ins C dx (dF m k b l))
  ls : H l = some (.lst (nV st))
/-- the object at d stands for the specification's state -/
def Dat (C : Addr) (H : Hp) (d l : Addr) : Option House → Prop
  | none => ∃ dx k b st, At C H d dx l 0 k b st
  | some h => (∃ dx, At C H d dx l h.m h.known h.stands h.stock) ∧ Fit h
theorem At.ne {C : Addr} {H : Hp} {d dx l : Addr} {m k b : Nat} {st : List Nat} (A : At C H d dx l m k b st) : l ≠ d := ne_of A.ls A.ob (by intro z; cases z)
theorem At.same {C : Addr} {H H' : Hp} {d dx l : Addr} {m k b : Nat} {st : List Nat} (A : At C H d dx l m k b st) (s : Same H H') : At C H' d dx l m k b st := ⟨s _ _ A.ob, s _ _ A.ls⟩
theorem Dat.same {C : Addr} {H H' : Hp} {d l : Addr} {s : Option House} (D : Dat C H d l s) (z : Same H H') : Dat C H' d l s := by
  cases s with
  | none =>
    obtain ⟨dx, k, b, st, A⟩ := D
    exact ⟨dx, k, b, st, A.same z⟩
  | some h =>
    obtain ⟨⟨dx, A⟩, F⟩ := D
    exact ⟨⟨dx, A.same z⟩, F⟩

/-- all else but d is as it was -/
def But (d : Addr) (H H' : Hp) : Prop := ∀ b o, H b = some o → b ≠ d → H' b = some o
theorem Same.but {H H' : Hp} (d : Addr) (s : Same H H') : But d H H' := fun b o e _ => s b o e
/-- what a call is to come to -/
def Res (t : Ad) (H : Hp) (Q : VK) (E : XK) (d l : Addr) (r : Option House × Krb7.Ans) : Prop :=
  (r.2.num = -22 → ∀ H', Same H H' → E (.ref t.c2) none H') ∧ (r.2.num = -33 → ∀ H', Same H H' → E (.ref t.c3) none H') ∧
  (0 ≤ r.2.num → ∀ (H' : Hp) (q : Addr), H q = none → H' q = some (.lst ((Krc9Neutral.told r.2).map V.int)) → ∀ l' : Addr, (l' = l ∨ H l' = none) → Dat t.C H' d l' r.1 → But d H H' → Q (.ref q) H')
/-- the promise of the def of the p-th call -/
inductive ISpC (t : Ad) (p : Nat) (vs : List V) (H : Hp) (Q : VK) (E : XK) : Prop
  | mk (d a l : Addr) (s : Option House) (c : List (List Int)) (args : List Int) (h0_ : vs = [.ref d, .ref a]) (h1_ : One c p args) (h2_ : Nat32 args) (h3_ : Dat t.C H d l s) (h4_ : (p = 0 ∨ ∃ h, s = some h)) (h5_ : H a = some (.lst (args.map V.int))) (h6_ : Res t H Q E d l (Krc9.act s (Krc9Neutral.call c))) : ISpC t p vs H Q E
def spC (t : Ad) (p : Nat) : Sp := fun vs H Q E => ISpC t p vs H Q E

/-! ### a call's numbers -/
theorem one0 {c : List (List Int)} {p : Nat} {args : List Int} (h : One c p args) (hp : p ≠ 4) (hl : Mc.lens[p]? = some 0) : args = [] ∧ c = [[(p : Int)]] := by
  cases h with
  | plain _ _ h1 h2 h3 =>
    rw [hl] at h3
    have e : args = [] := List.eq_nil_of_length_eq_zero (Option.some.inj h3).symm
    subst e
    exact ⟨rfl, rfl⟩
  | stock r => exact absurd rfl hp
theorem one1 {c : List (List Int)} {p : Nat} {args : List Int} (h : One c p args) (n : Nat32 args) (hp : p ≠ 4) (hl : Mc.lens[p]? = some 1) : ∃ x : Nat, args = [(x : Int)] ∧ c = [[(p : Int), (x : Int)]] := by
  cases h with
  | plain _ _ h1 h2 h3 =>
    rw [hl] at h3
    match args, n, (Option.some.inj h3).symm with
    | [z], n, _ =>
      have := (n z List.mem_cons_self).1
      refine ⟨z.toNat, ?_, ?_⟩
      · rw [Int.toNat_of_nonneg this]
      · rw [Int.toNat_of_nonneg this]
  | stock r => exact absurd rfl hp
theorem one2 {c : List (List Int)} {p : Nat} {args : List Int} (h : One c p args) (n : Nat32 args) (hp : p ≠ 4) (hl : Mc.lens[p]? = some 2) : ∃ x y : Nat, args = [(x : Int), (y : Int)] ∧ c = [[(p : Int), (x : Int), (y : Int)]] := by
  cases h with
  | plain _ _ h1 h2 h3 =>
    rw [hl] at h3
    match args, n, (Option.some.inj h3).symm with
    | [z, u], n, _ =>
      have h1 := (n z List.mem_cons_self).1
      have h2 := (n u (List.mem_cons_of_mem _ List.mem_cons_self)).1
      refine ⟨z.toNat, u.toNat, ?_, ?_⟩
      · rw [Int.toNat_of_nonneg h1, Int.toNat_of_nonneg h2]
      · rw [Int.toNat_of_nonneg h1, Int.toNat_of_nonneg h2]
  | stock r => exact absurd rfl hp
theorem one3 {c : List (List Int)} {p : Nat} {args : List Int} (h : One c p args) (n : Nat32 args) (hp : p ≠ 4) (hl : Mc.lens[p]? = some 3) : ∃ x y z : Nat, args = [(x : Int), (y : Int), (z : Int)] ∧ c = [[(p : Int), (x : Int), (y : Int), (z : Int)]] := by
  cases h with
  | plain _ _ h1 h2 h3 =>
    rw [hl] at h3
    match args, n, (Option.some.inj h3).symm with
    | [z, u, v], n, _ =>
      have h1 := (n z List.mem_cons_self).1
      have h2 := (n u (List.mem_cons_of_mem _ List.mem_cons_self)).1
      have h3 := (n v (List.mem_cons_of_mem _ (List.mem_cons_of_mem _ List.mem_cons_self))).1
      refine ⟨z.toNat, u.toNat, v.toNat, ?_, ?_⟩
      · rw [Int.toNat_of_nonneg h1, Int.toNat_of_nonneg h2, Int.toNat_of_nonneg h3]
      · rw [Int.toNat_of_nonneg h1, Int.toNat_of_nonneg h2, Int.toNat_of_nonneg h3]
  | stock r => exact absurd rfl hp
theorem one4 {c : List (List Int)} {args : List Int} (h : One c 4 args) (n : Nat32 args) : ∃ l : List Nat, args = (l.length : Int) :: l.map (fun (x : Nat) => (x : Int)) ∧ c = [[4], l.map (fun (x : Nat) => (x : Int))] := by
  have key : ∀ r : List Int, (∀ z ∈ r, 0 ≤ z) → (r.map Int.toNat).map (fun (x : Nat) => (x : Int)) = r := by
    intro r
    induction r with
    | nil =>
      intro _
      rfl
    | cons z r ih =>
      intro hr
      rw [List.map_cons, List.map_cons, ih fun y hy => hr y (List.mem_cons_of_mem _ hy), Int.toNat_of_nonneg (hr z List.mem_cons_self)]
  generalize hp : (4 : Nat) = p at h
  cases h with
  | plain p a h1 h2 h3 => exact absurd hp.symm h2
  | stock r =>
    have e := key r fun z hz => (n z (List.mem_cons_of_mem _ hz)).1
    refine ⟨r.map Int.toNat, ?_, ?_⟩
    · rw [e, List.length_map]
    · rw [e]

/-- what of the text the defs of disputations.py lean on -/
structure Tx (K : PySem.W.Frag) (mg : Str → Option Value) (t : Ad) : Prop extends TxW K mg where
  cl : Cls K t.C
  nL : NoAttr K t.C "letters"
  nK : NoAttr K t.C "known"
  nB : NoAttr K t.C "standing"
  nS : NoAttr K t.C "stock"
  mgC : mg "Disputation" = some (.ref t.C)
  made : ∃ f fd, Mk K t.C f ∧ Fun K "__init__" "Disputation.__init__" s_Disputation_init f fd ∧ Binds K fd ["self"] []
  x1 : mg "NotBegun" = some (.ref t.c1)
  x2 : mg "NotRight" = some (.ref t.c2)
  x3 : mg "CannotBe" = some (.ref t.c3)
  o1 : ownErr K t.c1
  o2 : ownErr K t.c2
  o3 : ownErr K t.c3
  e11 : PySem.W.exmOne K (.ref t.c1) (.ref t.c1) = some true
  e21 : PySem.W.exmOne K (.ref t.c2) (.ref t.c1) = some false
  e22 : PySem.W.exmOne K (.ref t.c2) (.ref t.c2) = some true
  e31 : PySem.W.exmOne K (.ref t.c3) (.ref t.c1) = some false
  e32 : PySem.W.exmOne K (.ref t.c3) (.ref t.c2) = some false
  e33 : PySem.W.exmOne K (.ref t.c3) (.ref t.c3) = some true
  begin_ : GI mg "BEGIN" 0
  stock_ : GI mg "STOCK" 4
  most6 : GI mg "MOST_IN_STOCK" 6
  lengths : ∃ a, mg "LENGTHS" = some (.ref a) ∧ ∀ H, SqT K H a (nV Mc.lens)
  check_proposition : Def K mg "check_proposition" s_check_proposition ["letters", "number"]
  check_answer : Def K mg "check_answer" s_check_answer ["number"]
  check_some_world : Def K mg "check_some_world" s_check_some_world ["worlds"]
  begin : Def K mg "begin" s_begin ["disputation", "arguments"]
  propose : Def K mg "propose" s_propose ["disputation", "arguments"]
  stand : Def K mg "stand" s_stand ["disputation", "arguments"]
  learn : Def K mg "learn" s_learn ["disputation", "arguments"]
  put_stock : Def K mg "put_stock" s_put_stock ["disputation", "arguments"]
  tell_answer : Def K mg "tell_answer" s_tell_answer ["disputation", "arguments"]
  tell_row : Def K mg "tell_row" s_tell_row ["disputation", "wanted", "proposition"]
  concede : Def K mg "concede" s_concede ["disputation", "arguments"]
  deny : Def K mg "deny" s_deny ["disputation", "arguments"]
  added_answers : Def K mg "added_answers" s_added_answers ["disputation", "proposition"]
  may : Def K mg "may" s_may ["disputation", "arguments"]
  those : Def K mg "those_that_can_be_made" s_those_that_can_be_made ["disputation", "wanted"]
  counts : Def K mg "counts" s_counts ["disputation", "arguments"]
  pick : Def K mg "pick" s_pick ["found", "place"]
  nth : Def K mg "nth" s_nth ["disputation", "arguments"]
  false_that : Def K mg "false_that_can_be_conceded" s_false_that_can_be_conceded ["disputation"]
  count_false : Def K mg "count_false" s_count_false ["disputation", "arguments"]
  nth_false : Def K mg "nth_false" s_nth_false ["disputation", "arguments"]
  surely : Def K mg "surely" s_surely ["disputation", "arguments"]
  rows_to : Def K mg "rows_to_standings" s_rows_to_standings ["disputation"]
  row_from : Def K mg "row_from_stock" s_row_from_stock ["disputation", "arguments"]
  least : Def K mg "least" s_least ["disputation", "arguments"]
  count_reach : Def K mg "count_reach" s_count_reach ["disputation", "arguments"]
  nth_reach : Def K mg "nth_reach" s_nth_reach ["disputation", "arguments"]
  row_that : Def K mg "row_that_leaves" s_row_that_leaves ["disputation", "arguments"]
  idle : Def K mg "idle" s_idle ["disputation", "arguments"]
  state : Def K mg "state" s_state ["disputation", "arguments"]
  end_of_call : Def K mg "end_of_call" s_end_of_call ["calls", "start"]
  answer_or_refusal : Def K mg "answer_or_refusal" s_answer_or_refusal ["disputation", "number", "arguments"]

section
variable {P : Program} {w : World} {K : PySem.W.Frag} {mg : Str → Option Value} {base : Heap} {t : Ad}
/-! ### an attribute read -/
section
variable {i : Nat} {σ : L2.St} {H : Hp} {d dx l : Addr} {m k b : Int} {Q : VK}
end
/-! ### the checks -/
inductive ISpChkP (t : Ad) (vs : List V) (H : Hp) (Q : VK) (E : XK) : Prop
  | mk (m n : Nat) (h0_ : vs = [.int m, .int n]) (h1_ : 1 ≤ m) (h2_ : m ≤ 3) (h3_ : (n ≤ full m → Q .non H)) (h4_ : (¬ n ≤ full m → E (.ref t.c2) none H)) : ISpChkP t vs H Q E
def spChkP (t : Ad) : Sp := fun vs H Q E => ISpChkP t vs H Q E
theorem cb_chkP (T : Tx K mg t) : Cb P w K mg base (CXF P w) 2 "check_proposition" (spChkP t) := cb_of T.check_proposition fun f fd F => by
  refine F.okX cs_check_proposition (fun vs H Q E h => ?_) (fun cdv A outer s H vs Q E hr h => ?_)
  · obtain ⟨m, n, rfl, _⟩ := h
    rfl
  · obtain ⟨m, n, rfl, h1, h3, q, e⟩ := h
    refine ⟨_, pss_one (ps_if (pt_cmpR op_gt (pv 1) (pe_cb (cb_all_worlds T.toTxW) hr pass0 (pa_cons (pv 0) pa_nil)) (nomark _)) (pss_one (ps_raise rfl raises_cx rfl T.x2 T.o2)) pss_nil), ?_⟩
    refine ⟨_, rfl, _, rfl, m, rfl, h1, h3, _, _, rfl, rfl, _, rfl, ?_⟩
    refine ite2 (fun z => e ?_) (fun z => q ?_)
    · have := of_decide_eq_true z
      omega
    · have : ¬ ((full m : Nat) : Int) < (n : Int) := fun y => z (decide_eq_true y)
      omega
inductive ISpChkA (t : Ad) (vs : List V) (H : Hp) (Q : VK) (E : XK) : Prop
  | mk (n : Nat) (h0_ : vs = [.int n]) (h1_ : (n ≤ 2 → Q .non H)) (h2_ : (¬ n ≤ 2 → E (.ref t.c2) none H)) : ISpChkA t vs H Q E
def spChkA (t : Ad) : Sp := fun vs H Q E => ISpChkA t vs H Q E
theorem cb_chkA (T : Tx K mg t) : Cb P w K mg base (CXF P w) 1 "check_answer" (spChkA t) := cb_of T.check_answer fun f fd F => by
  refine F.okX cs_check_answer (fun vs H Q E h => ?_) (fun cdv A outer s H vs Q E hr h => ?_)
  · obtain ⟨n, rfl, _⟩ := h
    rfl
  · obtain ⟨n, rfl, q, e⟩ := h
    refine ⟨_, pss_one (ps_if (pt_cmpR op_gt (pv 0) (pe_gi T.doubted) (nomark _)) (pss_one (ps_raise rfl raises_cx rfl T.x2 T.o2)) pss_nil), ?_⟩
    refine ⟨_, rfl, _, _, rfl, rfl, _, rfl, ?_⟩
    refine ite2 (fun z => e ?_) (fun z => q ?_)
    · have := of_decide_eq_true z
      omega
    · have : ¬ (2 : Int) < (n : Int) := fun y => z (decide_eq_true y)
      omega
inductive ISpChkW (t : Ad) (vs : List V) (H : Hp) (Q : VK) (E : XK) : Prop
  | mk (n : Nat) (h0_ : vs = [.int n]) (h1_ : (n ≠ 0 → Q .non H)) (h2_ : (n = 0 → E (.ref t.c3) none H)) : ISpChkW t vs H Q E
def spChkW (t : Ad) : Sp := fun vs H Q E => ISpChkW t vs H Q E
theorem cb_chkW (T : Tx K mg t) : Cb P w K mg base (CXF P w) 1 "check_some_world" (spChkW t) := cb_of T.check_some_world fun f fd F => by
  refine F.okX cs_check_some_world (fun vs H Q E h => ?_) (fun cdv A outer s H vs Q E hr h => ?_)
  · obtain ⟨n, rfl, _⟩ := h
    rfl
  · obtain ⟨n, rfl, q, e⟩ := h
    refine ⟨_, pss_one (ps_if (pt_cmpR op_eq (pv 0) pe_int (nomark _)) (pss_one (ps_raise rfl raises_cx rfl T.x3 T.o3)) pss_nil), ?_⟩
    refine ⟨_, rfl, rfl, _, rfl, ?_⟩
    exact iteE (a := n) (b := 0) (fun z => e z) (fun z => q z)
end
end Mp
end

section
set_option Elab.async false
set_option linter.all false
set_option maxRecDepth 100000
set_option maxHeartbeats 2000000
/-! The defs of the calls: begin, propose, stand, learn, answer. -/
namespace Mp
open PySem PySem.Spec PyProof.Rows L2
open Krb7 (full both not_ within truth right count worlds why)
open Krc9 (House)
open Mc (wo nx canB tell Fit One Nat32)

theorem began {p : Nat} {st : Option House} (hs : p + 1 = 0 ∨ ∃ h, st = some h) : ∃ h, st = some h := hs.resolve_left (Nat.succ_ne_zero p)
theorem lt256 {h : House} (F : Fit h) {b : Nat} (hb : b ≤ full h.m) : b < 256 := by
  have := Mc.full_le F.m3
  omega
theorem but_upd {H H' : Hp} {d l : Addr} {o : HO} (s : But d H H') (hl : H' l = none) : But d H (upd H' l o) := fun b u e n => by
  rw [upd_ne (ne_of_none (s b u e n) hl)]
  exact s b u e n
theorem but_self {H : Hp} {d : Addr} {o : HO} : But d H (upd H d o) := fun b u e n => by
  rw [upd_ne n]
  exact e
theorem free_upd {H : Hp} {d q : Addr} {o u : HO} (hd : H d = some u) (h : upd H d o q = none) : H q = none := by
  by_cases e : q = d
  · subst e
    rw [upd_same] at h
    cases h
  · rw [upd_ne e] at h
    exact h
theorem none_ne {H : Hp} {d q : Addr} {u : HO} (hd : H d = some u) (h : H q = none) : q ≠ d := fun e => by
  rw [e, hd] at h
  cases h
/-- the state behind a store and a new list -/
theorem At.upd {C : Addr} {H : Hp} {d dx l q : Addr} {m k b m' k' b' : Nat} {st : List Nat} {o : HO} (A : At C H d dx l m k b st) (hq : H q = none) : At C (L2.upd (L2.upd H d (.ins C dx (dF m' k' b' l))) q o) d dx l m' k' b' st :=
  ⟨by rw [upd_ne (ne_of_none A.ob hq), upd_same], by rw [upd_ne (ne_of_none A.ls hq), upd_ne A.ne]; exact A.ls⟩
theorem At.newl {C : Addr} {H : Hp} {d dx l q : Addr} {m k b : Nat} {st : List Nat} {o : HO} (A : At C H d dx l m k b st) (hq : H q = none) : At C (L2.upd H q o) d dx l m k b st := A.same (same_upd (Same.refl H) hq)

section
variable {P : Program} {w : World} {K : PySem.W.Frag} {mg : Str → Option Value} {base : Heap} {t : Ad}
theorem spC_len {p : Nat} : ∀ vs H Q E, spC t p vs H Q E → vs.length = (["disputation", "arguments"] : List Str).length := by
  rintro vs H Q E ⟨d, a, l, s, c, args, rfl, _⟩
  rfl

theorem cb_propose (T : Tx K mg t) : Cb P w K mg base (CXF P w) 6 "propose" (spC t 1) := cb_of T.propose fun f fd F => by
  refine F.okX cs_propose spC_len (fun cdv A outer s H vs Q E hr h => ?_)
  obtain ⟨d, a, l, st, c, args, rfl, o, n32, D, hs, ha, R⟩ := h
  obtain ⟨x, rfl, rfl⟩ := one1 o n32 (by decide) rfl
  obtain ⟨h, rfl⟩ := began hs
  obtain ⟨⟨dx, A0⟩, Fh⟩ := D
  have nd := cs_propose.nd
  refine ⟨_, pss_cons (ps_set (i := 2) nd rfl (Or.inl rfl) (pe_ix ix_list (pv 1) pe_int (fun _ _ => rfl)))
    (pss_cons (ps_expr (pe_cb (cb_chkP T) (hr.mono (by decide)) pass_on (pa_cons (pe_fld (pv 0) rfl) (pa_cons (pv 2) pa_nil))))
    (pss_cons (ps_set (i := 3) nd rfl (Or.inl rfl) (pe_cb (cb_right T.toTxW) (hr.mono (by decide)) pass0 (pa_cons (pe_fld (pv 0) rfl) (pa_cons (pe_fld (pv 0) rfl) (pa_cons (pv 2) pa_nil)))))
    (pss_cons (ps_fld (pv 0) (pe_cb (cb_behind T.toTxW) (hr.mono (by decide)) pass0 (pa_cons (pe_fld (pv 0) rfl) (pa_cons (pe_fld (pv 0) rfl) (pa_cons (pv 2) pa_nil)))) rfl)
    (pss_one (ps_ret (pe_lst (pa_cons (pv 3) (pa_cons (pe_cb (cb_how_many T.toTxW) (hr.mono (by decide)) pass0 (pa_cons (pe_fld (pv 0) rfl) pa_nil)) pa_nil)))))))), ?_⟩
  refine ⟨_, rfl, a, _, _, _, rfl, rfl, SqL.of ha, at_of (j := 0) rfl rfl, ?_⟩
  refine ⟨_, rfl, d, t.C, dx, _, _, rfl, A0.ob, T.cl, T.nL, rfl, _, rfl, h.m, x, rfl, Fh.m1, Fh.m3, fun hx => ?_, fun hx => ?_⟩
  · refine ⟨_, rfl, d, t.C, dx, _, _, rfl, A0.ob, T.cl, T.nK, rfl, _, rfl, d, t.C, dx, _, _, rfl, A0.ob, T.cl, T.nB, rfl, _, rfl, h.known, h.stands, x, rfl, ?_⟩
    refine ⟨_, rfl, d, t.C, dx, _, _, rfl, A0.ob, T.cl, T.nK, rfl, _, rfl, d, t.C, dx, _, _, rfl, A0.ob, T.cl, T.nB, rfl, _, rfl, h.known, h.stands, x, rfl, ?_⟩
    refine ⟨_, rfl, d, t.C, dx, _, rfl, A0.ob, T.cl, T.nB, (by show 4 < 1000; decide), ?_⟩
    have nxf := Mc.nx_full (k := h.known) (p := x) Fh.st
    refine ⟨_, rfl, _, rfl, d, t.C, dx, _, _, rfl, upd_same, T.cl, T.nB, rfl, nx h.known h.stands x, rfl, lt256 Fh nxf, ?_⟩
    refine ⟨(by show 2 ≤ sizeLine; decide), fun q hq => ?_⟩
    have hq0 := free_upd A0.ob hq
    replace R := Eq.mp (congrArg (Res t H Q E d l) (Mc.act_propose hx)) R
    have en := Mc.next_eq Fh.st hx
    refine R.2.2 (Int.natCast_nonneg _) _ q hq0 ?_ l (.inl rfl) ⟨⟨dx, ?_⟩, Fh.next hx⟩ (but_upd but_self hq)
    · rw [upd_same]
      show some (HO.lst [V.int _, V.int _]) = some (HO.lst [V.int _, V.int ((count h.m (h.next h.stands x) : Nat) : Int)])
      rw [en, Mc.pc8 Fh nxf]
    · have := A0.upd (m' := h.m) (k' := h.known) (b' := nx h.known h.stands x) (o := .lst [.int (right h.known h.stands x : Nat), .int (Mc.pc 8 (nx h.known h.stands x) : Nat)]) hq0
      show At t.C _ d dx l h.m h.known (h.next h.stands x) h.stock
      rw [en]
      exact this
  · replace R := Eq.mp (congrArg (Res t H Q E d l) (Mc.act_bad1 1 (by decide) hx)) R
    exact R.1 rfl H (Same.refl H)

theorem cb_stand (T : Tx K mg t) : Cb P w K mg base (CXF P w) 6 "stand" (spC t 2) := cb_of T.stand fun f fd F => by
  refine F.okX cs_stand spC_len (fun cdv A outer s H vs Q E hr h => ?_)
  obtain ⟨d, a, l, st, c, args, rfl, o, n32, D, hs, ha, R⟩ := h
  obtain ⟨x, rfl, rfl⟩ := one1 o n32 (by decide) rfl
  obtain ⟨h, rfl⟩ := began hs
  obtain ⟨⟨dx, A0⟩, Fh⟩ := D
  have nd := cs_stand.nd
  refine ⟨_, pss_cons (ps_set (i := 2) nd rfl (Or.inl rfl) (pe_ix ix_list (pv 1) pe_int (fun _ _ => rfl)))
    (pss_cons (ps_expr (pe_cb (cb_chkP T) (hr.mono (by decide)) pass_on (pa_cons (pe_fld (pv 0) rfl) (pa_cons (pv 2) pa_nil))))
    (pss_cons (ps_expr (pe_cb (cb_chkW T) (hr.mono (by decide)) pass_on (pa_cons (pv 2) pa_nil)))
    (pss_cons (ps_fld (pv 0) (pv 2) rfl)
    (pss_one (ps_ret (pe_lst (pa_cons (pe_cb (cb_how_many T.toTxW) (hr.mono (by decide)) pass0 (pa_cons (pv 2) pa_nil)) pa_nil))))))), ?_⟩
  refine ⟨_, rfl, a, _, _, _, rfl, rfl, SqL.of ha, at_of (j := 0) rfl rfl, ?_⟩
  refine ⟨_, rfl, d, t.C, dx, _, _, rfl, A0.ob, T.cl, T.nL, rfl, _, rfl, h.m, x, rfl, Fh.m1, Fh.m3, fun hx => ?_, fun hx => ?_⟩
  · replace R := Eq.mp (congrArg (Res t H Q E d l) (Mc.act_stand hx)) R
    refine ⟨_, rfl, x, rfl, fun x0 => ?_, fun x0 => ?_⟩
    · rw [if_neg x0] at R
      refine ⟨_, rfl, _, rfl, d, t.C, dx, _, rfl, A0.ob, T.cl, T.nB, (by show 4 < 1000; decide), ?_⟩
      refine ⟨_, rfl, x, rfl, lt256 Fh hx, ?_⟩
      refine ⟨(by show 1 ≤ sizeLine; decide), fun q hq => ?_⟩
      have hq0 := free_upd A0.ob hq
      refine R.2.2 (Int.natCast_nonneg _) _ q hq0 ?_ l (.inl rfl) ⟨⟨dx, A0.upd (m' := h.m) (k' := h.known) (b' := x) hq0⟩, Fh.stand hx x0⟩ (but_upd but_self hq)
      rw [upd_same]
      show some (HO.lst [V.int _]) = some (HO.lst [V.int ((count h.m x : Nat) : Int)])
      rw [Mc.pc8 Fh hx]
    · rw [if_pos x0] at R
      exact R.2.1 rfl H (Same.refl H)
  · replace R := Eq.mp (congrArg (Res t H Q E d l) (Mc.act_bad1 2 (by decide) hx)) R
    exact R.1 rfl H (Same.refl H)

theorem cb_learn (T : Tx K mg t) : Cb P w K mg base (CXF P w) 6 "learn" (spC t 3) := cb_of T.learn fun f fd F => by
  refine F.okX cs_learn spC_len (fun cdv A outer s H vs Q E hr h => ?_)
  obtain ⟨d, a, l, st, c, args, rfl, o, n32, D, hs, ha, R⟩ := h
  obtain ⟨x, rfl, rfl⟩ := one1 o n32 (by decide) rfl
  obtain ⟨h, rfl⟩ := began hs
  obtain ⟨⟨dx, A0⟩, Fh⟩ := D
  have nd := cs_learn.nd
  refine ⟨_, pss_cons (ps_set (i := 2) nd rfl (Or.inl rfl) (pe_ix ix_list (pv 1) pe_int (fun _ _ => rfl)))
    (pss_cons (ps_expr (pe_cb (cb_chkP T) (hr.mono (by decide)) pass_on (pa_cons (pe_fld (pv 0) rfl) (pa_cons (pv 2) pa_nil))))
    (pss_cons (ps_set (i := 3) nd rfl (Or.inl rfl) (pe_op op_and (pe_fld (pv 0) rfl) (pv 2)))
    (pss_cons (ps_expr (pe_cb (cb_chkW T) (hr.mono (by decide)) pass_on (pa_cons (pv 3) pa_nil)))
    (pss_cons (ps_fld (pv 0) (pv 3) rfl)
    (pss_one (ps_ret (pe_lst (pa_cons (pe_cb (cb_how_many T.toTxW) (hr.mono (by decide)) pass0 (pa_cons (pv 3) pa_nil)) pa_nil)))))))), ?_⟩
  refine ⟨_, rfl, a, _, _, _, rfl, rfl, SqL.of ha, at_of (j := 0) rfl rfl, ?_⟩
  refine ⟨_, rfl, d, t.C, dx, _, _, rfl, A0.ob, T.cl, T.nL, rfl, _, rfl, h.m, x, rfl, Fh.m1, Fh.m3, fun hx => ?_, fun hx => ?_⟩
  · replace R := Eq.mp (congrArg (Res t H Q E d l) (Mc.act_learn hx)) R
    refine ⟨_, rfl, d, t.C, dx, _, _, rfl, A0.ob, T.cl, T.nK, rfl, _, rfl, _, _, rfl, rfl, ?_⟩
    have kf : both h.known x ≤ full h.m := Mc.and_full x Fh.kn
    refine ⟨_, rfl, both h.known x, rfl, fun x0 => ?_, fun x0 => ?_⟩
    · rw [if_neg x0] at R
      refine ⟨_, rfl, _, rfl, d, t.C, dx, _, rfl, A0.ob, T.cl, T.nK, (by show 4 < 1000; decide), ?_⟩
      refine ⟨_, rfl, both h.known x, rfl, lt256 Fh kf, ?_⟩
      refine ⟨(by show 1 ≤ sizeLine; decide), fun q hq => ?_⟩
      have hq0 := free_upd A0.ob hq
      refine R.2.2 (Int.natCast_nonneg _) _ q hq0 ?_ l (.inl rfl) ⟨⟨dx, A0.upd (m' := h.m) (k' := both h.known x) (b' := h.stands) hq0⟩, Fh.learn x0⟩ (but_upd but_self hq)
      rw [upd_same]
      show some (HO.lst [V.int _]) = some (HO.lst [V.int ((count h.m (both h.known x) : Nat) : Int)])
      rw [Mc.pc8 Fh kf]
    · rw [if_pos x0] at R
      exact R.2.1 rfl H (Same.refl H)
  · replace R := Eq.mp (congrArg (Res t H Q E d l) (Mc.act_bad1 3 (by decide) hx)) R
    exact R.1 rfl H (Same.refl H)

theorem cb_tell_answer (T : Tx K mg t) : Cb P w K mg base (CXF P w) 6 "tell_answer" (spC t 5) := cb_of T.tell_answer fun f fd F => by
  refine F.okX cs_tell_answer spC_len (fun cdv A outer s H vs Q E hr h => ?_)
  obtain ⟨d, a, l, st, c, args, rfl, o, n32, D, hs, ha, R⟩ := h
  obtain ⟨x, rfl, rfl⟩ := one1 o n32 (by decide) rfl
  obtain ⟨h, rfl⟩ := began hs
  obtain ⟨⟨dx, A0⟩, Fh⟩ := D
  have nd := cs_tell_answer.nd
  refine ⟨_, pss_cons (ps_set (i := 2) nd rfl (Or.inl rfl) (pe_ix ix_list (pv 1) pe_int (fun _ _ => rfl)))
    (pss_cons (ps_expr (pe_cb (cb_chkP T) (hr.mono (by decide)) pass_on (pa_cons (pe_fld (pv 0) rfl) (pa_cons (pv 2) pa_nil))))
    (pss_cons (ps_set (i := 3) nd rfl (Or.inl rfl) (pe_cb (cb_right T.toTxW) (hr.mono (by decide)) pass0 (pa_cons (pe_fld (pv 0) rfl) (pa_cons (pe_fld (pv 0) rfl) (pa_cons (pv 2) pa_nil)))))
    (pss_one (ps_ret (pe_lst (pa_cons (pv 3) (pa_cons (pe_cb (cb_bearing T.toTxW) (hr.mono (by decide)) pass0 (pa_cons (pe_fld (pv 0) rfl) (pa_cons (pv 2) pa_nil))) pa_nil))))))), ?_⟩
  refine ⟨_, rfl, a, _, _, _, rfl, rfl, SqL.of ha, at_of (j := 0) rfl rfl, ?_⟩
  refine ⟨_, rfl, d, t.C, dx, _, _, rfl, A0.ob, T.cl, T.nL, rfl, _, rfl, h.m, x, rfl, Fh.m1, Fh.m3, fun hx => ?_, fun hx => ?_⟩
  · replace R := Eq.mp (congrArg (Res t H Q E d l) (Mc.act_answer hx)) R
    refine ⟨_, rfl, d, t.C, dx, _, _, rfl, A0.ob, T.cl, T.nK, rfl, _, rfl, d, t.C, dx, _, _, rfl, A0.ob, T.cl, T.nB, rfl, _, rfl, h.known, h.stands, x, rfl, ?_⟩
    refine ⟨_, rfl, _, rfl, d, t.C, dx, _, _, rfl, A0.ob, T.cl, T.nB, rfl, _, rfl, h.stands, x, rfl, ?_⟩
    refine ⟨(by show 2 ≤ sizeLine; decide), fun q hq => ?_⟩
    refine R.2.2 (Int.natCast_nonneg _) _ q hq ?_ l (.inl rfl) ⟨⟨dx, A0.newl hq⟩, Fh⟩ (but_upd (Same.but d (Same.refl H)) hq)
    rw [upd_same]
    rfl
  · replace R := Eq.mp (congrArg (Res t H Q E d l) (Mc.act_bad1 5 (by decide) hx)) R
    exact R.1 rfl H (Same.refl H)

theorem cb_begin (T : Tx K mg t) : Cb P w K mg base (CXF P w) 6 "begin" (spC t 0) := cb_of T.begin fun f fd F => by
  refine F.okX cs_begin spC_len (fun cdv A outer s H vs Q E hr h => ?_)
  obtain ⟨d, a, l, st, c, args, rfl, o, n32, D, hs, ha, R⟩ := h
  obtain ⟨m, k, b, rfl, rfl⟩ := one3 o n32 (by decide) rfl
  obtain ⟨dx, m0, k0, b0, st0, A0⟩ : ∃ dx m0 k0 b0 st0, At t.C H d dx l m0 k0 b0 st0 := by
    cases st with
    | none =>
      obtain ⟨dx, k, b, st, A⟩ := D
      exact ⟨dx, 0, k, b, st, A⟩
    | some h =>
      obtain ⟨⟨dx, A⟩, _⟩ := D
      exact ⟨dx, _, _, _, _, A⟩
  have nd := cs_begin.nd
  refine ⟨_, pss_cons (ps_set (i := 2) nd rfl (Or.inl rfl) (pe_ix ix_list (pv 1) pe_int (fun _ _ => rfl)))
    (pss_cons (ps_set (i := 3) nd rfl (Or.inl rfl) (pe_ix ix_list (pv 1) pe_int (fun _ _ => rfl)))
    (pss_cons (ps_set (i := 4) nd rfl (Or.inl rfl) (pe_ix ix_list (pv 1) pe_int (fun _ _ => rfl)))
    (pss_cons (ps_if (pw_or (pt_cmpR op_lt (pv 2) pe_int (nomark _)) (pw_or1 (pt_cmpR op_gt (pv 2) (pe_gi T.most) (nomark _)))).pt (pss_one (ps_raise rfl raises_cx rfl T.x2 T.o2)) pss_nil)
    (pss_cons (ps_expr (pe_cb (cb_chkP T) (hr.mono (by decide)) pass_on (pa_cons (pv 2) (pa_cons (pv 3) pa_nil))))
    (pss_cons (ps_expr (pe_cb (cb_chkP T) (hr.mono (by decide)) pass_on (pa_cons (pv 2) (pa_cons (pv 4) pa_nil))))
    (pss_cons (ps_if (pt_cmpR op_eq (pv 3) pe_int (nomark _)) (pss_one (ps_raise rfl raises_cx rfl T.x2 T.o2)) pss_nil)
    (pss_cons (ps_expr (pe_cb (cb_chkW T) (hr.mono (by decide)) pass_on (pa_cons (pv 4) pa_nil)))
    (pss_cons (ps_fld (pv 0) (pv 2) rfl)
    (pss_cons (ps_fld (pv 0) (pv 3) rfl)
    (pss_cons (ps_fld (pv 0) (pv 4) rfl)
    (pss_cons (ps_fld (pv 0) (pe_lst pa_nil) rfl)
    (pss_one (ps_ret (pe_lst (pa_cons (pe_cb (cb_how_many T.toTxW) (hr.mono (by decide)) pass0 (pa_cons (pv 4) pa_nil)) pa_nil))))))))))))))), ?_⟩
  replace R := Eq.mp (congrArg (Res t H Q E d l) (Mc.act_begin st m k b)) R
  refine ⟨_, rfl, a, _, _, _, rfl, rfl, SqL.of ha, at_of (j := 0) rfl rfl, ?_⟩
  refine ⟨_, rfl, a, _, _, _, rfl, rfl, SqL.of ha, at_of (j := 1) rfl rfl, ?_⟩
  refine ⟨_, rfl, a, _, _, _, rfl, rfl, SqL.of ha, at_of (j := 2) rfl rfl, ?_⟩
  have bad : (m = 0 ∨ 3 < m ∨ k = 0 ∨ full m < k ∨ full m < b) → E (.ref t.c2) none H := fun z => by
    rw [if_pos z] at R
    exact R.1 rfl H (Same.refl H)
  refine ⟨_, rfl, _, _, rfl, rfl, _, rfl, ?_⟩
  refine ite2 (fun z => ?_) (fun z => ?_)
  · refine iteT (bad (.inl ?_))
    have := of_decide_eq_true z
    omega
  · have hm1 : 1 ≤ m := by
      have : ¬ (m : Int) < 1 := fun y => z (decide_eq_true y)
      omega
    refine ⟨_, rfl, _, _, rfl, rfl, _, rfl, ?_⟩
    refine ite2 (fun z => ?_) (fun z => ?_)
    · refine bad (.inr (.inl ?_))
      have := of_decide_eq_true z
      omega
    · have hm3 : m ≤ 3 := by
        have : ¬ (3 : Int) < (m : Int) := fun y => z (decide_eq_true y)
        omega
      refine ⟨_, rfl, _, rfl, m, k, rfl, hm1, hm3, fun hk => ?_, fun hk => bad (.inr (.inr (.inr (.inl (by omega)))))⟩
      refine ⟨_, rfl, _, rfl, m, b, rfl, hm1, hm3, fun hb => ?_, fun hb => bad (.inr (.inr (.inr (.inr (by omega)))))⟩
      refine ⟨_, rfl, rfl, _, rfl, ?_⟩
      refine iteE (a := k) (b := 0) (fun z => bad (.inr (.inr (.inl z)))) (fun kz => ?_)
      have good : ¬ (m = 0 ∨ 3 < m ∨ k = 0 ∨ full m < k ∨ full m < b) := by omega
      rw [if_neg good] at R
      refine ⟨_, rfl, b, rfl, fun bz => ?_, fun bz => ?_⟩
      · rw [if_neg bz] at R
        refine ⟨_, rfl, _, rfl, d, t.C, dx, _, rfl, A0.ob, T.cl, T.nL, (by show 4 < 1000; decide), ?_⟩
        refine ⟨_, rfl, _, rfl, d, t.C, dx, _, rfl, upd_same, T.cl, T.nK, (by show 4 < 1000; decide), ?_⟩
        refine ⟨_, rfl, _, rfl, d, t.C, dx, _, rfl, upd_same, T.cl, T.nB, (by show 4 < 1000; decide), ?_⟩
        refine ⟨Nat.zero_le _, fun l2 hl2 => ?_⟩
        rw [upd_upd, upd_upd] at hl2 ⊢
        have hl20 := free_upd A0.ob hl2
        have dl : d ≠ l2 := (none_ne A0.ob hl20).symm
        refine ⟨_, rfl, d, t.C, dx, _, rfl, (by rw [upd_ne dl]; exact upd_same), T.cl, T.nS, (by show 4 < 1000; decide), ?_⟩
        refine ⟨_, rfl, b, rfl, (by have := Mc.full_le hm3; omega), ?_⟩
        refine ⟨(by show 1 ≤ sizeLine; decide), fun q hq => ?_⟩
        have hq1 : q ≠ d := fun z => by
          rw [z, upd_same] at hq
          cases hq
        have hq2 : q ≠ l2 := fun z => by
          rw [z, upd_ne dl.symm, upd_same] at hq
          cases hq
        have hq0 : H q = none := by
          rw [upd_ne hq1, upd_ne hq2, upd_ne hq1] at hq
          exact hq
        refine R.2.2 (Int.natCast_nonneg _) _ q hq0 ?_ l2 (.inr hl20) ⟨⟨dx, ⟨?_, ?_⟩⟩, Fit.begin hm1 hm3 hk kz hb bz⟩ fun c u e n => ?_
        · rw [upd_same]
          show some (HO.lst [V.int _]) = some (HO.lst [V.int ((count m b : Nat) : Int)])
          rw [Mc.pc8m hm3 hb]
        · rw [upd_ne hq1.symm, upd_same]
          rfl
        · rw [upd_ne hq2.symm, upd_ne dl.symm, upd_same]
          rfl
        · rw [upd_ne (ne_of_none e hq0), upd_ne n, upd_ne (ne_of_none e hl20), upd_ne n]
          exact e
      · rw [if_pos bz] at R
        exact R.2.1 rfl H (Same.refl H)
end
end Mp
end

section
set_option Elab.async false
set_option linter.all false
set_option maxRecDepth 100000
set_option maxHeartbeats 2000000
/-! The defs of the calls: stock, concede, deny, may, counts, nth. -/
namespace Mp
open PySem PySem.Spec PyProof.Rows L2
open Krb7 (full both not_ within truth right count worlds why)
open Krc9 (House)
open Mc (wo nx canB tell Fit One Nat32)

theorem cut_from (xs : List V) (k : Nat) : cutV xs (some (k : Int)) none = xs.drop k := by
  unfold cutV
  rw [HT.sIx_nat, HT.sIx_none]
  by_cases h : k ≤ xs.length
  · rw [Nat.min_eq_left h]
    exact List.take_of_length_le (by rw [List.length_drop]; exact Nat.le_refl _)
  · rw [Nat.min_eq_right (by omega), List.drop_of_length_le (Nat.le_refl _), List.drop_of_length_le (by omega)]
    exact List.take_nil
theorem cut_part (xs : List V) {i j : Nat} (hi : i ≤ xs.length) (hj : j ≤ xs.length) : cutV xs (some (i : Int)) (some (j : Int)) = (xs.drop i).take (j - i) := by
  unfold cutV
  rw [HT.sIx_nat, HT.sIx_nat, Nat.min_eq_left hi, Nat.min_eq_left hj]
theorem map_nV (l : List Nat) : (l.map (fun (x : Nat) => (x : Int))).map V.int = nV l := by
  unfold nV
  rw [List.map_map]
  rfl

section
variable {P : Program} {w : World} {K : PySem.W.Frag} {mg : Str → Option Value} {base : Heap} {t : Ad}

theorem cb_put_stock (T : Tx K mg t) : Cb P w K mg base (CXF P w) 6 "put_stock" (spC t 4) := cb_of T.put_stock fun f fd F => by
  refine F.okX cs_put_stock spC_len (fun cdv A outer s H vs Q E hr h => ?_)
  obtain ⟨d, a, l, st, c, args, rfl, o, n32, D, hs, ha, R⟩ := h
  obtain ⟨ls, rfl, rfl⟩ := one4 o n32
  obtain ⟨h, rfl⟩ := began hs
  obtain ⟨⟨dx, A0⟩, Fh⟩ := D
  have nd := cs_put_stock.nd
  refine ⟨_, pss_cons (ps_set (i := 2) nd rfl (Or.inl rfl) (pe_slice sl_list (pv 1) (po_some pe_int) po_none))
    (pss_cons (ps_if (pt_cmpR op_gt (pe_callB call_len_seq (by rfl) T.len PySem.boot_len (pa_cons (pv 2) pa_nil)) (pe_gi T.most6) (nomark _)) (pss_one (ps_raise rfl raises_cx rfl T.x2 T.o2)) pss_nil)
    (pss_cons (ps_for passes_cx rfl (pi_list (pv 2)) (pg_name (i := 3) nd rfl (Or.inl rfl)) (pss_one (ps_expr (pe_cb (cb_chkP T) (hr.mono (by decide)) pass_on (pa_cons (pe_fld (pv 0) rfl) (pa_cons (pv 3) pa_nil))))))
    (pss_cons (ps_fld (pv 0) (pv 2) rfl)
    (pss_one (ps_ret (pe_lst (pa_cons (pe_callB call_len_seq (by rfl) T.len PySem.boot_len (pa_cons (pv 2) pa_nil)) pa_nil))))))), ?_⟩
  replace R := Eq.mp (congrArg (Res t H Q E d l) (Mc.act_stock ls)) R
  refine ⟨_, rfl, _, rfl, a, _, rfl, SqL.of ha, fun l2 hl2 => ?_⟩
  have ec : cutV (((ls.length : Int) :: ls.map (fun (x : Nat) => (x : Int))).map V.int) (some ((1 : Nat) : Int)) none = nV ls := by
    rw [cut_from, List.map_cons, map_nV]
    rfl
  have hL : upd H l2 (.lst (cutV (((ls.length : Int) :: ls.map (fun (x : Nat) => (x : Int))).map V.int) (some ((1 : Nat) : Int)) none)) l2 = some (.lst (nV ls)) := by rw [upd_same, ec]
  have sH : Same H (upd H l2 (.lst (cutV (((ls.length : Int) :: ls.map (fun (x : Nat) => (x : Int))).map V.int) (some ((1 : Nat) : Int)) none))) := same_upd (Same.refl H) hl2
  generalize hH1 : upd H l2 (.lst (cutV (((ls.length : Int) :: ls.map (fun (x : Nat) => (x : Int))).map V.int) (some ((1 : Nat) : Int)) none)) = H1 at hL sH
  have A1 := A0.same sH
  refine ⟨_, rfl, l2, _, rfl, .inl (SqL.of hL), _, _, rfl, rfl, _, rfl, ?_⟩
  have bad : (6 < ls.length ∨ ∃ p ∈ ls, ¬ p ≤ full h.m) → E (.ref t.c2) none H1 := fun z => by
    rw [if_pos z] at R
    exact R.1 rfl H1 sH
  refine ite2 (fun z => ?_) (fun z => ?_)
  · refine bad (.inl ?_)
    have := of_decide_eq_true z
    rw [nV_len] at this
    omega
  · have hlen : ls.length ≤ 6 := by
      have : ¬ (6 : Int) < ((nV ls).length : Int) := fun y => z (decide_eq_true y)
      rw [nV_len] at this
      omega
    refine ⟨_, rfl, l2, rfl, ⟨_, SqL.of hL⟩, for_list (K := K) (a := l2) (xs := nV ls) (fun i σ H2 => ∃ v3 : Option V, σ = [some (.ref d), some (.ref a), some (.ref l2), v3] ∧ H2 = H1 ∧ ∀ j p, j < i → ls[j]? = some p → p ≤ full h.m)
      ⟨none, rfl, rfl, fun j p hj => absurd hj (by omega)⟩ (fun i σ H2 _ ⟨_, _, e2, _⟩ => by rw [e2]; exact SqL.of hL) ?_ ?_⟩
    · rintro i y σ H2 hy ⟨v3, rfl, rfl, hn⟩
      obtain ⟨n, hn1, rfl⟩ := nV_at hy
      refine ⟨_, rfl, d, t.C, dx, _, _, rfl, A1.ob, T.cl, T.nL, rfl, _, rfl, h.m, n, rfl, Fh.m1, Fh.m3, fun hx => ?_, fun hx => ?_⟩
      · refine ⟨_, rfl, rfl, fun j p hj hp => ?_⟩
        by_cases e : j = i
        · rw [e, hn1] at hp
          rw [← Option.some.inj hp]
          exact hx
        · exact hn j p (by omega) hp
      · exact bad (.inr ⟨n, List.mem_of_getElem? hn1, hx⟩)
    · rintro σ H2 ⟨v3, rfl, rfl, hn⟩
      rw [nV_len] at hn
      have hall : ∀ p ∈ ls, p ≤ full h.m := fun p hp => by
        obtain ⟨j, hj, e⟩ := List.mem_iff_getElem.mp hp
        exact hn j p hj (by rw [List.getElem?_eq_getElem hj, e])
      have good : ¬ (6 < ls.length ∨ ∃ p ∈ ls, ¬ p ≤ full h.m) := by
        rintro (z | ⟨p, hp, z⟩)
        · omega
        · exact z (hall p hp)
      rw [if_neg good] at R
      have dl : l2 ≠ d := none_ne A0.ob hl2
      refine ⟨_, rfl, _, rfl, d, t.C, dx, _, rfl, A1.ob, T.cl, T.nS, (by show 4 < 1000; decide), ?_⟩
      refine ⟨_, rfl, l2, _, rfl, .inl (SqL.of (by rw [upd_ne dl]; exact hL)), ?_⟩
      refine ⟨(by show 1 ≤ sizeLine; decide), fun q hq => ?_⟩
      have hq1 := free_upd A1.ob hq
      refine R.2.2 (Int.natCast_nonneg _) _ q (sH.free hq1) ?_ l2 (.inr hl2) ⟨⟨dx, ⟨?_, ?_⟩⟩, Fh.put hlen hall⟩ fun c u e n => ?_
      · rw [upd_same, nV_len]
        rfl
      · rw [upd_ne (ne_of_none A1.ob hq1), upd_same]
        rfl
      · rw [upd_ne (ne_of_none hL hq1), upd_ne dl]
        exact hL
      · rw [upd_ne (ne_of_none (sH _ _ e) hq1), upd_ne n]
        exact sH _ _ e

/-! ### the rows that are told -/
theorem row_eq {h : House} (F : Fit h) {a x : Nat} : h.row a x = if rowL h.m h.known h.stands a x = [] then none else some (rowL h.m h.known h.stands a x) := by
  unfold House.row rowL
  rw [Mc.ahead_eq F]
  by_cases e : right h.known h.stands x = a
  · rw [if_pos e, if_pos e, if_neg (by simp)]
  · rw [if_neg e, if_neg e]
    cases (List.range (full h.m + 1)).find? fun p => right h.known (nx h.known h.stands p) x == a with
    | none => rfl
    | some p => rfl
inductive ISpTell (t : Ad) (vs : List V) (H : Hp) (Q : VK) (E : XK) : Prop
  | mk (d l : Addr) (a x : Nat) (h : House) (h0_ : vs = [.ref d, .int a, .int x]) (h1_ : Dat t.C H d l (some h)) (h2_ : (¬ x ≤ full h.m → ∀ H', Same H H' → E (.ref t.c2) none H')) (h3_ : (x ≤ full h.m → (h.row a x = none → ∀ H', Same H H' → E (.ref t.c3) none H') ∧ ∀ r, h.row a x = some r → NewL H Q (r.length :: r))) : ISpTell t vs H Q E
def spTell (t : Ad) : Sp := fun vs H Q E => ISpTell t vs H Q E
theorem rowL_len (m k b a x : Nat) : (rowL m k b a x).length ≤ 2 := by
  unfold rowL
  split
  · exact Nat.le_succ 1
  · split
    · exact Nat.le_refl 2
    · exact Nat.zero_le 2
theorem cb_tell_row (T : Tx K mg t) : Cb P w K mg base (CXF P w) 7 "tell_row" (spTell t) := cb_of T.tell_row fun f fd F => by
  refine F.okX cs_tell_row (fun vs H Q E h => ?_) (fun cdv A outer s H vs Q E hr h => ?_)
  · obtain ⟨d, l, a, x, h, rfl, _⟩ := h
    rfl
  · obtain ⟨d, l, a, x, h, rfl, ⟨⟨dx, A0⟩, Fh⟩, h22, R⟩ := h
    have nd := cs_tell_row.nd
    refine ⟨_, pss_cons (ps_expr (pe_cb (cb_chkP T) (hr.mono (by decide)) pass_on (pa_cons (pe_fld (pv 0) rfl) (pa_cons (pv 2) pa_nil))))
      (pss_cons (ps_set (i := 3) nd rfl (Or.inl rfl) (pe_cb (cb_row T.toTxW) (hr.mono (by decide)) pass0 (pa_cons (pe_fld (pv 0) rfl) (pa_cons (pe_fld (pv 0) rfl) (pa_cons (pe_fld (pv 0) rfl) (pa_cons (pv 1) (pa_cons (pv 2) pa_nil)))))))
      (pss_cons (ps_if (pt_cmpR op_eq (pe_callB call_len_seq (by rfl) T.len PySem.boot_len (pa_cons (pv 3) pa_nil)) pe_int (nomark _)) (pss_one (ps_raise rfl raises_cx rfl T.x3 T.o3)) pss_nil)
      (pss_one (ps_ret (pe_op op_cat (pe_lst (pa_cons (pe_callB call_len_seq (by rfl) T.len PySem.boot_len (pa_cons (pv 3) pa_nil)) pa_nil)) (pv 3)))))), ?_⟩
    refine ⟨_, rfl, d, t.C, dx, _, _, rfl, A0.ob, T.cl, T.nL, rfl, _, rfl, h.m, x, rfl, Fh.m1, Fh.m3, fun hx => ?_, fun hx => h22 hx H (Same.refl H)⟩
    refine ⟨_, rfl, d, t.C, dx, _, _, rfl, A0.ob, T.cl, T.nL, rfl, _, rfl, d, t.C, dx, _, _, rfl, A0.ob, T.cl, T.nK, rfl, _, rfl, d, t.C, dx, _, _, rfl, A0.ob, T.cl, T.nB, rfl, _, rfl, _, rfl, h.m, h.known, h.stands, a, x, rfl, Fh.m1, Fh.m3, fun H1 r s1 fr hr1 => ?_⟩
    obtain ⟨R3, RO⟩ := R hx
    rw [row_eq Fh] at R3 RO
    have hlen := rowL_len h.m h.known h.stands a x
    refine ⟨_, rfl, r, _, rfl, .inl (SqL.of hr1), rfl, _, rfl, ?_⟩
    rw [nV_len]
    refine iteE (a := (rowL h.m h.known h.stands a x).length) (b := 0) (fun z => ?_) (fun z => ?_)
    · exact R3 (if_pos (List.eq_nil_of_length_eq_zero z)) H1 s1
    · have ne : ¬ rowL h.m h.known h.stands a x = [] := fun y => z (by rw [y]; rfl)
      refine ⟨_, rfl, r, _, rfl, .inl (SqL.of hr1), (by show 1 ≤ sizeLine; decide), fun q hq => ?_⟩
      have hqr : r ≠ q := ne_of_none hr1 hq
      refine ⟨_, rfl, q, r, _, _, rfl, rfl, upd_same, (by rw [upd_ne hqr]; exact hr1), ?_, fun u hu => ?_⟩
      · refine Nat.le_of_lt (line1000 ?_)
        rw [nV_len]
        show 1 + _ ≤ 1000
        omega
      · have s2 : Same H1 (upd H1 q (.lst [.int ((nV (rowL h.m h.known h.stands a x)).length : Int)])) := same_upd (Same.refl H1) hq
        refine RO _ (if_neg ne) _ u (same_upd (s1.trans s2) hu) (s1.free (s2.free hu)) ?_
        rw [upd_same, nV_len]
        rfl
theorem told_list (r : List Nat) : (Krc9Neutral.told (Krc9.list r)).map V.int = nV (r.length :: r) := by
  show (((r.length : Nat) : Int) :: r.map fun (x : Nat) => (x : Int)).map V.int = _
  rw [List.map_cons, map_nV]
  rfl
theorem res_tell {H : Hp} {Q : VK} {E : XK} {d : Addr} {h : House} {dx l : Addr} {a x : Nat} (A0 : At t.C H d dx l h.m h.known h.stands h.stock) (Fh : Fit h) (R : Res t H Q E d l (some h, Krc9.row? (h.row a x))) :
    (h.row a x = none → ∀ H', Same H H' → E (.ref t.c3) none H') ∧ ∀ r, h.row a x = some r → NewL H Q (r.length :: r) := by
  refine ⟨fun e => ?_, fun r e => ?_⟩
  · rw [e] at R
    exact R.2.1 rfl
  · rw [e] at R
    intro H' q s1 hq hl
    exact R.2.2 (Int.natCast_nonneg _) H' q hq (by rw [hl]; congr 2; exact (told_list r).symm) l (.inl rfl) ⟨⟨dx, A0.same s1⟩, Fh⟩ (Same.but d s1)
theorem cb_concede (T : Tx K mg t) : Cb P w K mg base (CXF P w) 8 "concede" (spC t 6) := cb_of T.concede fun f fd F => by
  refine F.okX cs_concede spC_len (fun cdv A outer s H vs Q E hr h => ?_)
  obtain ⟨d, a, l, st, c, args, rfl, o, n32, D, hs, ha, R⟩ := h
  obtain ⟨x, rfl, rfl⟩ := one1 o n32 (by decide) rfl
  obtain ⟨h, rfl⟩ := began hs
  obtain ⟨⟨dx, A0⟩, Fh⟩ := D
  refine ⟨_, pss_one (ps_ret (pe_cb (cb_tell_row T) hr pass_on (pa_cons (pv 0) (pa_cons (pe_gi T.conceded) (pa_cons (pe_ix ix_list (pv 1) pe_int (fun _ _ => rfl)) pa_nil))))), ?_⟩
  refine ⟨_, rfl, _, rfl, a, _, _, _, rfl, rfl, SqL.of ha, at_of (j := 0) rfl rfl, ?_⟩
  refine ⟨d, l, 1, x, h, rfl, ⟨⟨dx, A0⟩, Fh⟩, fun hx => ?_, fun hx => ?_⟩
  · exact (Eq.mp (congrArg (Res t H Q E d l) (Mc.act_bad1 6 (by decide) hx)) R).1 rfl
  · exact res_tell A0 Fh (Eq.mp (congrArg (Res t H Q E d l) (Mc.act_concede hx)) R)
theorem cb_deny (T : Tx K mg t) : Cb P w K mg base (CXF P w) 8 "deny" (spC t 7) := cb_of T.deny fun f fd F => by
  refine F.okX cs_deny spC_len (fun cdv A outer s H vs Q E hr h => ?_)
  obtain ⟨d, a, l, st, c, args, rfl, o, n32, D, hs, ha, R⟩ := h
  obtain ⟨x, rfl, rfl⟩ := one1 o n32 (by decide) rfl
  obtain ⟨h, rfl⟩ := began hs
  obtain ⟨⟨dx, A0⟩, Fh⟩ := D
  refine ⟨_, pss_one (ps_ret (pe_cb (cb_tell_row T) hr pass_on (pa_cons (pv 0) (pa_cons (pe_gi T.denied) (pa_cons (pe_ix ix_list (pv 1) pe_int (fun _ _ => rfl)) pa_nil))))), ?_⟩
  refine ⟨_, rfl, _, rfl, a, _, _, _, rfl, rfl, SqL.of ha, at_of (j := 0) rfl rfl, ?_⟩
  refine ⟨d, l, 0, x, h, rfl, ⟨⟨dx, A0⟩, Fh⟩, fun hx => ?_, fun hx => ?_⟩
  · exact (Eq.mp (congrArg (Res t H Q E d l) (Mc.act_bad1 7 (by decide) hx)) R).1 rfl
  · exact res_tell A0 Fh (Eq.mp (congrArg (Res t H Q E d l) (Mc.act_deny hx)) R)
end
end Mp
end

section
set_option Elab.async false
set_option linter.all false
set_option maxRecDepth 100000
set_option maxHeartbeats 2000000
/-! The defs of the calls: may, counts, nth. -/
namespace Mp
open PySem PySem.Spec PyProof.Rows L2
open Krb7 (full both not_ within truth right count worlds why)
open Krc9 (House)
open Mc (wo nx canB tell Fit One Nat32)

/-- what the loop of may has added up behind i turns -/
def addU (k b x i : Nat) : Nat := (if 0 < i ∧ canB k b 0 x = true then 1 else 0) + (if 1 < i ∧ canB k b 1 x = true then 2 else 0) + (if 2 < i ∧ canB k b 2 x = true then 4 else 0)
theorem addU_step (k b x : Nat) {i : Nat} (hi : i < 3) : addU k b x (i + 1) = if canB k b i x = true then addU k b x i + 2 ^ i else addU k b x i := by
  unfold addU
  match i, hi with
  | 0, _ =>
    generalize canB k b 0 x = c0
    cases c0 <;> rfl
  | 1, _ =>
    generalize canB k b 0 x = c0
    generalize canB k b 1 x = c1
    cases c0 <;> cases c1 <;> rfl
  | 2, _ =>
    generalize canB k b 0 x = c0
    generalize canB k b 1 x = c1
    generalize canB k b 2 x = c2
    cases c0 <;> cases c1 <;> cases c2 <;> rfl
theorem may_sum {h : House} (F : Fit h) {x : Nat} (hx : x ≤ full h.m) : Krc9.bits ([0, 1, 2].filter fun a => h.can a x) = addU h.known h.stands x 3 := by
  rw [Mc.bits_eq (canB h.known h.stands 0 x) (canB h.known h.stands 1 x) (canB h.known h.stands 2 x) (fun a => h.can a x) (Mc.can_eq F (by decide) hx) (Mc.can_eq F (by decide) hx) (Mc.can_eq F (by decide) hx)]
  unfold addU
  simp

theorem tyes {σ : L2.St} {H : Hp} {A B : Hp → Prop} (h : A H) : tYes σ H (fun b H3 => if b = true then A H3 else B H3) := by
  show (if true = true then A H else B H)
  rw [if_pos rfl]
  exact h
/-- len, where the context is a block's -/
def rLen (K : PySem.W.Frag) : List V → Hp → VK → Prop := fun xs H Q => ∃ p ys, xs = [.ref p] ∧ (SqL K H p ys ∨ SqT K H p ys) ∧ Q (.int ys.length) H
theorem call_lenK {X : Cx} (K : PySem.W.Frag) (e : X.K = K := by rfl) : CallR X (.builtin "len") (rLen K) := by
  subst e
  exact call_len_seq
section
variable {P : Program} {w : World} {K : PySem.W.Frag} {mg : Str → Option Value} {base : Heap} {t : Ad}

inductive ISpAdd (t : Ad) (vs : List V) (H : Hp) (Q : VK) (E : XK) : Prop
  | mk (d l : Addr) (x : Nat) (h : House) (h0_ : vs = [.ref d, .int x]) (h1_ : Dat t.C H d l (some h)) (h2_ : ∀ H', Same H H' → Q (.int (addU h.known h.stands x 3 : Nat)) H') : ISpAdd t vs H Q E
def spAdd (t : Ad) : Sp := fun vs H Q E => ISpAdd t vs H Q E
theorem cb_added (T : Tx K mg t) : Cb P w K mg base CX0 5 "added_answers" (spAdd t) := cb_of T.added_answers fun f fd F => by
  refine F.ok cs_added_answers (fun vs H Q E h => ?_) (fun cdv A outer s H vs Q E hr h => ?_)
  · obtain ⟨d, l, x, h, rfl, _⟩ := h
    rfl
  obtain ⟨d, l, x, h, rfl, ⟨⟨dx, A0⟩, Fh⟩, k⟩ := h
  have nd := cs_added_answers.nd
  refine ⟨_, pss_cons (ps_set (i := 2) nd rfl (Or.inl rfl) pe_int)
    (pss_cons (ps_for PassesOwn.never rfl (pi_tup (pe_tup (pa_cons (pe_gi T.denied) (pa_cons (pe_gi T.conceded) (pa_cons (pe_gi T.doubted) pa_nil))))) (pg_name (i := 3) nd rfl (Or.inl rfl))
      (pss_one (ps_if (pt_val (pe_cb (cb_can T.toTxW) (hr.mono (by decide)) pass0 (pa_cons (pe_fld (pv 0) rfl) (pa_cons (pe_fld (pv 0) rfl) (pa_cons (pv 3) (pa_cons (pv 1) pa_nil))))))
        (pss_one (ps_aug (i := 2) nd rfl (Or.inl rfl) (pe_op op_shl pe_int (pv 3)) ip_add)) pss_nil)))
    (pss_one (ps_ret (pv 2)))), ?_⟩
  refine ⟨(by show 3 ≤ sizeLine; decide), fun u hu => ?_⟩
  have sU : Same H (upd H u (.tup [.int 0, .int 1, .int 2])) := same_upd (Same.refl H) hu
  have hU : upd H u (.tup [.int 0, .int 1, .int 2]) u = some (.tup [.int 0, .int 1, .int 2]) := upd_same
  have A1 := A0.same sU
  refine ⟨u, rfl, ⟨_, SqT.of hU⟩, for_tup (K := K) (a := u) (xs := [.int 0, .int 1, .int 2]) (fun i σ H2 => ∃ v3 : Option V, σ = [some (.ref d), some (.int x), some (.int (addU h.known h.stands x i : Nat)), v3] ∧ H2 = upd H u (.tup [.int 0, .int 1, .int 2]))
    ⟨none, by simp only [addU]; rfl, rfl⟩ (fun i σ H2 _ ⟨_, _, e2⟩ => by rw [e2]; exact SqT.of hU) ?_ ?_⟩
  · rintro i y σ H2 hy ⟨v3, rfl, rfl⟩
    obtain ⟨hi, rfl⟩ : i < 3 ∧ y = V.int (i : Int) := by
      match i, hy with
      | 0, hy => exact ⟨by decide, (Option.some.inj hy).symm⟩
      | 1, hy => exact ⟨by decide, (Option.some.inj hy).symm⟩
      | 2, hy => exact ⟨by decide, (Option.some.inj hy).symm⟩
      | i + 3, hy => simp at hy
    refine ⟨_, rfl, d, t.C, dx, _, _, rfl, A1.ob, T.cl, T.nK, rfl, _, rfl, d, t.C, dx, _, _, rfl, A1.ob, T.cl, T.nB, rfl, _, rfl, _, rfl, h.known, h.stands, i, x, rfl, by omega, _, rfl, ?_⟩
    have st := addU_step h.known h.stands x hi
    refine ite2 (fun z => ?_) (fun z => ?_)
    · rw [if_pos z] at st
      refine ⟨_, rfl, _, rfl, _, _, rfl, rfl, ⟨by omega, by omega, by decide⟩, _, _, rfl, rfl, ?_⟩
      refine ⟨some (.int i), ?_, rfl⟩
      rw [st]
      have e : (1 : Int) * 2 ^ ((i : Int)).toNat = ((2 ^ i : Nat) : Int) := by
        rw [Int.one_mul, Int.toNat_natCast]
        exact (Int.natCast_pow 2 i).symm
      show [some (V.ref d), some (V.int x), some (V.int ((addU h.known h.stands x i : Nat) + 1 * 2 ^ ((i : Int)).toNat)), some (V.int i)] = _
      rw [e, ← Int.natCast_add]
    · rw [if_neg z] at st
      exact ⟨_, by rw [st]; rfl, rfl⟩
  · rintro σ H2 ⟨v3, rfl, rfl⟩
    exact ⟨_, rfl, k _ sU⟩

theorem cb_may (T : Tx K mg t) : Cb P w K mg base (CXF P w) 6 "may" (spC t 8) := cb_of T.may fun f fd F => by
  refine F.okX cs_may spC_len (fun cdv A outer s H vs Q E hr h => ?_)
  obtain ⟨d, a, l, st, c, args, rfl, o, n32, D, hs, ha, R⟩ := h
  obtain ⟨x, rfl, rfl⟩ := one1 o n32 (by decide) rfl
  obtain ⟨h, rfl⟩ := began hs
  obtain ⟨⟨dx, A0⟩, Fh⟩ := D
  have nd := cs_may.nd
  refine ⟨_, pss_cons (ps_set (i := 2) nd rfl (Or.inl rfl) (pe_ix ix_list (pv 1) pe_int (fun _ _ => rfl)))
    (pss_cons (ps_expr (pe_cb (cb_chkP T) (hr.mono (by decide)) pass_on (pa_cons (pe_fld (pv 0) rfl) (pa_cons (pv 2) pa_nil))))
    (pss_one (ps_ret (pe_lst (pa_cons (pe_cb (cb_added T) hr pass0 (pa_cons (pv 0) (pa_cons (pv 2) pa_nil))) pa_nil))))), ?_⟩
  refine ⟨_, rfl, a, _, _, _, rfl, rfl, SqL.of ha, at_of (j := 0) rfl rfl, ?_⟩
  refine ⟨_, rfl, d, t.C, dx, _, _, rfl, A0.ob, T.cl, T.nL, rfl, _, rfl, h.m, x, rfl, Fh.m1, Fh.m3, fun hx => ?_, fun hx => (Eq.mp (congrArg (Res t H Q E d l) (Mc.act_bad1 8 (by decide) hx)) R).1 rfl H (Same.refl H)⟩
  replace R := Eq.mp (congrArg (Res t H Q E d l) (Mc.act_may hx)) R
  rw [may_sum Fh hx] at R
  refine ⟨_, rfl, _, rfl, d, l, x, h, rfl, ⟨⟨dx, A0⟩, Fh⟩, fun H1 s1 => ?_⟩
  refine ⟨(by show 1 ≤ sizeLine; decide), fun q hq => ?_⟩
  refine R.2.2 (Int.natCast_nonneg _) _ q (s1.free hq) ?_ l (.inl rfl) ⟨⟨dx, A0.same (same_upd s1 hq)⟩, Fh⟩ (Same.but d (same_upd s1 hq))
  rw [upd_same]
  rfl

inductive ISpThose (t : Ad) (vs : List V) (H : Hp) (Q : VK) (E : XK) : Prop
  | mk (d l : Addr) (a : Nat) (h : House) (h0_ : vs = [.ref d, .int a]) (h1_ : a ≤ 2) (h2_ : Dat t.C H d l (some h)) (h3_ : NewL H Q (h.all a)) : ISpThose t vs H Q E
def spThose (t : Ad) : Sp := fun vs H Q E => ISpThose t vs H Q E
theorem cb_those (T : Tx K mg t) : Cb P w K mg base CX0 6 "those_that_can_be_made" (spThose t) := cb_of T.those fun f fd F => by
  refine F.ok cs_those_that_can_be_made (fun vs H Q E h => ?_) (fun cdv A outer s H vs Q E hr h => ?_)
  · obtain ⟨d, l, a, h, rfl, _⟩ := h
    rfl
  · obtain ⟨d, l, a, h, rfl, ha, ⟨⟨dx, A0⟩, Fh⟩, k⟩ := h
    refine ⟨_, pss_one (ps_ret (pe_cb (cb_all T.toTxW) hr pass0 (pa_cons (pe_fld (pv 0) rfl) (pa_cons (pe_fld (pv 0) rfl) (pa_cons (pe_fld (pv 0) rfl) (pa_cons (pv 1) pa_nil)))))), ?_⟩
    rw [Mc.all_eq Fh ha] at k
    exact ⟨_, rfl, d, t.C, dx, _, _, rfl, A0.ob, T.cl, T.nL, rfl, _, rfl, d, t.C, dx, _, _, rfl, A0.ob, T.cl, T.nK, rfl, _, rfl, d, t.C, dx, _, _, rfl, A0.ob, T.cl, T.nB, rfl, _, rfl, h.m, h.known, h.stands, a, rfl, Fh.m1, Fh.m3, ha, k⟩

theorem cb_counts (T : Tx K mg t) : Cb P w K mg base (CXF P w) 7 "counts" (spC t 9) := cb_of T.counts fun f fd F => by
  refine F.okX cs_counts spC_len (fun cdv A outer s H vs Q E hr h => ?_)
  obtain ⟨d, a, l, st, c, args, rfl, o, n32, D, hs, ha, R⟩ := h
  obtain ⟨rfl, rfl⟩ := one0 o (by decide) rfl
  obtain ⟨h, rfl⟩ := began hs
  obtain ⟨⟨dx, A0⟩, Fh⟩ := D
  have nd := cs_counts.nd
  refine ⟨_, pss_one (ps_ret (pe_lc (own := [("wanted", 2)]) rfl nd (pi_tup (pe_tup (pa_cons (pe_gi T.conceded) (pa_cons (pe_gi T.denied) (pa_cons (pe_gi T.doubted) pa_nil)))))
    (blkOk_by (N := ["disputation", "arguments", "wanted"]) (sc := defScope s_counts) (by decide +kernel)) (fun _ _ _ _ _ => pg_name (i := 2) nd rfl (Or.inl rfl)) (fun _ _ _ _ _ => pts_nil)
    (fun _ _ _ _ _ => pe_callB (call_lenK K) (by rfl) T.len PySem.boot_len (pa_cons (pe_cb (cb_those T) hr pass0 (pa_cons (pv 0) (pa_cons (pv 2) pa_nil))) pa_nil)))), ?_⟩
  replace R := Eq.mp (congrArg (Res t H Q E d l) Mc.act_counts) R
  refine ⟨(by show 3 ≤ sizeLine; decide), fun u hu => ?_⟩
  have sU : Same H (upd H u (.tup [.int 1, .int 0, .int 2])) := same_upd (Same.refl H) hu
  have hU : upd H u (.tup [.int 1, .int 0, .int 2]) u = some (.tup [.int 1, .int 0, .int 2]) := upd_same
  generalize upd H u (.tup [.int 1, .int 0, .int 2]) = H1 at sU hU
  have A1 := A0.same sU
  refine ⟨u, rfl, ⟨_, SqT.of hU⟩, fun D hD => ?_⟩
  refine lc_tup (K := K) (a := u) (xs := nV [1, 0, 2]) (fun i H2 => H2 D = some (.lst (nV (([1, 0, 2].take i).map fun a => (h.all a).length))) ∧ Same H1 H2) ⟨upd_same, same_upd (Same.refl H1) hD⟩
    (fun i H2 _ hh => SqT.of (hh.2 _ _ hU)) ?_ ?_
  · rintro i y H2 hy ⟨hd, s2⟩
    obtain ⟨n, hn, rfl⟩ := nV_at hy
    have hn2 : n ≤ 2 := by
      have := List.mem_of_getElem? hn
      simp only [List.mem_cons, List.not_mem_nil, or_false] at this
      omega
    have hi : i < 3 := (List.getElem?_eq_some_iff.mp hn).1
    have A2 := A1.same s2
    refine ⟨rfl, ?_⟩
    refine tyes ?_
    refine ⟨_, rfl, _, rfl, d, l, n, h, rfl, hn2, ⟨⟨dx, A2⟩, Fh⟩, fun H3 r s3 fr hr3 => ?_⟩
    refine ⟨r, _, rfl, .inl (SqL.of hr3), _, s3 _ _ hd, ?_, ?_, fun b o hb => ?_⟩
    · rw [nV_len, List.length_map]
      refine line1000 ?_
      have := List.length_take_le i [1, 0, 2]
      omega
    · rw [upd_same, nV_len, List.take_succ, hn, List.map_append, nV_app]
      rfl
    · rw [upd_ne (ne_of_none hb hD)]
      exact s3 _ _ (s2 _ _ hb)
  · rintro H2 ⟨hd, s2⟩
    have s3 := sU.trans s2
    refine R.2.2 (Int.natCast_nonneg _) H2 D (sU.free hD) ?_ l (.inl rfl) ⟨⟨dx, A0.same s3⟩, Fh⟩ (Same.but d s3)
    rw [hd]
    rfl

/-- one of a list, or there is none -/
def spPick (t : Ad) : Sp := fun vs H Q E => ∃ (r : Addr) (ns : List Nat) (y : Nat), vs = [.ref r, .int y] ∧ H r = some (.lst (nV ns)) ∧ (ns[y]? = none → E (.ref t.c3) none H) ∧ ∀ v, ns[y]? = some v → NewL H Q [v]
theorem cb_pick (T : Tx K mg t) : Cb P w K mg base (CXF P w) 1 "pick" (spPick t) := cb_of T.pick fun f fd F => by
  refine F.okX cs_pick (fun vs H Q E h => ?_) (fun cdv A outer s H vs Q E hr h => ?_)
  · obtain ⟨r, ns, y, rfl, _⟩ := h
    rfl
  obtain ⟨r, ns, y, rfl, hr1, kn, ks⟩ := h
  refine ⟨_, pss_cons (ps_if (pt_cmpR op_ge (pv 1) (pe_callB call_len_seq (by rfl) T.len PySem.boot_len (pa_cons (pv 0) pa_nil)) (nomark _)) (pss_one (ps_raise rfl raises_cx rfl T.x3 T.o3)) pss_nil)
    (pss_one (ps_ret (pe_lst (pa_cons (pe_ix ix_list (pv 0) (pv 1) (fun _ _ => rfl)) pa_nil)))), ?_⟩
  refine ⟨_, rfl, _, rfl, r, _, rfl, .inl (SqL.of hr1), _, _, rfl, rfl, _, rfl, ?_⟩
  rw [nV_len]
  refine ite2 (fun z => ?_) (fun z => ?_)
  · have hz : ns.length ≤ y := by
      have := of_decide_eq_true z
      omega
    exact kn (List.getElem?_eq_none hz)
  · have hz : y < ns.length := by
      have : ¬ ((ns.length : Nat) : Int) ≤ (y : Int) := fun u => z (decide_eq_true u)
      omega
    have e : ns[y]? = some ns[y] := List.getElem?_eq_getElem hz
    refine ⟨_, rfl, _, rfl, r, _, _, .int (ns[y] : Nat), rfl, rfl, SqL.of hr1, at_of (j := y) rfl ?_, ?_⟩
    · unfold nV
      rw [List.getElem?_map, e]
      rfl
    · refine ⟨(by show 1 ≤ sizeLine; decide), fun q hq => ?_⟩
      exact ks _ e _ q (same_upd (Same.refl H) hq) hq upd_same
/-- what the k-th of a list comes to -/
theorem res_pick {H : Hp} {Q : VK} {E : XK} {d dx l : Addr} {h : House} {ns : List Nat} {y : Nat} (A0 : At t.C H d dx l h.m h.known h.stands h.stock) (Fh : Fit h) (R : Res t H Q E d l (some h, Mc.nthA ns y)) {H1 : Hp} (s1 : Same H H1) :
    (ns[y]? = none → E (.ref t.c3) none H1) ∧ ∀ v, ns[y]? = some v → NewL H1 Q [v] := by
  unfold Mc.nthA at R
  refine ⟨fun e => ?_, fun v e => ?_⟩
  · rw [e] at R
    exact R.2.1 rfl H1 s1
  · rw [e] at R
    intro H' q s2 hq hl
    exact R.2.2 (Int.natCast_nonneg _) H' q (s1.free hq) hl l (.inl rfl) ⟨⟨dx, A0.same (s1.trans s2)⟩, Fh⟩ (Same.but d (s1.trans s2))

theorem cb_nth (T : Tx K mg t) : Cb P w K mg base (CXF P w) 7 "nth" (spC t 10) := cb_of T.nth fun f fd F => by
  refine F.okX cs_nth spC_len (fun cdv A outer s H vs Q E hr h => ?_)
  obtain ⟨d, a, l, st, c, args, rfl, o, n32, D, hs, ha, R⟩ := h
  obtain ⟨x, y, rfl, rfl⟩ := one2 o n32 (by decide) rfl
  obtain ⟨h, rfl⟩ := began hs
  obtain ⟨⟨dx, A0⟩, Fh⟩ := D
  have nd := cs_nth.nd
  refine ⟨_, pss_cons (ps_expr (pe_cb (cb_chkA T) (hr.mono (by decide)) pass_on (pa_cons (pe_ix ix_list (pv 1) pe_int (fun _ _ => rfl)) pa_nil)))
    (pss_one (ps_ret (pe_cb (cb_pick T) (hr.mono (by decide)) pass_on (pa_cons (pe_cb (cb_those T) hr pass0 (pa_cons (pv 0) (pa_cons (pe_ix ix_list (pv 1) pe_int (fun _ _ => rfl)) pa_nil))) (pa_cons (pe_ix ix_list (pv 1) pe_int (fun _ _ => rfl)) pa_nil))))), ?_⟩
  replace R := Eq.mp (congrArg (Res t H Q E d l) Mc.act_nth) R
  refine ⟨_, rfl, a, _, _, _, rfl, rfl, SqL.of ha, at_of (j := 0) rfl rfl, ?_⟩
  refine ⟨x, rfl, fun hx => ?_, fun hx => ?_⟩
  · rw [if_neg (show ¬ 2 < x by omega)] at R
    refine ⟨_, rfl, _, rfl, a, _, _, _, rfl, rfl, SqL.of ha, at_of (j := 0) rfl rfl, d, l, x, h, rfl, hx, ⟨⟨dx, A0⟩, Fh⟩, fun H1 r s1 fr hr1 => ?_⟩
    refine ⟨_, rfl, a, _, _, _, rfl, rfl, SqL.of (s1 _ _ ha), at_of (j := 1) rfl rfl, r, h.all x, y, rfl, hr1, ?_⟩
    exact res_pick A0 Fh R s1
  · rw [if_pos (show 2 < x by omega)] at R
    exact R.1 rfl H (Same.refl H)
end
end Mp
end

section
set_option Elab.async false
set_option linter.all false
set_option maxRecDepth 100000
set_option maxHeartbeats 4000000
/-! The defs of the calls: false, falsenth, surely, from, least, reach, reachnth, stands, idle, state. -/
namespace Mp
open PySem PySem.Spec PyProof.Rows L2
open Krb7 (full both not_ within truth right count worlds why)
open Krc9 (House)
open Mc (wo nx canB tell Fit One Nat32 Fo)

theorem all_len (h : House) (F : Fit h) (a : Nat) : (h.all a).length ≤ 256 := by
  unfold House.all House.ps
  have l1 := List.length_filter_le (fun t => h.can a t) (List.range (full h.m + 1))
  rw [List.length_range] at l1
  have := Mc.full_le F.m3
  omega
theorem sure_sum {h : House} (F : Fit h) {x y : Nat} (hx : x ≤ 2) (hy : y ≤ full h.m) : ([0, 1, 2].filter fun a => h.can a y) = [x] ↔ addU h.known h.stands y 3 = 2 ^ x := by
  rw [Mc.sure_is hx, Mc.can_eq F (by decide) hy, Mc.can_eq F (by decide) hy, Mc.can_eq F (by decide) hy]
  unfold addU
  simp
/-- an attribute, an item of a list, where the context is a block's -/
theorem pe_fldK {X : Cx} {e : Expr} {f : Str} {pos : Pos} {ta : TE} (K : PySem.W.Frag) (he : PE X e ta) (hb : attributeBase e f X.env (eval e X.env) = eval e X.env) (eK : X.K = K := by rfl) : PE X (.Attribute e f pos) (tFld K ta f) := by
  subst eK
  exact pe_fld he hb
theorem ix_listK {X : Cx} (K : PySem.W.Frag) (eK : X.K = K := by rfl) : IxR X (rIxL K) := by
  subst eK
  exact ix_list
def FromI (d a p : Addr) (x y : Nat) (h : House) (H0 : Hp) (es : List (Nat × List Nat)) (i : Nat) (σ : L2.St) (H2 : Hp) : Prop := ∃ v5 : Option V, σ = [some (.ref d), some (.ref a), some (.int x), some (.int y), some (.ref p), v5] ∧ H2 = H0 ∧
  ∀ (j : Nat) (e : Nat × List Nat), j < i → es[j]? = some e → (right h.known e.1 y == x) = false
def IdleI (h : House) (D : Addr) (H1 : Hp) (i : Nat) (H2 : Hp) : Prop := H2 D = some (.lst (nV ((List.range i).filter fun i => h.reach.all fun b => h.next b (h.stock.getD i 0) == b))) ∧ Same H1 H2
def FalseI (h : House) (D : Addr) (H1 : Hp) (i : Nat) (H2 : Hp) : Prop := H2 D = some (.lst (nV (((h.all 1).take i).filter fun t => decide (why h.known t = 2)))) ∧ Same H1 H2
section
variable {P : Program} {w : World} {K : PySem.W.Frag} {mg : Str → Option Value} {base : Heap} {t : Ad}

inductive ISpFalse (t : Ad) (vs : List V) (H : Hp) (Q : VK) (E : XK) : Prop
  | mk (d l : Addr) (h : House) (h0_ : vs = [.ref d]) (h1_ : Dat t.C H d l (some h)) (h2_ : NewL H Q h.false_) : ISpFalse t vs H Q E
def spFalse (t : Ad) : Sp := fun vs H Q E => ISpFalse t vs H Q E
theorem cb_false (T : Tx K mg t) : Cb P w K mg base CX0 7 "false_that_can_be_conceded" (spFalse t) := cb_of T.false_that fun f fd F => by
  refine F.ok cs_false_that_can_be_conceded (fun vs H Q E h => ?_) (fun cdv A outer s H vs Q E hr h => ?_)
  · obtain ⟨d, l, h, rfl, _⟩ := h
    rfl
  obtain ⟨d, l, h, rfl, ⟨⟨dx, A0⟩, Fh⟩, k⟩ := h
  have nd := cs_false_that_can_be_conceded.nd
  refine ⟨_, pss_cons (ps_set (i := 1) nd rfl (Or.inl rfl) (pe_cb (cb_those T) hr pass0 (pa_cons (pv 0) (pa_cons (pe_gi T.conceded) pa_nil))))
    (pss_one (ps_ret (pe_lc (own := [("proposition", 2)]) rfl nd (pi_list (pv 1)) (blkOk_by (N := ["disputation", "found", "proposition"]) (sc := defScope s_false_that_can_be_conceded) (by decide +kernel)) (fun _ _ _ _ _ => pg_name (i := 2) nd rfl (Or.inl rfl))
      (fun _ _ _ _ _ => pts_one (pt_cmpR op_eq (pe_cb (cb_bearing T.toTxW) (hr.mono (by decide)) pass0 (pa_cons (pe_fldK K (pv 0) rfl) (pa_cons (pv 2) pa_nil))) (pe_gi T.against) (nomark _)))
      (fun _ _ _ _ _ => pv 2)))), ?_⟩
  rw [Mc.false_all] at k
  refine ⟨_, rfl, d, l, 1, h, rfl, by decide, ⟨⟨dx, A0⟩, Fh⟩, fun H1 e s1 fe he => ?_⟩
  refine ⟨_, rfl, e, rfl, ⟨_, SqL.of he⟩, fun D hD => ?_⟩
  refine lc_list (K := K) (a := e) (xs := nV (h.all 1)) (FalseI h D H1) ⟨upd_same, same_upd (Same.refl H1) hD⟩
    (fun i H2 _ hh => SqL.of (hh.2 _ _ he)) ?_ ?_
  · rintro i x H2 hx ⟨hd, s2⟩
    obtain ⟨n, hn, rfl⟩ := nV_at hx
    have A2 := A0.same (s1.trans s2)
    refine ⟨rfl, ?_⟩
    refine ⟨_, rfl, d, t.C, dx, _, _, rfl, A2.ob, T.cl, T.nK, rfl, _, rfl, h.known, n, rfl, rfl, _, rfl, ?_⟩
    have tk : (h.all 1).take (i + 1) = (h.all 1).take i ++ [n] := by
      rw [List.take_succ, hn]
      rfl
    refine iteE (a := why h.known n) (b := 2) (fun z => ?_) (fun z => ?_)
    · refine ⟨_, rfl, _, hd, ?_, ?_, fun c o hc => ?_⟩
      · rw [nV_len]
        refine line1000 ?_
        have l1 := List.length_filter_le (fun t => decide (why h.known t = 2)) ((h.all 1).take i)
        have l2 := List.length_take_le i (h.all 1)
        have l3 := all_len h Fh 1
        have l4 : ((h.all 1).take i).length ≤ (h.all 1).length := by
          rw [List.length_take]
          exact Nat.min_le_right _ _
        omega
      · rw [upd_same, tk, List.filter_append, List.filter_cons, if_pos (decide_eq_true z), List.filter_nil, nV_app]
        rfl
      · rw [upd_ne (ne_of_none hc hD)]
        exact s2 c o hc
    · refine ⟨?_, s2⟩
      rw [hd, tk, List.filter_append, List.filter_cons, if_neg (by rw [decide_eq_false z]; decide), List.filter_nil, List.append_nil]
  · rintro H2 ⟨hd, s2⟩
    rw [nV_len, List.take_length] at hd
    exact k H2 D (s1.trans s2) (s1.free hD) hd

theorem cb_count_false (T : Tx K mg t) : Cb P w K mg base (CXF P w) 8 "count_false" (spC t 11) := cb_of T.count_false fun f fd F => by
  refine F.okX cs_count_false spC_len (fun cdv A outer s H vs Q E hr h => ?_)
  obtain ⟨d, a, l, st, c, args, rfl, o, n32, D, hs, ha, R⟩ := h
  obtain ⟨rfl, rfl⟩ := one0 o (by decide) rfl
  obtain ⟨h, rfl⟩ := began hs
  obtain ⟨⟨dx, A0⟩, Fh⟩ := D
  refine ⟨_, pss_one (ps_ret (pe_lst (pa_cons (pe_callB call_len_seq (by rfl) T.len PySem.boot_len (pa_cons (pe_cb (cb_false T) hr pass0 (pa_cons (pv 0) pa_nil)) pa_nil)) pa_nil))), ?_⟩
  replace R := Eq.mp (congrArg (Res t H Q E d l) Mc.act_false) R
  refine ⟨_, rfl, d, l, h, rfl, ⟨⟨dx, A0⟩, Fh⟩, fun H1 r s1 fr hr1 => ?_⟩
  refine ⟨r, _, rfl, .inl (SqL.of hr1), (by show 1 ≤ sizeLine; decide), fun q hq => ?_⟩
  refine R.2.2 (Int.natCast_nonneg _) _ q (s1.free hq) ?_ l (.inl rfl) ⟨⟨dx, A0.same (same_upd s1 hq)⟩, Fh⟩ (Same.but d (same_upd s1 hq))
  rw [upd_same, nV_len]
  rfl

theorem cb_nth_false (T : Tx K mg t) : Cb P w K mg base (CXF P w) 8 "nth_false" (spC t 12) := cb_of T.nth_false fun f fd F => by
  refine F.okX cs_nth_false spC_len (fun cdv A outer s H vs Q E hr h => ?_)
  obtain ⟨d, a, l, st, c, args, rfl, o, n32, D, hs, ha, R⟩ := h
  obtain ⟨x, rfl, rfl⟩ := one1 o n32 (by decide) rfl
  obtain ⟨h, rfl⟩ := began hs
  obtain ⟨⟨dx, A0⟩, Fh⟩ := D
  refine ⟨_, pss_one (ps_ret (pe_cb (cb_pick T) (hr.mono (by decide)) pass_on (pa_cons (pe_cb (cb_false T) hr pass0 (pa_cons (pv 0) pa_nil)) (pa_cons (pe_ix ix_list (pv 1) pe_int (fun _ _ => rfl)) pa_nil)))), ?_⟩
  replace R := Eq.mp (congrArg (Res t H Q E d l) Mc.act_falsenth) R
  refine ⟨_, rfl, d, l, h, rfl, ⟨⟨dx, A0⟩, Fh⟩, fun H1 r s1 fr hr1 => ?_⟩
  refine ⟨_, rfl, a, _, _, _, rfl, rfl, SqL.of (s1 _ _ ha), at_of (j := 0) rfl rfl, r, h.false_, x, rfl, hr1, ?_⟩
  exact res_pick A0 Fh R s1

theorem cb_surely (T : Tx K mg t) : Cb P w K mg base (CXF P w) 6 "surely" (spC t 13) := cb_of T.surely fun f fd F => by
  refine F.okX cs_surely spC_len (fun cdv A outer s H vs Q E hr h => ?_)
  obtain ⟨d, a, l, st, c, args, rfl, o, n32, D, hs, ha, R⟩ := h
  obtain ⟨x, y, rfl, rfl⟩ := one2 o n32 (by decide) rfl
  obtain ⟨h, rfl⟩ := began hs
  obtain ⟨⟨dx, A0⟩, Fh⟩ := D
  have nd := cs_surely.nd
  refine ⟨_, pss_cons (ps_set (i := 2) nd rfl (Or.inl rfl) (pe_ix ix_list (pv 1) pe_int (fun _ _ => rfl)))
    (pss_cons (ps_set (i := 3) nd rfl (Or.inl rfl) (pe_ix ix_list (pv 1) pe_int (fun _ _ => rfl)))
    (pss_cons (ps_expr (pe_cb (cb_chkA T) (hr.mono (by decide)) pass_on (pa_cons (pv 2) pa_nil)))
    (pss_cons (ps_expr (pe_cb (cb_chkP T) (hr.mono (by decide)) pass_on (pa_cons (pe_fld (pv 0) rfl) (pa_cons (pv 3) pa_nil))))
    (pss_one (ps_ret (pe_lst (pa_cons (pe_ifExp (pt_cmpR op_eq (pe_cb (cb_added T) hr pass0 (pa_cons (pv 0) (pa_cons (pv 3) pa_nil))) (pe_op op_shl pe_int (pv 2)) (nomark _)) pe_int pe_int) pa_nil))))))), ?_⟩
  replace R := Eq.mp (congrArg (Res t H Q E d l) Mc.act_surely) R
  refine ⟨_, rfl, a, _, _, _, rfl, rfl, SqL.of ha, at_of (j := 0) rfl rfl, ?_⟩
  refine ⟨_, rfl, a, _, _, _, rfl, rfl, SqL.of ha, at_of (j := 1) rfl rfl, ?_⟩
  refine ⟨_, rfl, x, rfl, fun hx => ?_, fun hx => ?_⟩
  · refine ⟨_, rfl, d, t.C, dx, _, _, rfl, A0.ob, T.cl, T.nL, rfl, _, rfl, h.m, y, rfl, Fh.m1, Fh.m3, fun hy => ?_, fun hy => ?_⟩
    · rw [if_neg (show ¬ (¬ y ≤ full h.m ∨ 2 < x) by omega)] at R
      refine ⟨_, rfl, _, rfl, d, l, y, h, rfl, ⟨⟨dx, A0⟩, Fh⟩, fun H1 s1 => ?_⟩
      refine ⟨_, rfl, _, _, rfl, rfl, ⟨by omega, by omega, by decide⟩, rfl, _, rfl, ?_⟩
      have e : (1 : Int) * 2 ^ ((x : Int)).toNat = ((2 ^ x : Nat) : Int) := by
        rw [Int.one_mul, Int.toNat_natCast]
        exact (Int.natCast_pow 2 x).symm
      have sS := sure_sum Fh hx hy
      have fin : ∀ n : Nat, (if ([0, 1, 2].filter fun a => h.can a y) = [x] then (1 : Int) else 0) = (n : Int) → ∀ q, H1 q = none → Q (.ref q) (upd H1 q (.lst [.int (n : Int)])) := by
        intro n en q hq
        rw [en] at R
        refine R.2.2 (Int.natCast_nonneg _) _ q (s1.free hq) ?_ l (.inl rfl) ⟨⟨dx, A0.same (same_upd s1 hq)⟩, Fh⟩ (Same.but d (same_upd s1 hq))
        rw [upd_same]
        rfl
      show if decide (V.int ((addU h.known h.stands y 3 : Nat) : Int) = V.int ((1 : Int) * 2 ^ ((x : Int)).toNat)) = true then _ else _
      rw [e]
      refine iteE (a := addU h.known h.stands y 3) (b := 2 ^ x) (fun z => ?_) (fun z => ?_)
      · exact ⟨(by show 1 ≤ sizeLine; decide), fin 1 (if_pos (sS.mpr z))⟩
      · exact ⟨(by show 1 ≤ sizeLine; decide), fin 0 (if_neg fun u => z (sS.mp u))⟩
    · rw [if_pos (.inl hy)] at R
      exact R.1 rfl H (Same.refl H)
  · rw [if_pos (.inr (by omega))] at R
    exact R.1 rfl H (Same.refl H)

inductive ISpRT (t : Ad) (vs : List V) (H : Hp) (Q : VK) (E : XK) : Prop
  | mk (d l : Addr) (h : House) (h0_ : vs = [.ref d]) (h1_ : Dat t.C H d l (some h)) (h2_ : NewD h H Q) : ISpRT t vs H Q E
def spRT (t : Ad) : Sp := fun vs H Q E => ISpRT t vs H Q E
theorem cb_rt (T : Tx K mg t) : Cb P w K mg base CX0 6 "rows_to_standings" (spRT t) := cb_of T.rows_to fun f fd F => by
  refine F.ok cs_rows_to_standings (fun vs H Q E h => ?_) (fun cdv A outer s H vs Q E hr h => ?_)
  · obtain ⟨d, l, h, rfl, _⟩ := h
    rfl
  obtain ⟨d, l, h, rfl, ⟨⟨dx, A0⟩, Fh⟩, k⟩ := h
  refine ⟨_, pss_one (ps_ret (pe_cb (cb_rows T.toTxW) hr pass0 (pa_cons (pe_fld (pv 0) rfl) (pa_cons (pe_fld (pv 0) rfl) (pa_cons (pe_fld (pv 0) rfl) pa_nil))))), ?_⟩
  exact ⟨_, rfl, d, t.C, dx, _, _, rfl, A0.ob, T.cl, T.nK, rfl, _, rfl, d, t.C, dx, _, _, rfl, A0.ob, T.cl, T.nB, rfl, _, rfl, d, t.C, dx, _, _, rfl, A0.ob, T.cl, T.nS, rfl, l, h, rfl, A0.ls, Fh, k⟩

theorem cb_row_from (T : Tx K mg t) : Cb P w K mg base (CXF P w) 7 "row_from_stock" (spC t 14) := cb_of T.row_from fun f fd F => by
  refine F.okX cs_row_from_stock spC_len (fun cdv A outer s H vs Q E hr h => ?_)
  obtain ⟨d, a, l, st, c, args, rfl, o, n32, D, hs, ha, R⟩ := h
  obtain ⟨x, y, rfl, rfl⟩ := one2 o n32 (by decide) rfl
  obtain ⟨h, rfl⟩ := began hs
  obtain ⟨⟨dx, A0⟩, Fh⟩ := D
  have nd := cs_row_from_stock.nd
  have hu := hu_of hr
  refine ⟨_, pss_cons (ps_set (i := 2) nd rfl (Or.inl rfl) (pe_ix ix_list (pv 1) pe_int (fun _ _ => rfl)))
    (pss_cons (ps_set (i := 3) nd rfl (Or.inl rfl) (pe_ix ix_list (pv 1) pe_int (fun _ _ => rfl)))
    (pss_cons (ps_expr (pe_cb (cb_chkA T) (hr.mono (by decide)) pass_on (pa_cons (pv 2) pa_nil)))
    (pss_cons (ps_expr (pe_cb (cb_chkP T) (hr.mono (by decide)) pass_on (pa_cons (pe_fld (pv 0) rfl) (pa_cons (pv 3) pa_nil))))
    (pss_cons (ps_set (i := 4) nd rfl (Or.inl rfl) (pe_cb (cb_rt T) hr pass0 (pa_cons (pv 0) pa_nil)))
    (pss_cons (ps_lock (ps_for passes_cx rfl (pi_keys (pv 4)) (pg_name (i := 5) nd rfl (Or.inl rfl))
      (pss_one (ps_if (pt_cmpR op_eq (pe_cb (cb_right T.toTxW) (hr.mono (by decide)) pass0 (pa_cons (pe_fld (pv 0) rfl) (pa_cons (pv 5) (pa_cons (pv 3) pa_nil)))) (pv 2) (nomark _))
        (pss_one (ps_ret (pe_op op_cat (pe_lst (pa_cons (pe_callB call_len_seq (by rfl) T.len PySem.boot_len (pa_cons (pe_dget hu (pv 4) (pv 5) (fun _ _ => rfl)) pa_nil)) pa_nil)) (pe_dget hu (pv 4) (pv 5) (fun _ _ => rfl))))) pss_nil))))
    (pss_one (ps_raise rfl raises_cx rfl T.x3 T.o3))))))), ?_⟩
  replace R := Eq.mp (congrArg (Res t H Q E d l) Mc.act_from) R
  refine ⟨_, rfl, a, _, _, _, rfl, rfl, SqL.of ha, at_of (j := 0) rfl rfl, ?_⟩
  refine ⟨_, rfl, a, _, _, _, rfl, rfl, SqL.of ha, at_of (j := 1) rfl rfl, ?_⟩
  refine ⟨_, rfl, x, rfl, fun hx => ?_, fun hx => ?_⟩
  · refine ⟨_, rfl, d, t.C, dx, _, _, rfl, A0.ob, T.cl, T.nL, rfl, _, rfl, h.m, y, rfl, Fh.m1, Fh.m3, fun hy => ?_, fun hy => ?_⟩
    · rw [if_neg (show ¬ (¬ y ≤ full h.m ∨ 2 < x) by omega)] at R
      refine ⟨_, rfl, d, l, h, rfl, ⟨⟨dx, A0⟩, Fh⟩, fun H1 p wt kvs es s1 hp0 hp RW B => ?_⟩
      refine ⟨p, .dK kvs, hp, trivial, fun od => ?_⟩
      have sF : ∀ {H2 : Hp}, H2 = upd H1 p (.frz od (.dK kvs)) → Same H H2 := fun e => by
        rw [e]
        exact same_over s1 hp0
      refine ⟨_, rfl, p, od, rfl, .inl ⟨kvs, upd_same, for_keys (d := p) (o := od) (kvs := kvs) (FromI d a p x y h (upd H1 p (.frz od (.dK kvs))) es)
        ⟨none, rfl, rfl, fun j e hj => absurd hj (by omega)⟩ (fun i σ H2 _ ⟨_, _, e2, _⟩ => by rw [e2]; exact upd_same) ?_ ?_⟩⟩
      · rintro i kk v σ H2 hk ⟨v5, rfl, eH2, hn⟩
        obtain ⟨e, he, rfl, ra, rfl, hra⟩ := RW.at hk
        have A2 := A0.same (sF eH2)
        have hme := List.mem_of_getElem? he
        refine ⟨_, rfl, d, t.C, dx, _, _, rfl, A2.ob, T.cl, T.nK, rfl, _, rfl, _, rfl, h.known, e.1, y, rfl, _, rfl, rfl, _, rfl, ?_⟩
        refine iteE (a := right h.known e.1 y) (b := x) (fun z => ?_) (fun z => ?_)
        · obtain ⟨g1, g2⟩ := B.first Fh (f := fun b => right h.known b y == x) he (beq_iff_eq.mpr z) hn
          rw [g1] at R
          replace R : Res t H Q E d l (some h, Krc9.list (h.way (fun b => right h.known b y == x) e.2.length h.stands)) := R
          rw [g2] at R
          obtain ⟨ra', hv, _, hra'⟩ := RW.val B.nd hme
          have hp2 : H2 p = some (.frz od (.dK kvs)) := by rw [eH2, upd_same]
          have hra2 : H2 ra' = some (.lst (nV e.2)) := by
            rw [eH2, upd_ne (ne_of hra' hp (by intro u; cases u))]
            exact hra'
          refine ⟨_, rfl, _, rfl, p, .ref ra', rfl, .inl ⟨kvs, Sum.inl (e.1 : Int), .inr ⟨od, hp2⟩, rfl, hv.symm⟩, ra', _, rfl, .inl (SqL.of hra2), (by show 1 ≤ sizeLine; decide), fun q hq => ?_⟩
          have hpq : p ≠ q := ne_of_none hp2 hq
          have hrq : ra' ≠ q := ne_of_none hra2 hq
          refine ⟨_, rfl, _, rfl, p, .ref ra', rfl, .inl ⟨kvs, Sum.inl (e.1 : Int), .inr ⟨od, by rw [upd_ne hpq]; exact hp2⟩, rfl, hv.symm⟩, q, ra', _, _, rfl, rfl, upd_same, (by rw [upd_ne hrq]; exact hra2), ?_, fun u hu' => ?_⟩
          · refine Nat.le_of_lt (line1000 ?_)
            have := B.len e hme
            rw [nV_len]
            show 1 + e.2.length ≤ 1000
            omega
          · obtain ⟨uq, hu2⟩ := upd_none hu'
            have hpu : p ≠ u := ne_of_none hp2 hu2
            refine ⟨by rw [upd_ne hpu, upd_ne hpq]; exact hp2, ?_⟩
            have sAll : Same H (upd (upd (upd H2 q (.lst [.int ((nV e.2).length : Int)])) u (.lst ([.int ((nV e.2).length : Int)] ++ nV e.2))) p (.dK kvs)) := same_over (same_upd (same_upd (sF eH2) hq) hu') hp0
            refine R.2.2 (Int.natCast_nonneg _) _ u ((sF eH2).free hu2) ?_ l (.inl rfl) ⟨⟨dx, A0.same sAll⟩, Fh⟩ (Same.but d sAll)
            rw [upd_ne hpu.symm, upd_same, told_list, nV_len]
            rfl
        · refine ⟨_, rfl, eH2, fun j g hj hg => ?_⟩
          by_cases u : j = i
          · rw [u, he] at hg
            cases hg
            exact beq_eq_false_iff_ne.mpr z
          · exact hn j g (by omega) hg
      · rintro σ H2 ⟨v5, rfl, eH2, hn⟩
        have hp2 : H2 p = some (.frz od (.dK kvs)) := by rw [eH2, upd_same]
        refine ⟨hp2, ?_⟩
        have g := B.nil Fh (f := fun b => right h.known b y == x) fun e he => by
          obtain ⟨j, hj, ej⟩ := List.mem_iff_getElem.mp he
          exact hn j e (by rw [RW.len]; exact hj) (by rw [List.getElem?_eq_getElem hj, ej])
        rw [g] at R
        exact R.2.1 rfl _ (same_over (sF eH2) hp0)
    · rw [if_pos (.inl hy)] at R
      exact R.1 rfl H (Same.refl H)
  · rw [if_pos (.inr (by omega))] at R
    exact R.1 rfl H (Same.refl H)

theorem cb_least (T : Tx K mg t) : Cb P w K mg base (CXF P w) 7 "least" (spC t 15) := cb_of T.least fun f fd F => by
  refine F.okX cs_least spC_len (fun cdv A outer s H vs Q E hr h => ?_)
  obtain ⟨d, a, l, st, c, args, rfl, o, n32, D, hs, ha, R⟩ := h
  obtain ⟨rfl, rfl⟩ := one0 o (by decide) rfl
  obtain ⟨h, rfl⟩ := began hs
  obtain ⟨⟨dx, A0⟩, Fh⟩ := D
  have nd := cs_least.nd
  refine ⟨_, pss_cons (ps_set (i := 2) nd rfl (Or.inl rfl) (pe_cb (cb_few T.toTxW) (hr.mono (by decide)) pass0 (pa_cons (pe_cb (cb_rt T) hr pass0 (pa_cons (pv 0) pa_nil)) pa_nil)))
    (pss_one (ps_ret (pe_lst (pa_cons (pe_cb (cb_how_many T.toTxW) (hr.mono (by decide)) pass0 (pa_cons (pv 2) pa_nil)) (pa_cons (pv 2) pa_nil))))), ?_⟩
  replace R := Eq.mp (congrArg (Res t H Q E d l) Mc.act_least) R
  refine ⟨_, rfl, d, l, h, rfl, ⟨⟨dx, A0⟩, Fh⟩, fun H1 p wt kvs es s1 hp0 hp RW B => ?_⟩
  refine ⟨p, wt, kvs, es, h, rfl, hp, RW, Fh, B, fun H2 b s2 hb hfull => ?_⟩
  rw [hb] at R
  have s3 := s1.trans s2
  refine ⟨_, rfl, b, rfl, lt256 Fh hfull, _, rfl, (by show 2 ≤ sizeLine; decide), fun q hq => ?_⟩
  refine R.2.2 (Int.natCast_nonneg _) _ q (s3.free hq) ?_ l (.inl rfl) ⟨⟨dx, A0.same (same_upd s3 hq)⟩, Fh⟩ (Same.but d (same_upd s3 hq))
  rw [upd_same]
  show some (HO.lst [V.int _, V.int _]) = some (HO.lst [V.int ((count h.m b : Nat) : Int), V.int ((b : Nat) : Int)])
  rw [Mc.pc8 Fh hfull]

theorem cb_count_reach (T : Tx K mg t) : Cb P w K mg base (CXF P w) 7 "count_reach" (spC t 16) := cb_of T.count_reach fun f fd F => by
  refine F.okX cs_count_reach spC_len (fun cdv A outer s H vs Q E hr h => ?_)
  obtain ⟨d, a, l, st, c, args, rfl, o, n32, D, hs, ha, R⟩ := h
  obtain ⟨rfl, rfl⟩ := one0 o (by decide) rfl
  obtain ⟨h, rfl⟩ := began hs
  obtain ⟨⟨dx, A0⟩, Fh⟩ := D
  refine ⟨_, pss_one (ps_ret (pe_lst (pa_cons (pe_callB call_lenD (by rfl) T.len PySem.boot_len (pa_cons (pe_cb (cb_rt T) hr pass0 (pa_cons (pv 0) pa_nil)) pa_nil)) pa_nil))), ?_⟩
  replace R := Eq.mp (congrArg (Res t H Q E d l) Mc.act_reach) R
  refine ⟨_, rfl, d, l, h, rfl, ⟨⟨dx, A0⟩, Fh⟩, fun H1 p wt kvs es s1 hp0 hp RW B => ?_⟩
  refine ⟨p, kvs, rfl, hp, (by show 1 ≤ sizeLine; decide), fun q hq => ?_⟩
  refine R.2.2 (Int.natCast_nonneg _) _ q (s1.free hq) ?_ l (.inl rfl) ⟨⟨dx, A0.same (same_upd s1 hq)⟩, Fh⟩ (Same.but d (same_upd s1 hq))
  rw [upd_same, RW.len, ← B.reach_len Fh]
  rfl

theorem cb_nth_reach (T : Tx K mg t) : Cb P w K mg base (CXF P w) 7 "nth_reach" (spC t 17) := cb_of T.nth_reach fun f fd F => by
  refine F.okX cs_nth_reach spC_len (fun cdv A outer s H vs Q E hr h => ?_)
  obtain ⟨d, a, l, st, c, args, rfl, o, n32, D, hs, ha, R⟩ := h
  obtain ⟨x, rfl, rfl⟩ := one1 o n32 (by decide) rfl
  obtain ⟨h, rfl⟩ := began hs
  obtain ⟨⟨dx, A0⟩, Fh⟩ := D
  refine ⟨_, pss_one (ps_ret (pe_cb (cb_pick T) (hr.mono (by decide)) pass_on (pa_cons (pe_callB (cr_sortedD rfl) (by rfl) T.sorted boot_sorted (pa_cons (pe_cb (cb_rt T) hr pass0 (pa_cons (pv 0) pa_nil)) pa_nil)) (pa_cons (pe_ix ix_list (pv 1) pe_int (fun _ _ => rfl)) pa_nil)))), ?_⟩
  replace R := Eq.mp (congrArg (Res t H Q E d l) Mc.act_reachnth) R
  refine ⟨_, rfl, d, l, h, rfl, ⟨⟨dx, A0⟩, Fh⟩, fun H1 p wt kvs es s1 hp0 hp RW B => ?_⟩
  refine ⟨p, kvs, _, rfl, hp, RW.keys, fun ns q hperm hsort hq => ?_⟩
  have e := sorted_reach Fh B hperm hsort
  subst e
  have s2 : Same H (upd H1 q (.lst ((h.reach.map fun (x : Nat) => (x : Int)).map V.int))) := same_upd s1 hq
  refine ⟨_, rfl, a, _, _, _, rfl, rfl, SqL.of (s2 _ _ ha), at_of (j := 0) rfl rfl, q, h.reach, x, rfl, ?_, ?_⟩
  · rw [upd_same, map_nV]
  · exact res_pick A0 Fh R s2

theorem cb_row_that (T : Tx K mg t) : Cb P w K mg base (CXF P w) 7 "row_that_leaves" (spC t 18) := cb_of T.row_that fun f fd F => by
  refine F.okX cs_row_that_leaves spC_len (fun cdv A outer s H vs Q E hr h => ?_)
  obtain ⟨d, a, l, st, c, args, rfl, o, n32, D, hs, ha, R⟩ := h
  obtain ⟨x, rfl, rfl⟩ := one1 o n32 (by decide) rfl
  obtain ⟨h, rfl⟩ := began hs
  obtain ⟨⟨dx, A0⟩, Fh⟩ := D
  have nd := cs_row_that_leaves.nd
  have hu := hu_of hr
  refine ⟨_, pss_cons (ps_set (i := 2) nd rfl (Or.inl rfl) (pe_ix ix_list (pv 1) pe_int (fun _ _ => rfl)))
    (pss_cons (ps_expr (pe_cb (cb_chkP T) (hr.mono (by decide)) pass_on (pa_cons (pe_fld (pv 0) rfl) (pa_cons (pv 2) pa_nil))))
    (pss_cons (ps_set (i := 3) nd rfl (Or.inl rfl) (pe_cb (cb_rt T) hr pass0 (pa_cons (pv 0) pa_nil)))
    (pss_cons (ps_if (pt_cmp (pc_dnotin hu (pv 2) (pv 3))) (pss_one (ps_raise rfl raises_cx rfl T.x3 T.o3)) pss_nil)
    (pss_one (ps_ret (pe_op op_cat (pe_lst (pa_cons (pe_callB call_len_seq (by rfl) T.len PySem.boot_len (pa_cons (pe_dget hu (pv 3) (pv 2) (fun _ _ => rfl)) pa_nil)) pa_nil)) (pe_dget hu (pv 3) (pv 2) (fun _ _ => rfl)))))))), ?_⟩
  refine ⟨_, rfl, a, _, _, _, rfl, rfl, SqL.of ha, at_of (j := 0) rfl rfl, ?_⟩
  refine ⟨_, rfl, d, t.C, dx, _, _, rfl, A0.ob, T.cl, T.nL, rfl, _, rfl, h.m, x, rfl, Fh.m1, Fh.m3, fun hx => ?_, fun hx => (Eq.mp (congrArg (Res t H Q E d l) (Mc.act_bad1 18 (by decide) hx)) R).1 rfl H (Same.refl H)⟩
  replace R := Eq.mp (congrArg (Res t H Q E d l) (Mc.act_stands hx)) R
  refine ⟨_, rfl, d, l, h, rfl, ⟨⟨dx, A0⟩, Fh⟩, fun H1 p wt kvs es s1 hp0 hp RW B => ?_⟩
  refine ⟨_, rfl, _, rfl, p, _, rfl, DGet.k (k := Sum.inl (x : Int)) hp, _, rfl, ?_⟩
  by_cases hin : x ∈ es.map (·.1)
  · obtain ⟨e, hme, rfl⟩ := List.mem_map.mp hin
    obtain ⟨ra, hv, _, hra⟩ := RW.val B.nd hme
    rw [hv]
    refine iteF ?_
    obtain ⟨g1, g2⟩ := B.key Fh hme
    rw [g1] at R
    replace R : Res t H Q E d l (some h, Krc9.list (h.way (fun b => b == e.1) e.2.length h.stands)) := R
    rw [g2] at R
    refine ⟨_, rfl, _, rfl, p, .ref ra, rfl, .inl ⟨kvs, Sum.inl (e.1 : Int), .inl hp, rfl, hv.symm⟩, ra, _, rfl, .inl (SqL.of hra), (by show 1 ≤ sizeLine; decide), fun q hq => ?_⟩
    have hpq : p ≠ q := ne_of_none hp hq
    have hrq : ra ≠ q := ne_of_none hra hq
    refine ⟨_, rfl, _, rfl, p, .ref ra, rfl, .inl ⟨kvs, Sum.inl (e.1 : Int), .inl (by rw [upd_ne hpq]; exact hp), rfl, hv.symm⟩, q, ra, _, _, rfl, rfl, upd_same, (by rw [upd_ne hrq]; exact hra), ?_, fun u hu' => ?_⟩
    · refine Nat.le_of_lt (line1000 ?_)
      have := B.len e hme
      rw [nV_len]
      show 1 + e.2.length ≤ 1000
      omega
    · have sAll : Same H (upd (upd H1 q (.lst [.int ((nV e.2).length : Int)])) u (.lst ([.int ((nV e.2).length : Int)] ++ nV e.2))) := same_upd (same_upd s1 hq) hu'
      refine R.2.2 (Int.natCast_nonneg _) _ u (s1.free (upd_none hu').2) ?_ l (.inl rfl) ⟨⟨dx, A0.same sAll⟩, Fh⟩ (Same.but d sAll)
      rw [upd_same, told_list, nV_len]
      rfl
  · rw [RW.non hin]
    refine iteT ?_
    rw [B.nokey Fh hin] at R
    exact R.2.1 rfl H1 s1

theorem cb_idle (T : Tx K mg t) : Cb P w K mg base (CXF P w) 7 "idle" (spC t 19) := cb_of T.idle fun f fd F => by
  refine F.okX cs_idle spC_len (fun cdv A outer s H vs Q E hr h => ?_)
  obtain ⟨d, a, l, st, c, args, rfl, o, n32, D, hs, ha, R⟩ := h
  obtain ⟨rfl, rfl⟩ := one0 o (by decide) rfl
  obtain ⟨h, rfl⟩ := began hs
  obtain ⟨⟨dx, A0⟩, Fh⟩ := D
  have nd := cs_idle.nd
  refine ⟨_, pss_cons (ps_set (i := 2) nd rfl (Or.inr rfl) (pe_fld (pv 0) rfl))
    (pss_cons (ps_set (i := 3) nd rfl (Or.inr rfl) (pe_cb (cb_rt T) hr pass0 (pa_cons (pv 0) pa_nil)))
    (pss_cons (ps_setLc (i := 4) (own := [("place", 5)]) rfl nd rfl rfl (sw_true rfl rfl rfl (by rfl)) (pi_range1 rfl T.range (pa_cons (pe_callB call_len_seq (by rfl) T.len PySem.boot_len (pa_cons (pv 2) pa_nil)) pa_nil))
      (blkOk_by (N := ["disputation", "arguments", "stock", "rows", "places", "place"]) (sc := defScope s_idle) (by decide +kernel)) (fun _ _ _ _ _ => pg_name (i := 5) nd rfl (Or.inl rfl))
      (fun _ _ _ _ _ => pts_one (pt_not (pt_val (pe_cb (cb_chg T.toTxW) (hr.mono (by decide)) pass0 (pa_cons (pe_fldK K (pv 0) rfl) (pa_cons (pv 3) (pa_cons (pe_ix (ix_listK K) (pv 2) (pv 5) (fun _ _ => rfl)) pa_nil)))))))
      (fun _ _ _ _ _ => pv 5))
    (pss_one (ps_ret (pe_op op_cat (pe_lst (pa_cons (pe_callB call_len_seq (by rfl) T.len PySem.boot_len (pa_cons (pv 4) pa_nil)) pa_nil)) (pv 4)))))), ?_⟩
  replace R := Eq.mp (congrArg (Res t H Q E d l) Mc.act_idle) R
  refine ⟨_, rfl, d, t.C, dx, _, _, rfl, A0.ob, T.cl, T.nS, rfl, ?_⟩
  refine ⟨_, rfl, d, l, h, rfl, ⟨⟨dx, A0⟩, Fh⟩, fun H1 p wt kvs es s1 hp0 hp RW B => ?_⟩
  have hl1 : H1 l = some (.lst (nV h.stock)) := s1 _ _ A0.ls
  refine ⟨_, rfl, l, _, rfl, .inl (SqL.of hl1), _, rfl, ?_, ?_, fun D hD => ?_⟩
  · have := Fh.sl
    rw [nV_len]
    omega
  · have := Fh.sl
    rw [nV_len]
    omega
  refine lc_range (lo := 0) (n := (((nV h.stock).length : Nat) : Int).toNat) (IdleI h D H1) ⟨upd_same, same_upd (Same.refl H1) hD⟩ ?_ ?_
  · rintro i H2 hi ⟨hd2, s2⟩
    rw [nV_len, Int.toNat_natCast] at hi
    rw [Int.zero_add]
    have A2 := A0.same (s1.trans s2)
    have hgi : h.stock[i]? = some (h.stock.getD i 0) := by
      rw [List.getD_eq_getElem?_getD, List.getElem?_eq_getElem hi]
      rfl
    have hpf : h.stock.getD i 0 ≤ full h.m := Fh.sk _ (List.mem_of_getElem? hgi)
    have id1 := B.idle Fh hpf
    have tk : ((List.range (i + 1)).filter fun i => h.reach.all fun b => h.next b (h.stock.getD i 0) == b) = ((List.range i).filter fun i => h.reach.all fun b => h.next b (h.stock.getD i 0) == b) ++ (if (h.reach.all fun b => h.next b (h.stock.getD i 0) == b) = true then [i] else []) := by
      rw [List.range_succ, List.filter_append, List.filter_cons, List.filter_nil]
    refine ⟨rfl, ?_⟩
    have RW2 : Rw H2 wt kvs es := RW.move fun b xs _ e => s2 _ _ e
    refine ⟨_, rfl, d, t.C, dx, _, _, rfl, A2.ob, T.cl, T.nK, rfl, _, rfl, _, rfl, _, rfl, l, _, _, .int (h.stock.getD i 0 : Nat), rfl, rfl, SqL.of (s2 _ _ hl1), at_of (j := i) rfl (by unfold nV; rw [List.getElem?_map, hgi]; rfl), h.known, h.stock.getD i 0, p, wt, kvs, es, rfl, s2 _ _ hp, RW2, fun good => ?_, fun bad => ?_⟩
    · refine ⟨false, rfl, iteT ?_⟩
      refine ⟨_, rfl, _, hd2, ?_, ?_, fun c o hc => ?_⟩
      · rw [nV_len]
        refine line1000 ?_
        have l1 := List.length_filter_le (fun i => h.reach.all fun b => h.next b (h.stock.getD i 0) == b) (List.range i)
        rw [List.length_range] at l1
        have := Fh.sl
        omega
      · rw [upd_same, tk, if_pos (id1.mpr good), nV_app]
        rfl
      · rw [upd_ne (ne_of_none hc hD)]
        exact s2 c o hc
    · refine ⟨true, rfl, iteF ⟨?_, s2⟩⟩
      rw [hd2, tk, if_neg fun z => ?_, List.append_nil]
      obtain ⟨e, he, ne⟩ := bad
      exact ne (id1.mp z e he)
  · rintro H2 ⟨hd2, s2⟩
    rw [nV_len, Int.toNat_natCast] at hd2
    have s3 := s1.trans s2
    have hlen : ((List.range h.stock.length).filter fun i => h.reach.all fun b => h.next b (h.stock.getD i 0) == b).length ≤ 6 := by
      have l1 := List.length_filter_le (fun i => h.reach.all fun b => h.next b (h.stock.getD i 0) == b) (List.range h.stock.length)
      rw [List.length_range] at l1
      have := Fh.sl
      omega
    generalize ((List.range h.stock.length).filter fun i => h.reach.all fun b => h.next b (h.stock.getD i 0) == b) = pl at R hd2 hlen
    refine ⟨_, rfl, D, _, rfl, .inl (SqL.of hd2), (by show 1 ≤ sizeLine; decide), fun q hq => ?_⟩
    have hDq : D ≠ q := ne_of_none hd2 hq
    refine ⟨_, rfl, q, D, _, _, rfl, rfl, upd_same, (by rw [upd_ne hDq]; exact hd2), ?_, fun u hu' => ?_⟩
    · refine Nat.le_of_lt (line1000 ?_)
      rw [nV_len]
      show 1 + pl.length ≤ 1000
      omega
    · have sAll : Same H (upd (upd H2 q (.lst [.int ((nV pl).length : Int)])) u (.lst ([.int ((nV pl).length : Int)] ++ nV pl))) := same_upd (same_upd s3 hq) hu'
      refine R.2.2 (Int.natCast_nonneg _) _ u (s3.free (upd_none hu').2) ?_ l (.inl rfl) ⟨⟨dx, A0.same sAll⟩, Fh⟩ (Same.but d sAll)
      rw [upd_same, told_list, nV_len]
      rfl

theorem cb_state (T : Tx K mg t) : Cb P w K mg base (CXF P w) 1 "state" (spC t 20) := cb_of T.state fun f fd F => by
  refine F.okX cs_state spC_len (fun cdv A outer s H vs Q E hr h => ?_)
  obtain ⟨d, a, l, st, c, args, rfl, o, n32, D, hs, ha, R⟩ := h
  obtain ⟨rfl, rfl⟩ := one0 o (by decide) rfl
  obtain ⟨h, rfl⟩ := began hs
  obtain ⟨⟨dx, A0⟩, Fh⟩ := D
  refine ⟨_, pss_one (ps_ret (pe_op op_cat (pe_lst (pa_cons (pe_fld (pv 0) rfl) (pa_cons (pe_fld (pv 0) rfl) (pa_cons (pe_fld (pv 0) rfl) pa_nil)))) (pe_fld (pv 0) rfl))), ?_⟩
  replace R := Eq.mp (congrArg (Res t H Q E d l) Mc.act_state) R
  refine ⟨_, rfl, d, t.C, dx, _, _, rfl, A0.ob, T.cl, T.nL, rfl, _, rfl, d, t.C, dx, _, _, rfl, A0.ob, T.cl, T.nK, rfl, _, rfl, d, t.C, dx, _, _, rfl, A0.ob, T.cl, T.nB, rfl, (by show 3 ≤ sizeLine; decide), fun q hq => ?_⟩
  have A1 := A0.newl (o := .lst [.int (h.m : Int), .int (h.known : Int), .int (h.stands : Int)]) hq
  have s1 : Same H (upd H q (.lst [.int (h.m : Int), .int (h.known : Int), .int (h.stands : Int)])) := same_upd (Same.refl H) hq
  refine ⟨_, rfl, d, t.C, dx, _, _, rfl, A1.ob, T.cl, T.nS, rfl, q, l, _, _, rfl, rfl, upd_same, A1.ls, ?_, fun u hu' => ?_⟩
  · refine Nat.le_of_lt (line1000 ?_)
    have := Fh.sl
    rw [nV_len]
    show 3 + h.stock.length ≤ 1000
    omega
  · refine R.2.2 (Int.natCast_nonneg _) _ u (s1.free hu') ?_ l (.inl rfl) ⟨⟨dx, A0.same (same_upd s1 hu')⟩, Fh⟩ (Same.but d (same_upd s1 hu'))
    rw [upd_same]
    show some (HO.lst ([V.int _, V.int _, V.int _] ++ nV h.stock)) = some (HO.lst (((h.m : Int) :: (h.known :: h.stands :: h.stock).map (fun (x : Nat) => (x : Int))).map V.int))
    rw [List.map_cons, map_nV]
    rfl
end
end Mp
end

section
set_option Elab.async false
set_option linter.all false
set_option maxRecDepth 100000
set_option maxHeartbeats 2000000
/-! One call answered or refused. -/
namespace Mp
open PySem PySem.Spec PyProof.Rows L2
open Krb7 (full both not_ within truth right count worlds why)
open Krc9 (House)
open Mc (wo nx canB tell Fit One Nat32)

theorem Cb.mono {P : Program} {w : World} {K : PySem.W.Frag} {mg : Str → Option Value} {base : Heap} {CX : CXT} {j k : Nat} {x : Str} {sp : Sp} (C : Cb P w K mg base CX j x sp) (h : j ≤ k) : Cb P w K mg base CX k x sp := by
  obtain ⟨f, fd, ps, hm, F, b, kp⟩ := C
  exact ⟨f, fd, ps, hm, F.mono h, b, kp⟩
theorem cal_of {X : Cx} {CX : CXT} {k : Nat} {x : Str} {sp : Sp} {f : Addr} (C : Cb X.prog X.w X.K X.mg X.base CX k x sp) (hf : X.mg x = some (.ref f)) : Cal X CX k f sp := by
  obtain ⟨g, fd, ps, hm, F, b, kp⟩ := C
  rw [hf] at hm
  cases hm
  exact ⟨⟨fd, ps, F, b⟩, kp⟩
/-- what a call is to come to, also of an object that has not begun -/
def ResC (t : Ad) (H : Hp) (Q : VK) (E : XK) (d l : Addr) (r : Option House × Krb7.Ans) : Prop := (r.2.num = -11 → ∀ H', Same H H' → E (.ref t.c1) none H') ∧ Res t H Q E d l r
inductive ISpAC (t : Ad) (n : Nat) (vs : List V) (H : Hp) (Q : VK) (E : XK) : Prop
  | mk (d a l : Addr) (s : Option House) (c : List (List Int)) (p : Nat) (args : List Int) (h0_ : vs = [.ref d, .int p, .ref a]) (h1_ : p < n) (h2_ : One c p args) (h3_ : Nat32 args) (h4_ : Dat t.C H d l s) (h5_ : H a = some (.lst (args.map V.int))) (h6_ : ResC t H Q E d l (Krc9.act s (Krc9Neutral.call c))) : ISpAC t n vs H Q E
def spAC (t : Ad) (n : Nat) : Sp := fun vs H Q E => ISpAC t n vs H Q E
inductive ISpAOR (t : Ad) (n : Nat) (vs : List V) (H : Hp) (Q : VK) (E : XK) : Prop
  | mk (d a l : Addr) (s : Option House) (c : List (List Int)) (p : Nat) (args : List Int) (h0_ : vs = [.ref d, .int p, .ref a]) (h1_ : p < n) (h2_ : One c p args) (h3_ : Nat32 args) (h4_ : Dat t.C H d l s) (h5_ : H a = some (.lst (args.map V.int))) (h6_ : ∀ (H' : Hp) (q : Addr), H q = none → H' q = some (.lst ((Krc9Neutral.step s c).2.map V.int)) → ∀ l' : Addr, (l' = l ∨ H l' = none) → Dat t.C H' d l' (Krc9Neutral.step s c).1 → But d H H' → Q (.ref q) H') : ISpAOR t n vs H Q E
def spAOR (t : Ad) (n : Nat) : Sp := fun vs H Q E => ISpAOR t n vs H Q E
def callNames : List Str := ["begin", "propose", "stand", "learn", "put_stock", "tell_answer", "concede", "deny", "may", "counts", "nth", "count_false", "nth_false", "surely", "row_from_stock", "least", "count_reach", "nth_reach", "row_that_leaves", "idle", "state"]
/-- what besides answer_call leans on -/
structure TxC (K : PySem.W.Frag) (mg : Str → Option Value) (t : Ad) : Prop extends Tx K mg t where
  calls : ∃ (a : Addr) (fs : List Addr), mg "CALLS" = some (.ref a) ∧ (∀ H, SqT K H a (fs.map V.ref)) ∧ callNames.map mg = fs.map fun f => some (.ref f)
  answer_call : Def K mg "answer_call" s_answer_call ["disputation", "number", "arguments"]

section
variable {P : Program} {w : World} {K : PySem.W.Frag} {mg : Str → Option Value} {base : Heap} {t : Ad}
theorem cb_at (T : Tx K mg t) : ∀ p, p < 21 → ∃ x, callNames[p]? = some x ∧ Cb P w K mg base (CXF P w) 8 x (spC t p)
  | 0, _ => ⟨_, rfl, (cb_begin T).mono (by decide)⟩
  | 1, _ => ⟨_, rfl, (cb_propose T).mono (by decide)⟩
  | 2, _ => ⟨_, rfl, (cb_stand T).mono (by decide)⟩
  | 3, _ => ⟨_, rfl, (cb_learn T).mono (by decide)⟩
  | 4, _ => ⟨_, rfl, (cb_put_stock T).mono (by decide)⟩
  | 5, _ => ⟨_, rfl, (cb_tell_answer T).mono (by decide)⟩
  | 6, _ => ⟨_, rfl, (cb_concede T).mono (by decide)⟩
  | 7, _ => ⟨_, rfl, (cb_deny T).mono (by decide)⟩
  | 8, _ => ⟨_, rfl, (cb_may T).mono (by decide)⟩
  | 9, _ => ⟨_, rfl, (cb_counts T).mono (by decide)⟩
  | 10, _ => ⟨_, rfl, (cb_nth T).mono (by decide)⟩
  | 11, _ => ⟨_, rfl, (cb_count_false T).mono (by decide)⟩
  | 12, _ => ⟨_, rfl, (cb_nth_false T).mono (by decide)⟩
  | 13, _ => ⟨_, rfl, (cb_surely T).mono (by decide)⟩
  | 14, _ => ⟨_, rfl, (cb_row_from T).mono (by decide)⟩
  | 15, _ => ⟨_, rfl, (cb_least T).mono (by decide)⟩
  | 16, _ => ⟨_, rfl, (cb_count_reach T).mono (by decide)⟩
  | 17, _ => ⟨_, rfl, (cb_nth_reach T).mono (by decide)⟩
  | 18, _ => ⟨_, rfl, (cb_row_that T).mono (by decide)⟩
  | 19, _ => ⟨_, rfl, (cb_idle T).mono (by decide)⟩
  | 20, _ => ⟨_, rfl, (cb_state T).mono (by decide)⟩
  | p + 21, h => absurd h (by omega)

theorem cb_answer_call (T : TxC K mg t) : Cb P w K mg base (CXF P w) 9 "answer_call" (spAC t 21) := cb_of T.answer_call fun f fd F => by
  refine F.okX cs_answer_call (fun vs H Q E h => ?_) (fun cdv A outer s H vs Q E hr h => ?_)
  · obtain ⟨d, a, l, s, c, p, args, rfl, _⟩ := h
    rfl
  · obtain ⟨d, a, l, st, c, p, args, rfl, hp, o, n32, D, ha, R11, R⟩ := h
    obtain ⟨ca, fs, hca, hT, hfs⟩ := T.calls
    have hlen : fs.length = 21 := by
      have := congrArg List.length hfs
      rw [List.length_map, List.length_map] at this
      exact this.symm
    refine ⟨_, pss_cons (ps_if (pw_and (pt_cmpR op_ne (pv 1) (pe_gi T.begin_) (nomark _)) (pw_and1 (pt_cmpR op_eq (pe_fld (pv 0) rfl) pe_int (nomark _)))).pt (pss_one (ps_raise rfl raises_cx rfl T.x1 T.o1)) pss_nil)
      (pss_one (ps_ret (pe_callV (CX := CXF P w) (k := 8) hr pass_on (pe_ix ix_tup (pe_gr hca) (pv 1) (fun _ _ => rfl)) (pa_cons (pv 0) (pa_cons (pv 2) pa_nil))))), ?_⟩
    obtain ⟨dx, m0, k0, b0, st0, A0, hm0⟩ : ∃ dx m0 k0 b0 st0, At t.C H d dx l m0 k0 b0 st0 ∧ (m0 = 0 ↔ st = none) := by
      cases st with
      | none =>
        obtain ⟨dx, k, b, st, A⟩ := D
        exact ⟨dx, 0, k, b, st, A, ⟨fun _ => rfl, fun _ => rfl⟩⟩
      | some h =>
        obtain ⟨⟨dx, A⟩, Fh⟩ := D
        refine ⟨dx, _, _, _, _, A, ⟨fun z => ?_, fun z => by cases z⟩⟩
        have := Fh.m1
        omega
    have go : (p = 0 ∨ ∃ h, st = some h) → (tRet (tCallV (cxOf (CXF P w) P w K mg base ["disputation", "number", "arguments"] "answer_call" (defScope s_answer_call) f cdv A outer s H E) (CXF P w) 8 E (tOp (rIxT K) (tC (.ref ca)) (tVar 1)) (tCons (tVar 0) (tCons (tVar 2) tNil))))
        { nx := fun _ H' => Q .non H', rt := Q } [some (.ref d), some (.int p), some (.ref a)] H := by
      intro hbeg
      obtain ⟨x, hx, C⟩ := cb_at (P := P) (w := w) (base := base) T.toTx p hp
      have hfp : p < fs.length := by omega
      have hmx : mg x = some (.ref fs[p]) := by
        have e := congrArg (fun l => l[p]?) hfs
        rw [List.getElem?_map, List.getElem?_map, hx, List.getElem?_eq_getElem hfp] at e
        exact Option.some.inj e
      refine ⟨_, rfl, ca, _, _, .ref fs[p], rfl, rfl, hT H, at_of (j := p) rfl (by rw [List.getElem?_map, List.getElem?_eq_getElem hfp]; rfl), fs[p], spC t p, rfl, cal_of C hmx, ?_⟩
      exact ⟨_, rfl, _, rfl, d, a, l, st, c, args, rfl, o, n32, D, hbeg, ha, R⟩
    refine ⟨_, rfl, rfl, _, rfl, ?_⟩
    have e1 : (!decide (V.int ((p : Nat) : Int) = V.int ((0 : Nat) : Int))) = decide (p ≠ 0) := by
      rw [beqE]
      by_cases z : p = 0 <;> simp [z]
    show if (!decide (V.int ((p : Nat) : Int) = V.int ((0 : Nat) : Int))) = true then _ else _
    rw [e1]
    refine ite2 (fun z => ?_) (fun z => ?_)
    · have pz : p ≠ 0 := of_decide_eq_true z
      refine ⟨_, rfl, d, t.C, dx, _, _, rfl, A0.ob, T.cl, T.nL, rfl, rfl, _, rfl, ?_⟩
      refine iteE (a := m0) (b := 0) (fun y => ?_) (fun y => ?_)
      · have sn := hm0.mp y
        subst sn
        rw [Mc.act_none o pz] at R11
        exact R11 rfl H (Same.refl H)
      · refine go (.inr ?_)
        cases st with
        | none => exact absurd (hm0.mpr rfl) y
        | some h => exact ⟨h, rfl⟩
    · have pz : p = 0 := Decidable.byContradiction fun y => z (decide_eq_true y)
      exact iteF (go (.inl pz))

theorem told11 : (Krc9Neutral.told (Krc9.say (-11))).map V.int = [V.int (-11)] := rfl
theorem ph_cases {X : Cx} {cls c1 c2 c3 : Value} {hs : List ExceptHandler} {t1 t2 t3 : TS} (h1 : PH X c1 hs t1) (h2 : PH X c2 hs t2) (h3 : PH X c3 hs t3) :
    PH X cls hs (fun D σ H => (cls = c1 ∧ t1 D σ H) ∨ (cls = c2 ∧ t2 D σ H) ∨ (cls = c3 ∧ t3 D σ H)) := by
  intro pins σ Hc sc H1 ea B a0 s1 D1 I F q
  rcases q with ⟨rfl, q⟩ | ⟨rfl, q⟩ | ⟨rfl, q⟩
  · exact h1 pins σ Hc sc H1 ea B a0 s1 D1 I F q
  · exact h2 pins σ Hc sc H1 ea B a0 s1 D1 I F q
  · exact h3 pins σ Hc sc H1 ea B a0 s1 D1 I F q
/-- the reading of: return [-n] -/
def tNeg (n : Int) : TS := tRet (tLst (tCons (tUn (rU fun i => .int (-i)) (tC (.int n))) tNil))
theorem cb_aor (T : Tx K mg t) {n : Nat} (C : Cb P w K mg base (CXF P w) 9 "answer_call" (spAC t n)) : Cb P w K mg base CX0 10 "answer_or_refusal" (spAOR t n) := cb_of T.answer_or_refusal fun f fd F => by
  refine F.ok cs_answer_or_refusal (fun vs H Q E h => ?_) (fun cdv A outer s H vs Q E hr h => ?_)
  · obtain ⟨d, a, l, s, c, p, args, rfl, _⟩ := h
    rfl
  · obtain ⟨d, a, l, st, c, p, args, rfl, hp, o, n32, D, ha, k⟩ := h
    refine ⟨_, pss_one (ps_try (tb := fun EX => tRet (tCall (spAC t n) [] EX (tCons (tVar 0) (tCons (tVar 1) (tCons (tVar 2) tNil)))))
      (th := fun cls D σ H => (cls = .ref t.c1 ∧ tNeg 11 D σ H) ∨ (cls = .ref t.c2 ∧ tNeg 22 D σ H) ∨ (cls = .ref t.c3 ∧ tNeg 33 D σ H)) rfl
      (fun pn E' EX hx => pss_one (ps_ret (pe_cb C hr hx (pa_cons (pv 0) (pa_cons (pv 1) (pa_cons (pv 2) pa_nil))))))
      (fun cls => ph_cases (ph_hit rfl T.x1 T.e11 fun ea => pss_one (ps_ret (pe_lst (pa_cons (pe_un un_neg pe_int) pa_nil))))
        (ph_miss rfl T.x1 T.e21 (ph_hit rfl T.x2 T.e22 fun ea => pss_one (ps_ret (pe_lst (pa_cons (pe_un un_neg pe_int) pa_nil)))))
        (ph_miss rfl T.x1 T.e31 (ph_miss rfl T.x2 T.e32 (ph_hit rfl T.x3 T.e33 fun ea => pss_one (ps_ret (pe_lst (pa_cons (pe_un un_neg pe_int) pa_nil)))))))), ?_⟩
    have rf := Mc.act_ref st (Krc9Neutral.call c)
    have neg : ∀ z : Int, (Krc9.act st (Krc9Neutral.call c)).2.num = z → z < 0 → (Krc9.act st (Krc9Neutral.call c)).1 = st ∧ (Krc9.act st (Krc9Neutral.call c)).2 = Krc9.say z := by
      intro z e hz
      rcases rf with q | ⟨q1, q2⟩
      · omega
      · refine ⟨q1, ?_⟩
        rcases q2 with q2 | q2 | q2 <;> (rw [q2] at e ⊢; rw [← e]; rfl)
    refine ⟨fun cls _ H' => Same H H' ∧ ∃ z : Int, (Krc9.act st (Krc9Neutral.call c)).2.num = z ∧ ((cls = .ref t.c1 ∧ z = -11) ∨ (cls = .ref t.c2 ∧ z = -22) ∨ (cls = .ref t.c3 ∧ z = -33)), ?_, ?_⟩
    · refine ⟨_, rfl, _, rfl, _, rfl, d, a, l, st, c, p, args, rfl, hp, o, n32, D, ha, fun e H' sH => ⟨sH, -11, e, .inl ⟨rfl, rfl⟩⟩, fun e H' sH => ⟨sH, -22, e, .inr (.inl ⟨rfl, rfl⟩)⟩, fun e H' sH => ⟨sH, -33, e, .inr (.inr ⟨rfl, rfl⟩)⟩, fun _ H' q hq hl l' hl' DD BB => k H' q hq hl l' hl' DD BB⟩
    · rintro cls σ' H' _ ⟨sH, z, e, hz⟩
      have fin : ∀ y : Int, z = -y → 0 < y → tNeg y { nx := fun _ H' => Q .non H', rt := Q } σ' H' := by
        intro y ey hy
        obtain ⟨q1, q2⟩ := neg z e (by omega)
        refine ⟨_, rfl, (by show 1 ≤ sizeLine; decide), fun q hq => ?_⟩
        refine k _ q (sH.free hq) ?_ l (.inl rfl) ?_ (Same.but d (same_upd sH hq))
        · rw [upd_same]
          show some (HO.lst [V.int (-y)]) = some (HO.lst ((Krc9Neutral.told (Krc9.act st (Krc9Neutral.call c)).2).map V.int))
          rw [q2, ey]
          rfl
        · show Dat t.C _ d l (Krc9.act st (Krc9Neutral.call c)).1
          rw [q1]
          exact D.same (same_upd sH hq)
      rcases hz with ⟨e1, e2⟩ | ⟨e1, e2⟩ | ⟨e1, e2⟩
      · exact .inl ⟨e1, fin 11 e2 (by decide)⟩
      · exact .inr (.inl ⟨e1, fin 22 e2 (by decide)⟩)
      · exact .inr (.inr ⟨e1, fin 33 e2 (by decide)⟩)
end
end Mp
end

section
set_option Elab.async false
set_option linter.all false
set_option maxRecDepth 100000
set_option maxHeartbeats 4000000
/-! The whole list of calls. -/
namespace Mp
open PySem PySem.Spec PyProof.Rows L2
open Krb7 (full both not_ within truth right count worlds why)
open Krc9 (House)
open Mc (wo nx canB tell Fit One Nat32)

theorem one_len {c : List (List Int)} {p : Nat} {args : List Int} (o : One c p args) : ∃ n, Mc.lens[p]? = some n ∧ p < 21 ∧ ((p ≠ 4 ∧ args.length = n) ∨ (p = 4 ∧ n = 1 ∧ ∃ r : List Int, args = (r.length : Int) :: r)) := by
  cases o with
  | plain _ _ h1 h2 h3 => exact ⟨_, h3, h1, .inl ⟨h2, rfl⟩⟩
  | stock r => exact ⟨1, rfl, by decide, .inr ⟨rfl, rfl, r, rfl⟩⟩
theorem drop_at {ns : List Int} {i : Nat} {z : Int} {r : List Int} (h : ns.drop i = z :: r) : ns[i]? = some z ∧ i < ns.length ∧ ns.drop (i + 1) = r := by
  have h1 : i < ns.length := Decidable.byContradiction fun q => by
    rw [List.drop_of_length_le (by omega)] at h
    cases h
  rw [List.drop_eq_getElem_cons h1] at h
  refine ⟨?_, h1, (List.cons.inj h).2⟩
  rw [List.getElem?_eq_getElem h1, (List.cons.inj h).1]
theorem mapI {ns : List Int} {i : Nat} {z : Int} (h : ns[i]? = some z) : (ns.map V.int)[i]? = some (V.int z) := by
  rw [List.getElem?_map, h]
  rfl
theorem Dat.ob {C : Addr} {H : Hp} {d l : Addr} {s : Option House} (D : Dat C H d l s) : ∃ dx fs, H d = some (.ins C dx fs) := by
  cases s with
  | none =>
    obtain ⟨dx, k, b, st, A⟩ := D
    exact ⟨_, _, A.ob⟩
  | some h =>
    obtain ⟨⟨dx, A⟩, _⟩ := D
    exact ⟨_, _, A.ob⟩

/-- a list that is neither the object nor its stock is written -/
theorem At.upd_list {C : Addr} {H : Hp} {d dx l q : Addr} {m k b : Nat} {st : List Nat} {xs ys : List V} (A : At C H d dx l m k b st) (hq : H q = some (.lst xs)) (ne : q ≠ l) : At C (L2.upd H q (.lst ys)) d dx l m k b st :=
  ⟨by rw [upd_ne (ne_of A.ob hq (by intro z; cases z))]; exact A.ob, by rw [upd_ne ne.symm]; exact A.ls⟩
theorem Dat.upd_list {C : Addr} {H : Hp} {d l q : Addr} {s : Option House} {xs ys : List V} (D : Dat C H d l s) (hq : H q = some (.lst xs)) (ne : q ≠ l) : Dat C (L2.upd H q (.lst ys)) d l s := by
  cases s with
  | none =>
    obtain ⟨dx, k, b, st, A⟩ := D
    exact ⟨dx, k, b, st, A.upd_list hq ne⟩
  | some h =>
    obtain ⟨⟨dx, A⟩, F⟩ := D
    exact ⟨⟨dx, A.upd_list hq ne⟩, F⟩
/-- the words of the walk over the list -/
def AnsW (t : Ad) (H : Hp) (a d tl : Addr) (ns : List Int) (σ : L2.St) (H2 : Hp) : Prop := ∃ (i fu : Nat) (l : Addr) (st : Option House) (cs' : List (List (List Int))) (out : List Int) (v4 v5 : Option V), σ = [some (.ref a), some (.ref d), some (.ref tl), some (.int (i : Int)), v4, v5] ∧ Same H H2 ∧ Dat t.C H2 d l st ∧ tl ≠ l ∧
        H2 tl = some (.lst (out.map V.int)) ∧ i ≤ ns.length ∧ PyFlat.calls PyKrc9.shape fu (ns.drop i) = some cs' ∧ out ++ PyFlat.told (PyFlat.played Krc9Neutral.step st cs') = PyKrc9.answers ns
def ansMu (ns : List Int) (σ : L2.St) (_ : Hp) : Nat := match σ with | [_, _, _, some (.int i), _, _] => ns.length - i.toNat | _ => 0
section
variable {P : Program} {w : World} {K : PySem.W.Frag} {mg : Str → Option Value} {base : Heap} {t : Ad}
inductive ISpEnd (K : PySem.W.Frag) (vs : List V) (H : Hp) (Q : VK) (E : XK) : Prop
  | mk (a : Addr) (ns : List Int) (i p : Nat) (args rest : List Int) (c : List (List Int)) (h0_ : vs = [.ref a, .int i]) (h1_ : SqL K H a (ns.map V.int)) (h2_ : ns.drop i = (p : Int) :: (args ++ rest)) (h3_ : One c p args) (h4_ : Q (.int ((i + 1 + args.length : Nat) : Int)) H) : ISpEnd K vs H Q E
def spEnd (K : PySem.W.Frag) : Sp := fun vs H Q E => ISpEnd K vs H Q E
theorem cb_end (T : Tx K mg t) : Cb P w K mg base CX0 1 "end_of_call" (spEnd K) := cb_of T.end_of_call fun f fd F => by
  refine F.ok cs_end_of_call (fun vs H Q E h => ?_) (fun cdv A outer s H vs Q E hr h => ?_)
  · obtain ⟨a, ns, i, p, args, rest, c, rfl, _⟩ := h
    rfl
  · obtain ⟨a, ns, i, p, args, rest, c, rfl, hS, hdr, o, k⟩ := h
    obtain ⟨la, hla, hT⟩ := T.lengths
    obtain ⟨n, hn, hp, hc⟩ := one_len o
    obtain ⟨h0, hi, hdr1⟩ := drop_at hdr
    have nd := cs_end_of_call.nd
    refine ⟨_, pss_cons (ps_set (i := 2) nd rfl (Or.inl rfl) (pe_op op_add (pe_op op_add (pv 1) pe_int) (pe_ix ix_tup (pe_gr hla) (pe_ix ix_list (pv 0) (pv 1) (fun _ _ => rfl)) (fun _ _ => rfl))))
      (pss_cons (ps_if (pt_cmpR op_eq (pe_ix ix_list (pv 0) (pv 1) (fun _ _ => rfl)) (pe_gi T.stock_) (nomark _))
        (pss_one (ps_ret (pe_op op_add (pv 2) (pe_ix ix_list (pv 0) (pe_op op_add (pv 1) pe_int) (fun _ _ => rfl))))) pss_nil)
      (pss_one (ps_ret (pv 2)))), ?_⟩
    have hat : (nV Mc.lens)[p]? = some (V.int (n : Int)) := by
      unfold nV
      rw [List.getElem?_map, hn]
      rfl
    refine ⟨_, rfl, _, _, rfl, rfl, _, rfl, _, rfl, a, _, _, _, rfl, rfl, hS, at_of (j := i) (v := .int p) rfl (mapI h0), la, _, _, _, rfl, rfl, hT H, at_of (j := p) rfl hat, _, _, rfl, rfl, ?_⟩
    refine ⟨_, rfl, _, rfl, a, _, _, _, rfl, rfl, hS, at_of (j := i) (v := .int p) rfl (mapI h0), rfl, _, rfl, ?_⟩
    refine iteE (a := p) (b := 4) (fun e => ?_) (fun e => ?_)
    · rcases hc with ⟨q, _⟩ | ⟨_, rfl, r, rfl⟩
      · exact absurd e q
      · have h1 := (drop_at (show ns.drop (i + 1) = (r.length : Int) :: (r ++ rest) from hdr1)).1
        refine ⟨_, rfl, _, rfl, _, rfl, _, _, rfl, rfl, a, _, _, _, rfl, rfl, hS, at_of (j := i + 1) (v := .int (r.length : Int)) rfl (mapI h1), _, _, rfl, rfl, ?_⟩
        have e2 : ((i : Int) + 1 + ((1 : Nat) : Int)) + (r.length : Int) = ((i + 1 + ((r.length : Int) :: r).length : Nat) : Int) := by
          rw [List.length_cons]
          omega
        show Q (.int (((i : Int) + 1 + ((1 : Nat) : Int)) + (r.length : Int))) H
        rw [e2]
        exact k
    · rcases hc with ⟨_, q⟩ | ⟨q, _⟩
      · refine ⟨_, rfl, ?_⟩
        have e2 : (i : Int) + 1 + (n : Int) = ((i + 1 + args.length : Nat) : Int) := by omega
        show Q (.int ((i : Int) + 1 + (n : Int))) H
        rw [e2]
        exact k
      · exact absurd q e

inductive ISpInit (t : Ad) (vs : List V) (H : Hp) (Q : VK) (E : XK) : Prop
  | mk (p dx : Addr) (h0_ : vs = [.ref p]) (h1_ : H p = some (.ins t.C dx [])) (h2_ : ∀ (H' : Hp) (l : Addr), Dat t.C H' p l none → But p H H' → H l = none → Q .non H') : ISpInit t vs H Q E
def spInit (t : Ad) : Sp := fun vs H Q E => ISpInit t vs H Q E
theorem ok_init (T : Tx K mg t) {f : Addr} {fd : FuncData} (F : Fun K "__init__" "Disputation.__init__" s_Disputation_init f fd) : FnOk P w K mg base CX0 1 f fd ["self"] (spInit t) := by
  refine F.ok cs_Disputation_init (fun vs H Q E h => ?_) (fun cdv A outer s H vs Q E hr h => ?_)
  · obtain ⟨p, dx, rfl, _⟩ := h
    rfl
  · obtain ⟨p, dx, rfl, hp, k⟩ := h
    refine ⟨_, pss_cons (ps_fld (pv 0) pe_int rfl) (pss_cons (ps_fld (pv 0) pe_int rfl) (pss_cons (ps_fld (pv 0) pe_int rfl) (pss_one (ps_fld (pv 0) (pe_lst pa_nil) rfl)))), ?_⟩
    refine ⟨_, rfl, p, t.C, dx, _, rfl, hp, T.cl, T.nL, (by show 0 < 1000; decide), ?_⟩
    refine ⟨_, rfl, p, t.C, dx, _, rfl, upd_same, T.cl, T.nK, (by show 1 < 1000; decide), ?_⟩
    refine ⟨_, rfl, p, t.C, dx, _, rfl, upd_same, T.cl, T.nB, (by show 2 < 1000; decide), ?_⟩
    refine ⟨Nat.zero_le _, fun l hl => ?_⟩
    rw [upd_upd, upd_upd] at hl ⊢
    have hl0 := free_upd hp hl
    have pl : p ≠ l := (none_ne hp hl0).symm
    refine ⟨_, rfl, p, t.C, dx, _, rfl, (by rw [upd_ne pl]; exact upd_same), T.cl, T.nS, (by show 3 < 1000; decide), ?_⟩
    refine k _ l ⟨dx, 0, 0, [], ⟨by rw [upd_same]; rfl, ?_⟩⟩ (fun b o e n => ?_) hl0
    · rw [upd_ne pl.symm, upd_same]
      rfl
    · rw [upd_ne n, upd_ne (ne_of_none e hl0), upd_ne n]
      exact e

inductive ISpAns (K : PySem.W.Frag) (vs : List V) (H : Hp) (Q : VK) (E : XK) : Prop
  | mk (a : Addr) (ns : List Int) (h0_ : vs = [.ref a]) (h1_ : SqL K H a (ns.map V.int)) (h2_ : Nat32 ns) (h3_ : PyKrc9.answers_asked ns = true) (h4_ : ns.length ≤ 10280) (h5_ : ∀ (H' : Hp) (p : Addr), H' p = some (.lst ((PyKrc9.answers ns).map V.int)) → Q (.ref p) H') : ISpAns K vs H Q E
def spAns (K : PySem.W.Frag) : Sp := fun vs H Q E => ISpAns K vs H Q E
theorem ok_answers (T : Tx K mg t) {f : Addr} {fd : FuncData} (F : Fun K "answers" "answers" s_answers f fd) (C : Cb P w K mg base (CXF P w) 9 "answer_call" (spAC t 21)) : FnOk P w K mg base CX0 11 f fd ["calls"] (spAns K) := by
  obtain ⟨fI, fdI, M, FI, bI⟩ := T.made
  have GI1 : FnOk P w K mg base CX0 1 fI fdI ["self"] (spInit t) := ok_init T FI
  refine F.ok cs_answers (fun vs H Q E h => ?_) (fun cdv A outer s H vs Q E hr h => ?_)
  · obtain ⟨a, ns, rfl, _⟩ := h
    rfl
  · obtain ⟨a, ns, rfl, hS, n32, hask, hnl, k⟩ := h
    obtain ⟨cs, hcs, _, _, _, hshort, hans⟩ := Mc.asked_calls hask
    have nd := cs_answers.nd
    refine ⟨_, pss_cons (ps_set (i := 1) nd rfl (Or.inl rfl) (pe_make0 M GI1 (hr.mono (by decide)) rfl T.mgC bI .nil pass0))
      (pss_cons (ps_set (i := 2) nd rfl (Or.inl rfl) (pe_lst pa_nil))
      (pss_cons (ps_set (i := 3) nd rfl (Or.inl rfl) pe_int)
      (pss_cons (ps_while PassesOwn.never (pt_cmpR op_lt (pv 3) (pe_callB call_len_seq (by rfl) T.len PySem.boot_len (pa_cons (pv 0) pa_nil)) (nomark _))
        (pss_cons (ps_set (i := 4) nd rfl (Or.inl rfl) (pe_cb (cb_end T) (hr.mono (by decide)) pass0 (pa_cons (pv 0) (pa_cons (pv 3) pa_nil))))
        (pss_cons (ps_set (i := 5) nd rfl (Or.inl rfl) (pe_cb (cb_aor T C) hr pass0 (pa_cons (pv 1) (pa_cons (pe_ix ix_list (pv 0) (pv 3) (fun _ _ => rfl)) (pa_cons (pe_slice sl_list (pv 0) (po_some (pe_op op_add (pv 3) pe_int)) (po_some (pv 4))) pa_nil)))))
        (pss_cons (ps_expr (pe_bm PySem.F.plainAttrs_list PySem.F.slot_list_append PySem.F.type_list_append mt_append (pv 2) (pa_cons (pe_callB call_len_seq (by rfl) T.len PySem.boot_len (pa_cons (pv 5) pa_nil)) pa_nil)))
        (pss_cons (ps_expr (pe_bm PySem.F.plainAttrs_list PySem.F.slot_list_extend PySem.F.type_list_extend mt_extend (pv 2) (pa_cons (pv 5) pa_nil)))
        (pss_one (ps_set (i := 3) nd rfl (Or.inl rfl) (pv 4))))))))
      (pss_one (ps_ret (pv 2)))))), ?_⟩
    intro d dx nd0 ndx ne
    refine ⟨d, dx, rfl, upd_same, fun H1 l1 D1 B1 hl1 => ⟨rfl, ?_⟩⟩
    have s1 : Same H H1 := Same.made nd0 ndx (fun b o e n => B1 b o e n)
    refine ⟨Nat.zero_le _, fun tl htl => ?_⟩
    have s2 : Same H1 (upd H1 tl (.lst [])) := same_upd (Same.refl H1) htl
    have tl1 : tl ≠ l1 := fun z => by
      obtain ⟨dx1, k1, b1, st1, A1⟩ := D1
      have y := A1.ls
      rw [← z, htl] at y
      cases y
    refine while_by (AnsW t H a d tl ns) (ansMu ns) ?_ ?_ ?_
    · exact ⟨0, _, l1, none, cs, [], none, none, rfl, s1.trans s2, D1.same s2, tl1, upd_same, Nat.zero_le _, hcs, hans.symm⟩
    · rintro σ H2 ⟨i, fu, l, st, cs', out, v4, v5, rfl, sH2, D2, hne, ht2, hi, hcs', hout⟩
      have hS2 := sH2.seq hS
      refine ⟨_, rfl, _, rfl, a, _, rfl, .inl hS2, _, _, rfl, rfl, _, rfl, ?_⟩
      rw [List.length_map]
      refine ite2 (fun z => ?_) (fun z => ?_)
      · have hlt : i < ns.length := by
          have := of_decide_eq_true z
          omega
        have hdr0 := List.drop_eq_getElem_cons hlt
        rw [hdr0] at hcs'
        obtain ⟨p, args, rest, c, cs2, f2, o, ez, er, ecs, hcs2⟩ := Mc.first_call hcs'
        have hdr : ns.drop i = (p : Int) :: (args ++ rest) := by rw [hdr0, ez, er]
        obtain ⟨h0, _, hdr1⟩ := drop_at hdr
        obtain ⟨_, _, hp21, _⟩ := one_len o
        have hlen : i + 1 + args.length + rest.length = ns.length := by
          have := congrArg List.length hdr1
          rw [List.length_drop, List.length_append] at this
          omega
        have a32 : Nat32 args := fun y hy => n32 y (by
          have : y ∈ ns.drop (i + 1) := by
            rw [hdr1]
            exact List.mem_append_left _ hy
          exact List.mem_of_mem_drop this)
        refine ⟨_, rfl, _, rfl, a, ns, i, p, args, rest, c, rfl, hS2, hdr, o, ?_⟩
        refine ⟨_, rfl, _, rfl, _, rfl, a, _, _, _, rfl, rfl, hS2, at_of (j := i) (v := .int p) rfl (mapI h0), _, rfl, _, rfl, _, _, rfl, rfl, _, rfl, _, rfl, _, rfl, a, _, rfl, hS2, fun ar har => ?_⟩
        have ecut : cutV (ns.map V.int) (some (((i + 1 : Nat)) : Int)) (some ((i + 1 + args.length : Nat) : Int)) = args.map V.int := by
          rw [cut_part _ (by rw [List.length_map]; omega) (by rw [List.length_map]; omega), ← List.map_drop, hdr1, ← List.map_take]
          congr 1
          rw [show i + 1 + args.length - (i + 1) = args.length by omega, List.take_left']
          rfl
        have s3 : Same H2 (upd H2 ar (.lst (cutV (ns.map V.int) (some (((i + 1 : Nat)) : Int)) (some ((i + 1 + args.length : Nat) : Int))))) := same_upd (Same.refl H2) har
        have hA : upd H2 ar (.lst (cutV (ns.map V.int) (some (((i + 1 : Nat)) : Int)) (some ((i + 1 + args.length : Nat) : Int)))) ar = some (.lst (args.map V.int)) := by rw [upd_same, ecut]
        generalize hH3 : upd H2 ar (.lst (cutV (ns.map V.int) (some (((i + 1 : Nat)) : Int)) (some ((i + 1 + args.length : Nat) : Int)))) = H3 at s3 hA
        have D3 := D2.same s3
        obtain ⟨dx3, fs3, ob3⟩ := D3.ob
        refine ⟨d, ar, l, st, c, p, args, rfl, hp21, o, a32, ?_, ?_, fun H4 q hq hl4 l4 hl4' D4 B4 => ?_⟩
        · exact hH3 ▸ D3
        · exact hH3 ▸ hA
        · replace hq : H3 q = none := by
            rw [← hH3]
            exact hq
          replace B4 : But d H3 H4 := by
            rw [← hH3]
            exact B4
          replace hl4' : l4 = l ∨ H3 l4 = none := by
            rw [← hH3]
            exact hl4'
          have sH4 : Same H H4 := fun b u e => B4 b u (s3 _ _ (sH2 _ _ e)) (ne_of_none e nd0)
          have ht3 : H3 tl = some (.lst (out.map V.int)) := s3 _ _ ht2
          have ht4 : H4 tl = some (.lst (out.map V.int)) := B4 _ _ ht3 (ne_of ht3 ob3 (by intro y; cases y))
          have hqt : q ≠ tl := none_ne ht3 hq
          rw [ecs] at hout
          have hout2 : out ++ (((Krc9Neutral.step st c).2.length : Int) :: (Krc9Neutral.step st c).2 ++ PyFlat.told (PyFlat.played Krc9Neutral.step (Krc9Neutral.step st c).1 cs2)) = PyKrc9.answers ns := by
            rw [← hout, ← Mc.told_cons]
            rfl
          have hb : out.length + 1 + (Krc9Neutral.step st c).2.length ≤ 10000000 := by
            have e := congrArg List.length hout2
            rw [List.length_append, List.length_append, List.length_cons] at e
            omega
          have hl : sizeLine = 16777216 := sizeLine_eq
          refine ⟨_, rfl, .inl ⟨rfl, _, SqL.of ht4⟩, _, rfl, q, _, rfl, .inl (SqL.of hl4), tl, _, _, rfl, rfl, ht4, (by rw [List.length_map]; omega), ?_⟩
          refine ⟨_, rfl, .inl ⟨rfl, _, SqL.of upd_same⟩, _, rfl, tl, q, _, _, rfl, rfl, upd_same, (by rw [upd_ne hqt]; exact hl4), (by rw [List.length_append, List.length_map, List.length_map, List.length_singleton]; omega), ?_⟩
          rw [upd_upd, List.length_map]
          have sT : ∀ b u, H b = some u → upd H4 tl (.lst (out.map V.int ++ [.int ((Krc9Neutral.step st c).2.length : Int)] ++ (Krc9Neutral.step st c).2.map V.int)) b = some u := fun b u e => by
            rw [upd_ne (ne_of_none e (s1.free htl))]
            exact sH4 b u e
          have hne4 : tl ≠ l4 := by
            rcases hl4' with y | y
            · rw [y]
              exact hne
            · exact (none_ne ht3 y).symm
          refine ⟨_, rfl, ⟨i + 1 + args.length, f2, l4, (Krc9Neutral.step st c).1, cs2, out ++ ((Krc9Neutral.step st c).2.length : Int) :: (Krc9Neutral.step st c).2, _, _, rfl, sT, ?_, hne4, ?_, by omega, ?_, ?_⟩, ?_⟩
          · exact D4.upd_list ht4 hne4
          · rw [upd_same, List.map_append, List.map_cons, List.append_assoc]
            rfl
          · rw [show i + 1 + args.length = (i + 1) + args.length from rfl, ← List.drop_drop, hdr1, List.drop_left']
            · exact hcs2
            · rfl
          · rw [← hout2, List.append_assoc]
          · show ns.length - (i + 1 + args.length) < ns.length - i
            exact Nat.sub_lt_sub_left hlt (Nat.lt_of_lt_of_le (Nat.lt_succ_self i) (Nat.le_add_right (i + 1) _))
      · have hge : ns.length = i := by
          have : ¬ (i : Int) < (ns.length : Int) := fun y => z (decide_eq_true y)
          omega
        rw [← hge, List.drop_of_length_le (Nat.le_refl _)] at hcs'
        have e0 := Mc.no_call hcs'
        subst e0
        have e1 : out = PyKrc9.answers ns := by
          rw [← hout]
          exact (List.append_nil out).symm
        refine ⟨_, rfl, k H2 tl ?_⟩
        rw [← e1]
        exact ht2
    · rintro σ H' Q1 Q2 hq ⟨v, e, v2, e2, p2, ys, e3, e4, i1, j1, e5, e6, kk, e7, q⟩
      exact ⟨v, e, v2, e2, p2, ys, e3, e4, i1, j1, e5, e6, kk, e7, hq _ _ q⟩
end
end Mp
end

section
set_option Elab.async false
set_option linter.all false
set_option maxRecDepth 100000
set_option maxHeartbeats 4000000
/-! What the top has written, read off its written part. -/
namespace Mp
open PySem PySem.Spec PyProof.Rows L2
section
variable {K : PySem.W.Frag} {h : Heap} {mg : Str → Option Value}
theorem def_mk {x : Str} {st : Stmt} {ps : List Str} {f : Addr} {oc : Value} {od an : Option Addr} {osl : Array (Option Value)} {kV doc pm cdv ct : Value} (X : K.In h) (G : h.Ns mainGlobals mg)
    (a : PySem.W.nsIn K mainGlobals x = some (some (.ref f)))
    (l : K.lookup f = some ⟨oc, od, .func (PySem.W.fnOf x x (defArgs st) (defBody st) (defScope st) .none kV doc pm an cdv ct), osl⟩) (c : PySem.W.codeIn K cdv x = true) (k : PySem.W.keepIn K (.ref f) = true)
    (b : ∀ (kV doc pm : Value) (an : Option Addr) (cdv ct : Value) (us : List Value), us.length = ps.length → bindArgs (PySem.W.fnOf x x (defArgs st) (defBody st) (defScope st) .none kV doc pm an cdv ct) ⟨us, []⟩ = pure (ps.zip us)) : Def K mg x st ps :=
  ⟨f, _, PySem.W.mg_of X G a, fun_mk (st := st) l c k, (fun_mk (st := st) l c k).binds b⟩
theorem gi_mk {x : Str} {i : Int} {tk : Tok} (X : K.In h) (G : h.Ns mainGlobals mg) (a : PySem.W.nsIn K mainGlobals x = some (some (.int i tk))) : GI mg x i := ⟨tk, PySem.W.mg_of X G a⟩
theorem tup_mk {x : Str} {ad : Addr} {od : Option Addr} {its : Array Value} {n : Nat} {sl : Array (Option Value)} {xs : List V} (X : K.In h) (G : h.Ns mainGlobals mg) (a : PySem.W.nsIn K mainGlobals x = some (some (.ref ad)))
    (l : K.lookup ad = some ⟨.type "tuple", od, .seq its n, sl⟩) (z : its.size ≤ sizeLine) (v : Vals xs its.toList) : ∃ a, mg x = some (.ref a) ∧ ∀ H, SqT K H a xs :=
  ⟨ad, PySem.W.mg_of X G a, fun H => .inr ⟨_, its, n, l, rfl, rfl, z, v⟩⟩
theorem made_mk {C f : Addr} {oc : Value} {od an : Option Addr} {osl : Array (Option Value)} {kV doc pm cdv ct : Value} (mk : PySem.W.makesIn K C = true) (a : PySem.W.findIn K (.ref C) "__init__" = some (some (.ref f))) (i : PySem.W.isFn K (.ref f) = true)
    (kc : PySem.W.keepIn K (.ref C) = true)
    (l : K.lookup f = some ⟨oc, od, .func (PySem.W.fnOf "__init__" "Disputation.__init__" (defArgs s_Disputation_init) (defBody s_Disputation_init) (defScope s_Disputation_init) .none kV doc pm an cdv ct), osl⟩)
    (c : PySem.W.codeIn K cdv "Disputation.__init__" = true) (k : PySem.W.keepIn K (.ref f) = true) : ∃ f fd, Mk K C f ∧ Fun K "__init__" "Disputation.__init__" s_Disputation_init f fd ∧ Binds K fd ["self"] [] :=
  ⟨f, _, ⟨mk, a, i, kc⟩, fun_mk (st := s_Disputation_init) l c k, (fun_mk (st := s_Disputation_init) l c k).binds (ps := ["self"]) fun _ _ _ _ _ _ us hl => by
    cases us with
    | nil => cases hl
    | cons x r =>
      cases r with
      | nil => rfl
      | cons y r => cases hl⟩
end
end Mp
end

section
set_option Elab.async false
set_option linter.all false
set_option maxRecDepth 100000
set_option maxHeartbeats 4000000
namespace Mp
open PySem PySem.Spec PyProof.Rows L2
theorem us_0 {us : List Value} (h : us.length = 0) : us = [] := List.eq_nil_of_length_eq_zero h
theorem us_s {n : Nat} {us : List Value} (h : us.length = n + 1) : ∃ x r, us = x :: r ∧ r.length = n := by
  cases us with
  | nil => cases h
  | cons x r => exact ⟨x, r, rfl, Nat.succ.inj h⟩
@[elab_as_elim] theorem all_1 {p : List Value → Prop} (us : List Value) (q : ∀ x0, p [x0]) (h : us.length = 1) : p us := by
  obtain ⟨x0, r0, rfl, h0⟩ := us_s h
  rw [us_0 h0]
  exact q x0
@[elab_as_elim] theorem all_2 {p : List Value → Prop} (us : List Value) (q : ∀ x0 x1, p [x0, x1]) (h : us.length = 2) : p us := by
  obtain ⟨x0, r0, rfl, h0⟩ := us_s h
  obtain ⟨x1, r1, rfl, h1⟩ := us_s h0
  rw [us_0 h1]
  exact q x0 x1
@[elab_as_elim] theorem all_3 {p : List Value → Prop} (us : List Value) (q : ∀ x0 x1 x2, p [x0, x1, x2]) (h : us.length = 3) : p us := by
  obtain ⟨x0, r0, rfl, h0⟩ := us_s h
  obtain ⟨x1, r1, rfl, h1⟩ := us_s h0
  obtain ⟨x2, r2, rfl, h2⟩ := us_s h1
  rw [us_0 h2]
  exact q x0 x1 x2
@[elab_as_elim] theorem all_4 {p : List Value → Prop} (us : List Value) (q : ∀ x0 x1 x2 x3, p [x0, x1, x2, x3]) (h : us.length = 4) : p us := by
  obtain ⟨x0, r0, rfl, h0⟩ := us_s h
  obtain ⟨x1, r1, rfl, h1⟩ := us_s h0
  obtain ⟨x2, r2, rfl, h2⟩ := us_s h1
  obtain ⟨x3, r3, rfl, h3⟩ := us_s h2
  rw [us_0 h3]
  exact q x0 x1 x2 x3
@[elab_as_elim] theorem all_5 {p : List Value → Prop} (us : List Value) (q : ∀ x0 x1 x2 x3 x4, p [x0, x1, x2, x3, x4]) (h : us.length = 5) : p us := by
  obtain ⟨x0, r0, rfl, h0⟩ := us_s h
  obtain ⟨x1, r1, rfl, h1⟩ := us_s h0
  obtain ⟨x2, r2, rfl, h2⟩ := us_s h1
  obtain ⟨x3, r3, rfl, h3⟩ := us_s h2
  obtain ⟨x4, r4, rfl, h4⟩ := us_s h3
  rw [us_0 h4]
  exact q x0 x1 x2 x3 x4
theorem b_all_worlds (kV doc pm : Value) (an : Option Addr) (cdv ct : Value) (us : List Value) (hl : us.length = (["letters"] : List Str).length) : bindArgs (PySem.W.fnOf "all_worlds" "all_worlds" (defArgs s_all_worlds) (defBody s_all_worlds) (defScope s_all_worlds) .none kV doc pm an cdv ct) ⟨us, []⟩ = pure ((["letters"] : List Str).zip us) := all_1 us (fun _ => rfl) hl
theorem b_all_propositions (kV doc pm : Value) (an : Option Addr) (cdv ct : Value) (us : List Value) (hl : us.length = (["letters"] : List Str).length) : bindArgs (PySem.W.fnOf "all_propositions" "all_propositions" (defArgs s_all_propositions) (defBody s_all_propositions) (defScope s_all_propositions) .none kV doc pm an cdv ct) ⟨us, []⟩ = pure ((["letters"] : List Str).zip us) := all_1 us (fun _ => rfl) hl
theorem b_how_many (kV doc pm : Value) (an : Option Addr) (cdv ct : Value) (us : List Value) (hl : us.length = (["worlds"] : List Str).length) : bindArgs (PySem.W.fnOf "how_many" "how_many" (defArgs s_how_many) (defBody s_how_many) (defScope s_how_many) .none kV doc pm an cdv ct) ⟨us, []⟩ = pure ((["worlds"] : List Str).zip us) := all_1 us (fun _ => rfl) hl
theorem b_without (kV doc pm : Value) (an : Option Addr) (cdv ct : Value) (us : List Value) (hl : us.length = (["worlds", "proposition"] : List Str).length) : bindArgs (PySem.W.fnOf "without" "without" (defArgs s_without) (defBody s_without) (defScope s_without) .none kV doc pm an cdv ct) ⟨us, []⟩ = pure ((["worlds", "proposition"] : List Str).zip us) := all_2 us (fun _ _ => rfl) hl
theorem b_bearing (kV doc pm : Value) (an : Option Addr) (cdv ct : Value) (us : List Value) (hl : us.length = (["standing", "proposition"] : List Str).length) : bindArgs (PySem.W.fnOf "bearing" "bearing" (defArgs s_bearing) (defBody s_bearing) (defScope s_bearing) .none kV doc pm an cdv ct) ⟨us, []⟩ = pure ((["standing", "proposition"] : List Str).zip us) := all_2 us (fun _ _ => rfl) hl
theorem b_right_answer (kV doc pm : Value) (an : Option Addr) (cdv ct : Value) (us : List Value) (hl : us.length = (["known", "standing", "proposition"] : List Str).length) : bindArgs (PySem.W.fnOf "right_answer" "right_answer" (defArgs s_right_answer) (defBody s_right_answer) (defScope s_right_answer) .none kV doc pm an cdv ct) ⟨us, []⟩ = pure ((["known", "standing", "proposition"] : List Str).zip us) := all_3 us (fun _ _ _ => rfl) hl
theorem b_standing_behind (kV doc pm : Value) (an : Option Addr) (cdv ct : Value) (us : List Value) (hl : us.length = (["known", "standing", "proposition"] : List Str).length) : bindArgs (PySem.W.fnOf "standing_behind" "standing_behind" (defArgs s_standing_behind) (defBody s_standing_behind) (defScope s_standing_behind) .none kV doc pm an cdv ct) ⟨us, []⟩ = pure ((["known", "standing", "proposition"] : List Str).zip us) := all_3 us (fun _ _ _ => rfl) hl
theorem b_can_be_made (kV doc pm : Value) (an : Option Addr) (cdv ct : Value) (us : List Value) (hl : us.length = (["known", "standing", "wanted", "proposition"] : List Str).length) : bindArgs (PySem.W.fnOf "can_be_made" "can_be_made" (defArgs s_can_be_made) (defBody s_can_be_made) (defScope s_can_be_made) .none kV doc pm an cdv ct) ⟨us, []⟩ = pure ((["known", "standing", "wanted", "proposition"] : List Str).zip us) := all_4 us (fun _ _ _ _ => rfl) hl
theorem b_all_that_can_be_made (kV doc pm : Value) (an : Option Addr) (cdv ct : Value) (us : List Value) (hl : us.length = (["letters", "known", "standing", "wanted"] : List Str).length) : bindArgs (PySem.W.fnOf "all_that_can_be_made" "all_that_can_be_made" (defArgs s_all_that_can_be_made) (defBody s_all_that_can_be_made) (defScope s_all_that_can_be_made) .none kV doc pm an cdv ct) ⟨us, []⟩ = pure ((["letters", "known", "standing", "wanted"] : List Str).zip us) := all_4 us (fun _ _ _ _ => rfl) hl
theorem b_shortest_row (kV doc pm : Value) (an : Option Addr) (cdv ct : Value) (us : List Value) (hl : us.length = (["letters", "known", "standing", "wanted", "proposition"] : List Str).length) : bindArgs (PySem.W.fnOf "shortest_row" "shortest_row" (defArgs s_shortest_row) (defBody s_shortest_row) (defScope s_shortest_row) .none kV doc pm an cdv ct) ⟨us, []⟩ = pure ((["letters", "known", "standing", "wanted", "proposition"] : List Str).zip us) := all_5 us (fun _ _ _ _ _ => rfl) hl
theorem b_rows_of_stock (kV doc pm : Value) (an : Option Addr) (cdv ct : Value) (us : List Value) (hl : us.length = (["known", "standing", "stock"] : List Str).length) : bindArgs (PySem.W.fnOf "rows_of_stock" "rows_of_stock" (defArgs s_rows_of_stock) (defBody s_rows_of_stock) (defScope s_rows_of_stock) .none kV doc pm an cdv ct) ⟨us, []⟩ = pure ((["known", "standing", "stock"] : List Str).zip us) := all_3 us (fun _ _ _ => rfl) hl
theorem b_fewest_worlds (kV doc pm : Value) (an : Option Addr) (cdv ct : Value) (us : List Value) (hl : us.length = (["standings"] : List Str).length) : bindArgs (PySem.W.fnOf "fewest_worlds" "fewest_worlds" (defArgs s_fewest_worlds) (defBody s_fewest_worlds) (defScope s_fewest_worlds) .none kV doc pm an cdv ct) ⟨us, []⟩ = pure ((["standings"] : List Str).zip us) := all_1 us (fun _ => rfl) hl
theorem b_changes_something (kV doc pm : Value) (an : Option Addr) (cdv ct : Value) (us : List Value) (hl : us.length = (["known", "standings", "proposition"] : List Str).length) : bindArgs (PySem.W.fnOf "changes_something" "changes_something" (defArgs s_changes_something) (defBody s_changes_something) (defScope s_changes_something) .none kV doc pm an cdv ct) ⟨us, []⟩ = pure ((["known", "standings", "proposition"] : List Str).zip us) := all_3 us (fun _ _ _ => rfl) hl
theorem b_check_proposition (kV doc pm : Value) (an : Option Addr) (cdv ct : Value) (us : List Value) (hl : us.length = (["letters", "number"] : List Str).length) : bindArgs (PySem.W.fnOf "check_proposition" "check_proposition" (defArgs s_check_proposition) (defBody s_check_proposition) (defScope s_check_proposition) .none kV doc pm an cdv ct) ⟨us, []⟩ = pure ((["letters", "number"] : List Str).zip us) := all_2 us (fun _ _ => rfl) hl
theorem b_check_answer (kV doc pm : Value) (an : Option Addr) (cdv ct : Value) (us : List Value) (hl : us.length = (["number"] : List Str).length) : bindArgs (PySem.W.fnOf "check_answer" "check_answer" (defArgs s_check_answer) (defBody s_check_answer) (defScope s_check_answer) .none kV doc pm an cdv ct) ⟨us, []⟩ = pure ((["number"] : List Str).zip us) := all_1 us (fun _ => rfl) hl
theorem b_check_some_world (kV doc pm : Value) (an : Option Addr) (cdv ct : Value) (us : List Value) (hl : us.length = (["worlds"] : List Str).length) : bindArgs (PySem.W.fnOf "check_some_world" "check_some_world" (defArgs s_check_some_world) (defBody s_check_some_world) (defScope s_check_some_world) .none kV doc pm an cdv ct) ⟨us, []⟩ = pure ((["worlds"] : List Str).zip us) := all_1 us (fun _ => rfl) hl
theorem b_begin (kV doc pm : Value) (an : Option Addr) (cdv ct : Value) (us : List Value) (hl : us.length = (["disputation", "arguments"] : List Str).length) : bindArgs (PySem.W.fnOf "begin" "begin" (defArgs s_begin) (defBody s_begin) (defScope s_begin) .none kV doc pm an cdv ct) ⟨us, []⟩ = pure ((["disputation", "arguments"] : List Str).zip us) := all_2 us (fun _ _ => rfl) hl
theorem b_propose (kV doc pm : Value) (an : Option Addr) (cdv ct : Value) (us : List Value) (hl : us.length = (["disputation", "arguments"] : List Str).length) : bindArgs (PySem.W.fnOf "propose" "propose" (defArgs s_propose) (defBody s_propose) (defScope s_propose) .none kV doc pm an cdv ct) ⟨us, []⟩ = pure ((["disputation", "arguments"] : List Str).zip us) := all_2 us (fun _ _ => rfl) hl
theorem b_stand (kV doc pm : Value) (an : Option Addr) (cdv ct : Value) (us : List Value) (hl : us.length = (["disputation", "arguments"] : List Str).length) : bindArgs (PySem.W.fnOf "stand" "stand" (defArgs s_stand) (defBody s_stand) (defScope s_stand) .none kV doc pm an cdv ct) ⟨us, []⟩ = pure ((["disputation", "arguments"] : List Str).zip us) := all_2 us (fun _ _ => rfl) hl
theorem b_learn (kV doc pm : Value) (an : Option Addr) (cdv ct : Value) (us : List Value) (hl : us.length = (["disputation", "arguments"] : List Str).length) : bindArgs (PySem.W.fnOf "learn" "learn" (defArgs s_learn) (defBody s_learn) (defScope s_learn) .none kV doc pm an cdv ct) ⟨us, []⟩ = pure ((["disputation", "arguments"] : List Str).zip us) := all_2 us (fun _ _ => rfl) hl
theorem b_put_stock (kV doc pm : Value) (an : Option Addr) (cdv ct : Value) (us : List Value) (hl : us.length = (["disputation", "arguments"] : List Str).length) : bindArgs (PySem.W.fnOf "put_stock" "put_stock" (defArgs s_put_stock) (defBody s_put_stock) (defScope s_put_stock) .none kV doc pm an cdv ct) ⟨us, []⟩ = pure ((["disputation", "arguments"] : List Str).zip us) := all_2 us (fun _ _ => rfl) hl
theorem b_tell_answer (kV doc pm : Value) (an : Option Addr) (cdv ct : Value) (us : List Value) (hl : us.length = (["disputation", "arguments"] : List Str).length) : bindArgs (PySem.W.fnOf "tell_answer" "tell_answer" (defArgs s_tell_answer) (defBody s_tell_answer) (defScope s_tell_answer) .none kV doc pm an cdv ct) ⟨us, []⟩ = pure ((["disputation", "arguments"] : List Str).zip us) := all_2 us (fun _ _ => rfl) hl
theorem b_tell_row (kV doc pm : Value) (an : Option Addr) (cdv ct : Value) (us : List Value) (hl : us.length = (["disputation", "wanted", "proposition"] : List Str).length) : bindArgs (PySem.W.fnOf "tell_row" "tell_row" (defArgs s_tell_row) (defBody s_tell_row) (defScope s_tell_row) .none kV doc pm an cdv ct) ⟨us, []⟩ = pure ((["disputation", "wanted", "proposition"] : List Str).zip us) := all_3 us (fun _ _ _ => rfl) hl
theorem b_concede (kV doc pm : Value) (an : Option Addr) (cdv ct : Value) (us : List Value) (hl : us.length = (["disputation", "arguments"] : List Str).length) : bindArgs (PySem.W.fnOf "concede" "concede" (defArgs s_concede) (defBody s_concede) (defScope s_concede) .none kV doc pm an cdv ct) ⟨us, []⟩ = pure ((["disputation", "arguments"] : List Str).zip us) := all_2 us (fun _ _ => rfl) hl
theorem b_deny (kV doc pm : Value) (an : Option Addr) (cdv ct : Value) (us : List Value) (hl : us.length = (["disputation", "arguments"] : List Str).length) : bindArgs (PySem.W.fnOf "deny" "deny" (defArgs s_deny) (defBody s_deny) (defScope s_deny) .none kV doc pm an cdv ct) ⟨us, []⟩ = pure ((["disputation", "arguments"] : List Str).zip us) := all_2 us (fun _ _ => rfl) hl
theorem b_added_answers (kV doc pm : Value) (an : Option Addr) (cdv ct : Value) (us : List Value) (hl : us.length = (["disputation", "proposition"] : List Str).length) : bindArgs (PySem.W.fnOf "added_answers" "added_answers" (defArgs s_added_answers) (defBody s_added_answers) (defScope s_added_answers) .none kV doc pm an cdv ct) ⟨us, []⟩ = pure ((["disputation", "proposition"] : List Str).zip us) := all_2 us (fun _ _ => rfl) hl
theorem b_may (kV doc pm : Value) (an : Option Addr) (cdv ct : Value) (us : List Value) (hl : us.length = (["disputation", "arguments"] : List Str).length) : bindArgs (PySem.W.fnOf "may" "may" (defArgs s_may) (defBody s_may) (defScope s_may) .none kV doc pm an cdv ct) ⟨us, []⟩ = pure ((["disputation", "arguments"] : List Str).zip us) := all_2 us (fun _ _ => rfl) hl
theorem b_those_that_can_be_made (kV doc pm : Value) (an : Option Addr) (cdv ct : Value) (us : List Value) (hl : us.length = (["disputation", "wanted"] : List Str).length) : bindArgs (PySem.W.fnOf "those_that_can_be_made" "those_that_can_be_made" (defArgs s_those_that_can_be_made) (defBody s_those_that_can_be_made) (defScope s_those_that_can_be_made) .none kV doc pm an cdv ct) ⟨us, []⟩ = pure ((["disputation", "wanted"] : List Str).zip us) := all_2 us (fun _ _ => rfl) hl
theorem b_counts (kV doc pm : Value) (an : Option Addr) (cdv ct : Value) (us : List Value) (hl : us.length = (["disputation", "arguments"] : List Str).length) : bindArgs (PySem.W.fnOf "counts" "counts" (defArgs s_counts) (defBody s_counts) (defScope s_counts) .none kV doc pm an cdv ct) ⟨us, []⟩ = pure ((["disputation", "arguments"] : List Str).zip us) := all_2 us (fun _ _ => rfl) hl
theorem b_pick (kV doc pm : Value) (an : Option Addr) (cdv ct : Value) (us : List Value) (hl : us.length = (["found", "place"] : List Str).length) : bindArgs (PySem.W.fnOf "pick" "pick" (defArgs s_pick) (defBody s_pick) (defScope s_pick) .none kV doc pm an cdv ct) ⟨us, []⟩ = pure ((["found", "place"] : List Str).zip us) := all_2 us (fun _ _ => rfl) hl
theorem b_nth (kV doc pm : Value) (an : Option Addr) (cdv ct : Value) (us : List Value) (hl : us.length = (["disputation", "arguments"] : List Str).length) : bindArgs (PySem.W.fnOf "nth" "nth" (defArgs s_nth) (defBody s_nth) (defScope s_nth) .none kV doc pm an cdv ct) ⟨us, []⟩ = pure ((["disputation", "arguments"] : List Str).zip us) := all_2 us (fun _ _ => rfl) hl
theorem b_false_that_can_be_conceded (kV doc pm : Value) (an : Option Addr) (cdv ct : Value) (us : List Value) (hl : us.length = (["disputation"] : List Str).length) : bindArgs (PySem.W.fnOf "false_that_can_be_conceded" "false_that_can_be_conceded" (defArgs s_false_that_can_be_conceded) (defBody s_false_that_can_be_conceded) (defScope s_false_that_can_be_conceded) .none kV doc pm an cdv ct) ⟨us, []⟩ = pure ((["disputation"] : List Str).zip us) := all_1 us (fun _ => rfl) hl
theorem b_count_false (kV doc pm : Value) (an : Option Addr) (cdv ct : Value) (us : List Value) (hl : us.length = (["disputation", "arguments"] : List Str).length) : bindArgs (PySem.W.fnOf "count_false" "count_false" (defArgs s_count_false) (defBody s_count_false) (defScope s_count_false) .none kV doc pm an cdv ct) ⟨us, []⟩ = pure ((["disputation", "arguments"] : List Str).zip us) := all_2 us (fun _ _ => rfl) hl
theorem b_nth_false (kV doc pm : Value) (an : Option Addr) (cdv ct : Value) (us : List Value) (hl : us.length = (["disputation", "arguments"] : List Str).length) : bindArgs (PySem.W.fnOf "nth_false" "nth_false" (defArgs s_nth_false) (defBody s_nth_false) (defScope s_nth_false) .none kV doc pm an cdv ct) ⟨us, []⟩ = pure ((["disputation", "arguments"] : List Str).zip us) := all_2 us (fun _ _ => rfl) hl
theorem b_surely (kV doc pm : Value) (an : Option Addr) (cdv ct : Value) (us : List Value) (hl : us.length = (["disputation", "arguments"] : List Str).length) : bindArgs (PySem.W.fnOf "surely" "surely" (defArgs s_surely) (defBody s_surely) (defScope s_surely) .none kV doc pm an cdv ct) ⟨us, []⟩ = pure ((["disputation", "arguments"] : List Str).zip us) := all_2 us (fun _ _ => rfl) hl
theorem b_rows_to_standings (kV doc pm : Value) (an : Option Addr) (cdv ct : Value) (us : List Value) (hl : us.length = (["disputation"] : List Str).length) : bindArgs (PySem.W.fnOf "rows_to_standings" "rows_to_standings" (defArgs s_rows_to_standings) (defBody s_rows_to_standings) (defScope s_rows_to_standings) .none kV doc pm an cdv ct) ⟨us, []⟩ = pure ((["disputation"] : List Str).zip us) := all_1 us (fun _ => rfl) hl
theorem b_row_from_stock (kV doc pm : Value) (an : Option Addr) (cdv ct : Value) (us : List Value) (hl : us.length = (["disputation", "arguments"] : List Str).length) : bindArgs (PySem.W.fnOf "row_from_stock" "row_from_stock" (defArgs s_row_from_stock) (defBody s_row_from_stock) (defScope s_row_from_stock) .none kV doc pm an cdv ct) ⟨us, []⟩ = pure ((["disputation", "arguments"] : List Str).zip us) := all_2 us (fun _ _ => rfl) hl
theorem b_least (kV doc pm : Value) (an : Option Addr) (cdv ct : Value) (us : List Value) (hl : us.length = (["disputation", "arguments"] : List Str).length) : bindArgs (PySem.W.fnOf "least" "least" (defArgs s_least) (defBody s_least) (defScope s_least) .none kV doc pm an cdv ct) ⟨us, []⟩ = pure ((["disputation", "arguments"] : List Str).zip us) := all_2 us (fun _ _ => rfl) hl
theorem b_count_reach (kV doc pm : Value) (an : Option Addr) (cdv ct : Value) (us : List Value) (hl : us.length = (["disputation", "arguments"] : List Str).length) : bindArgs (PySem.W.fnOf "count_reach" "count_reach" (defArgs s_count_reach) (defBody s_count_reach) (defScope s_count_reach) .none kV doc pm an cdv ct) ⟨us, []⟩ = pure ((["disputation", "arguments"] : List Str).zip us) := all_2 us (fun _ _ => rfl) hl
theorem b_nth_reach (kV doc pm : Value) (an : Option Addr) (cdv ct : Value) (us : List Value) (hl : us.length = (["disputation", "arguments"] : List Str).length) : bindArgs (PySem.W.fnOf "nth_reach" "nth_reach" (defArgs s_nth_reach) (defBody s_nth_reach) (defScope s_nth_reach) .none kV doc pm an cdv ct) ⟨us, []⟩ = pure ((["disputation", "arguments"] : List Str).zip us) := all_2 us (fun _ _ => rfl) hl
theorem b_row_that_leaves (kV doc pm : Value) (an : Option Addr) (cdv ct : Value) (us : List Value) (hl : us.length = (["disputation", "arguments"] : List Str).length) : bindArgs (PySem.W.fnOf "row_that_leaves" "row_that_leaves" (defArgs s_row_that_leaves) (defBody s_row_that_leaves) (defScope s_row_that_leaves) .none kV doc pm an cdv ct) ⟨us, []⟩ = pure ((["disputation", "arguments"] : List Str).zip us) := all_2 us (fun _ _ => rfl) hl
theorem b_idle (kV doc pm : Value) (an : Option Addr) (cdv ct : Value) (us : List Value) (hl : us.length = (["disputation", "arguments"] : List Str).length) : bindArgs (PySem.W.fnOf "idle" "idle" (defArgs s_idle) (defBody s_idle) (defScope s_idle) .none kV doc pm an cdv ct) ⟨us, []⟩ = pure ((["disputation", "arguments"] : List Str).zip us) := all_2 us (fun _ _ => rfl) hl
theorem b_state (kV doc pm : Value) (an : Option Addr) (cdv ct : Value) (us : List Value) (hl : us.length = (["disputation", "arguments"] : List Str).length) : bindArgs (PySem.W.fnOf "state" "state" (defArgs s_state) (defBody s_state) (defScope s_state) .none kV doc pm an cdv ct) ⟨us, []⟩ = pure ((["disputation", "arguments"] : List Str).zip us) := all_2 us (fun _ _ => rfl) hl
theorem b_answer_call (kV doc pm : Value) (an : Option Addr) (cdv ct : Value) (us : List Value) (hl : us.length = (["disputation", "number", "arguments"] : List Str).length) : bindArgs (PySem.W.fnOf "answer_call" "answer_call" (defArgs s_answer_call) (defBody s_answer_call) (defScope s_answer_call) .none kV doc pm an cdv ct) ⟨us, []⟩ = pure ((["disputation", "number", "arguments"] : List Str).zip us) := all_3 us (fun _ _ _ => rfl) hl
theorem b_answer_or_refusal (kV doc pm : Value) (an : Option Addr) (cdv ct : Value) (us : List Value) (hl : us.length = (["disputation", "number", "arguments"] : List Str).length) : bindArgs (PySem.W.fnOf "answer_or_refusal" "answer_or_refusal" (defArgs s_answer_or_refusal) (defBody s_answer_or_refusal) (defScope s_answer_or_refusal) .none kV doc pm an cdv ct) ⟨us, []⟩ = pure ((["disputation", "number", "arguments"] : List Str).zip us) := all_3 us (fun _ _ _ => rfl) hl
theorem b_end_of_call (kV doc pm : Value) (an : Option Addr) (cdv ct : Value) (us : List Value) (hl : us.length = (["calls", "start"] : List Str).length) : bindArgs (PySem.W.fnOf "end_of_call" "end_of_call" (defArgs s_end_of_call) (defBody s_end_of_call) (defScope s_end_of_call) .none kV doc pm an cdv ct) ⟨us, []⟩ = pure ((["calls", "start"] : List Str).zip us) := all_2 us (fun _ _ => rfl) hl
theorem b_answers (kV doc pm : Value) (an : Option Addr) (cdv ct : Value) (us : List Value) (hl : us.length = (["calls"] : List Str).length) : bindArgs (PySem.W.fnOf "answers" "answers" (defArgs s_answers) (defBody s_answers) (defScope s_answers) .none kV doc pm an cdv ct) ⟨us, []⟩ = pure ((["calls"] : List Str).zip us) := all_1 us (fun _ => rfl) hl
end Mp
end

section
set_option Elab.async false
set_option linter.all false
set_option maxRecDepth 100000
set_option maxHeartbeats 4000000
namespace Mp
open PySem PySem.Spec PyProof.Rows L2
theorem tx_mk {K : PySem.W.Frag} {h : Heap} {mg : Str → Option Value} (X : K.In h) (G : h.Ns mainGlobals mg)
    {f0 : Addr} {od0 an0 : Option Addr} {sl0 : Array (Option Value)} {oc0 kV0 dc0 pm0 cd0 ct0 : Value}
    {f1 : Addr} {od1 an1 : Option Addr} {sl1 : Array (Option Value)} {oc1 kV1 dc1 pm1 cd1 ct1 : Value}
    {f2 : Addr} {od2 an2 : Option Addr} {sl2 : Array (Option Value)} {oc2 kV2 dc2 pm2 cd2 ct2 : Value}
    {f3 : Addr} {od3 an3 : Option Addr} {sl3 : Array (Option Value)} {oc3 kV3 dc3 pm3 cd3 ct3 : Value}
    {f4 : Addr} {od4 an4 : Option Addr} {sl4 : Array (Option Value)} {oc4 kV4 dc4 pm4 cd4 ct4 : Value}
    {f5 : Addr} {od5 an5 : Option Addr} {sl5 : Array (Option Value)} {oc5 kV5 dc5 pm5 cd5 ct5 : Value}
    {f6 : Addr} {od6 an6 : Option Addr} {sl6 : Array (Option Value)} {oc6 kV6 dc6 pm6 cd6 ct6 : Value}
    {f7 : Addr} {od7 an7 : Option Addr} {sl7 : Array (Option Value)} {oc7 kV7 dc7 pm7 cd7 ct7 : Value}
    {f8 : Addr} {od8 an8 : Option Addr} {sl8 : Array (Option Value)} {oc8 kV8 dc8 pm8 cd8 ct8 : Value}
    {f9 : Addr} {od9 an9 : Option Addr} {sl9 : Array (Option Value)} {oc9 kV9 dc9 pm9 cd9 ct9 : Value}
    {f10 : Addr} {od10 an10 : Option Addr} {sl10 : Array (Option Value)} {oc10 kV10 dc10 pm10 cd10 ct10 : Value}
    {f11 : Addr} {od11 an11 : Option Addr} {sl11 : Array (Option Value)} {oc11 kV11 dc11 pm11 cd11 ct11 : Value}
    {f12 : Addr} {od12 an12 : Option Addr} {sl12 : Array (Option Value)} {oc12 kV12 dc12 pm12 cd12 ct12 : Value}
    {f13 : Addr} {od13 an13 : Option Addr} {sl13 : Array (Option Value)} {oc13 kV13 dc13 pm13 cd13 ct13 : Value}
    {f14 : Addr} {od14 an14 : Option Addr} {sl14 : Array (Option Value)} {oc14 kV14 dc14 pm14 cd14 ct14 : Value}
    {f15 : Addr} {od15 an15 : Option Addr} {sl15 : Array (Option Value)} {oc15 kV15 dc15 pm15 cd15 ct15 : Value}
    {f16 : Addr} {od16 an16 : Option Addr} {sl16 : Array (Option Value)} {oc16 kV16 dc16 pm16 cd16 ct16 : Value}
    {f17 : Addr} {od17 an17 : Option Addr} {sl17 : Array (Option Value)} {oc17 kV17 dc17 pm17 cd17 ct17 : Value}
    {f18 : Addr} {od18 an18 : Option Addr} {sl18 : Array (Option Value)} {oc18 kV18 dc18 pm18 cd18 ct18 : Value}
    {f19 : Addr} {od19 an19 : Option Addr} {sl19 : Array (Option Value)} {oc19 kV19 dc19 pm19 cd19 ct19 : Value}
    {f20 : Addr} {od20 an20 : Option Addr} {sl20 : Array (Option Value)} {oc20 kV20 dc20 pm20 cd20 ct20 : Value}
    {f21 : Addr} {od21 an21 : Option Addr} {sl21 : Array (Option Value)} {oc21 kV21 dc21 pm21 cd21 ct21 : Value}
    {f22 : Addr} {od22 an22 : Option Addr} {sl22 : Array (Option Value)} {oc22 kV22 dc22 pm22 cd22 ct22 : Value}
    {f23 : Addr} {od23 an23 : Option Addr} {sl23 : Array (Option Value)} {oc23 kV23 dc23 pm23 cd23 ct23 : Value}
    {f24 : Addr} {od24 an24 : Option Addr} {sl24 : Array (Option Value)} {oc24 kV24 dc24 pm24 cd24 ct24 : Value}
    {f25 : Addr} {od25 an25 : Option Addr} {sl25 : Array (Option Value)} {oc25 kV25 dc25 pm25 cd25 ct25 : Value}
    {f26 : Addr} {od26 an26 : Option Addr} {sl26 : Array (Option Value)} {oc26 kV26 dc26 pm26 cd26 ct26 : Value}
    {f27 : Addr} {od27 an27 : Option Addr} {sl27 : Array (Option Value)} {oc27 kV27 dc27 pm27 cd27 ct27 : Value}
    {f28 : Addr} {od28 an28 : Option Addr} {sl28 : Array (Option Value)} {oc28 kV28 dc28 pm28 cd28 ct28 : Value}
    {f29 : Addr} {od29 an29 : Option Addr} {sl29 : Array (Option Value)} {oc29 kV29 dc29 pm29 cd29 ct29 : Value}
    {f30 : Addr} {od30 an30 : Option Addr} {sl30 : Array (Option Value)} {oc30 kV30 dc30 pm30 cd30 ct30 : Value}
    {f31 : Addr} {od31 an31 : Option Addr} {sl31 : Array (Option Value)} {oc31 kV31 dc31 pm31 cd31 ct31 : Value}
    {f32 : Addr} {od32 an32 : Option Addr} {sl32 : Array (Option Value)} {oc32 kV32 dc32 pm32 cd32 ct32 : Value}
    {f33 : Addr} {od33 an33 : Option Addr} {sl33 : Array (Option Value)} {oc33 kV33 dc33 pm33 cd33 ct33 : Value}
    {f34 : Addr} {od34 an34 : Option Addr} {sl34 : Array (Option Value)} {oc34 kV34 dc34 pm34 cd34 ct34 : Value}
    {f35 : Addr} {od35 an35 : Option Addr} {sl35 : Array (Option Value)} {oc35 kV35 dc35 pm35 cd35 ct35 : Value}
    {f36 : Addr} {od36 an36 : Option Addr} {sl36 : Array (Option Value)} {oc36 kV36 dc36 pm36 cd36 ct36 : Value}
    {f37 : Addr} {od37 an37 : Option Addr} {sl37 : Array (Option Value)} {oc37 kV37 dc37 pm37 cd37 ct37 : Value}
    {f38 : Addr} {od38 an38 : Option Addr} {sl38 : Array (Option Value)} {oc38 kV38 dc38 pm38 cd38 ct38 : Value}
    {f39 : Addr} {od39 an39 : Option Addr} {sl39 : Array (Option Value)} {oc39 kV39 dc39 pm39 cd39 ct39 : Value}
    {f40 : Addr} {od40 an40 : Option Addr} {sl40 : Array (Option Value)} {oc40 kV40 dc40 pm40 cd40 ct40 : Value}
    {f41 : Addr} {od41 an41 : Option Addr} {sl41 : Array (Option Value)} {oc41 kV41 dc41 pm41 cd41 ct41 : Value}
    {f42 : Addr} {od42 an42 : Option Addr} {sl42 : Array (Option Value)} {oc42 kV42 dc42 pm42 cd42 ct42 : Value}
    {f43 : Addr} {od43 an43 : Option Addr} {sl43 : Array (Option Value)} {oc43 kV43 dc43 pm43 cd43 ct43 : Value}
    {f44 : Addr} {od44 an44 : Option Addr} {sl44 : Array (Option Value)} {oc44 kV44 dc44 pm44 cd44 ct44 : Value}
    {f45 : Addr} {od45 an45 : Option Addr} {sl45 : Array (Option Value)} {oc45 kV45 dc45 pm45 cd45 ct45 : Value}
    {f46 : Addr} {od46 an46 : Option Addr} {sl46 : Array (Option Value)} {oc46 kV46 dc46 pm46 cd46 ct46 : Value}
    {tk_DENIED : Tok}
    {tk_CONCEDED : Tok}
    {tk_DOUBTED : Tok}
    {tk_INDIFFERENT : Tok}
    {tk_FOLLOWS : Tok}
    {tk_AGAINST : Tok}
    {tk_MOST_LETTERS : Tok}
    {tk_BEGIN : Tok}
    {tk_STOCK : Tok}
    {tk_MOST_IN_STOCK : Tok}
    {ad_ALL_WORLDS : Addr} {td_ALL_WORLDS : Option Addr} {it_ALL_WORLDS : Array Value} {tn_ALL_WORLDS : Nat} {ts_ALL_WORLDS : Array (Option Value)}
    {ad_LENGTHS : Addr} {td_LENGTHS : Option Addr} {it_LENGTHS : Array Value} {tn_LENGTHS : Nat} {ts_LENGTHS : Array (Option Value)}
    {ad_CALLS : Addr} {td_CALLS : Option Addr} {it_CALLS : Array Value} {tn_CALLS : Nat} {ts_CALLS : Array (Option Value)}
    {C y1 y2 y3 fi : Addr} {odi ani : Option Addr} {sli : Array (Option Value)} {oci kVi dci pmi cdi cti : Value}
    {dd_y1 : Option Addr} {nm_y1 qn_y1 : Str} {bs_y1 bm_y1 sub_y1 : List Value} {ns_y1 : Addr} {hd_y1 ab_y1 : Bool} {sn_y1 : List Str} {col_y1 : Option Bool} {k0_y1 k1_y1 k2_y1 k3_y1 k5_y1 : Option Value}
    {dd_y2 : Option Addr} {nm_y2 qn_y2 : Str} {bs_y2 bm_y2 sub_y2 : List Value} {ns_y2 : Addr} {hd_y2 ab_y2 : Bool} {sn_y2 : List Str} {col_y2 : Option Bool} {k0_y2 k1_y2 k2_y2 k3_y2 k5_y2 : Option Value}
    {dd_y3 : Option Addr} {nm_y3 qn_y3 : Str} {bs_y3 bm_y3 sub_y3 : List Value} {ns_y3 : Addr} {hd_y3 ab_y3 : Bool} {sn_y3 : List Str} {col_y3 : Option Bool} {k0_y3 k1_y3 k2_y3 k3_y3 k5_y3 : Option Value}
    (a0 : PySem.W.nsIn K mainGlobals "all_worlds" = some (some (.ref f0)))
    (l0 : K.lookup f0 = some ⟨oc0, od0, .func (PySem.W.fnOf "all_worlds" "all_worlds" (defArgs s_all_worlds) (defBody s_all_worlds) (defScope s_all_worlds) .none kV0 dc0 pm0 an0 cd0 ct0), sl0⟩)
    (c0 : PySem.W.codeIn K cd0 "all_worlds" = true)
    (k0 : PySem.W.keepIn K (.ref f0) = true)
    (a1 : PySem.W.nsIn K mainGlobals "all_propositions" = some (some (.ref f1)))
    (l1 : K.lookup f1 = some ⟨oc1, od1, .func (PySem.W.fnOf "all_propositions" "all_propositions" (defArgs s_all_propositions) (defBody s_all_propositions) (defScope s_all_propositions) .none kV1 dc1 pm1 an1 cd1 ct1), sl1⟩)
    (c1 : PySem.W.codeIn K cd1 "all_propositions" = true)
    (k1 : PySem.W.keepIn K (.ref f1) = true)
    (a2 : PySem.W.nsIn K mainGlobals "how_many" = some (some (.ref f2)))
    (l2 : K.lookup f2 = some ⟨oc2, od2, .func (PySem.W.fnOf "how_many" "how_many" (defArgs s_how_many) (defBody s_how_many) (defScope s_how_many) .none kV2 dc2 pm2 an2 cd2 ct2), sl2⟩)
    (c2 : PySem.W.codeIn K cd2 "how_many" = true)
    (k2 : PySem.W.keepIn K (.ref f2) = true)
    (a3 : PySem.W.nsIn K mainGlobals "without" = some (some (.ref f3)))
    (l3 : K.lookup f3 = some ⟨oc3, od3, .func (PySem.W.fnOf "without" "without" (defArgs s_without) (defBody s_without) (defScope s_without) .none kV3 dc3 pm3 an3 cd3 ct3), sl3⟩)
    (c3 : PySem.W.codeIn K cd3 "without" = true)
    (k3 : PySem.W.keepIn K (.ref f3) = true)
    (a4 : PySem.W.nsIn K mainGlobals "bearing" = some (some (.ref f4)))
    (l4 : K.lookup f4 = some ⟨oc4, od4, .func (PySem.W.fnOf "bearing" "bearing" (defArgs s_bearing) (defBody s_bearing) (defScope s_bearing) .none kV4 dc4 pm4 an4 cd4 ct4), sl4⟩)
    (c4 : PySem.W.codeIn K cd4 "bearing" = true)
    (k4 : PySem.W.keepIn K (.ref f4) = true)
    (a5 : PySem.W.nsIn K mainGlobals "right_answer" = some (some (.ref f5)))
    (l5 : K.lookup f5 = some ⟨oc5, od5, .func (PySem.W.fnOf "right_answer" "right_answer" (defArgs s_right_answer) (defBody s_right_answer) (defScope s_right_answer) .none kV5 dc5 pm5 an5 cd5 ct5), sl5⟩)
    (c5 : PySem.W.codeIn K cd5 "right_answer" = true)
    (k5 : PySem.W.keepIn K (.ref f5) = true)
    (a6 : PySem.W.nsIn K mainGlobals "standing_behind" = some (some (.ref f6)))
    (l6 : K.lookup f6 = some ⟨oc6, od6, .func (PySem.W.fnOf "standing_behind" "standing_behind" (defArgs s_standing_behind) (defBody s_standing_behind) (defScope s_standing_behind) .none kV6 dc6 pm6 an6 cd6 ct6), sl6⟩)
    (c6 : PySem.W.codeIn K cd6 "standing_behind" = true)
    (k6 : PySem.W.keepIn K (.ref f6) = true)
    (a7 : PySem.W.nsIn K mainGlobals "can_be_made" = some (some (.ref f7)))
    (l7 : K.lookup f7 = some ⟨oc7, od7, .func (PySem.W.fnOf "can_be_made" "can_be_made" (defArgs s_can_be_made) (defBody s_can_be_made) (defScope s_can_be_made) .none kV7 dc7 pm7 an7 cd7 ct7), sl7⟩)
    (c7 : PySem.W.codeIn K cd7 "can_be_made" = true)
    (k7 : PySem.W.keepIn K (.ref f7) = true)
    (a8 : PySem.W.nsIn K mainGlobals "all_that_can_be_made" = some (some (.ref f8)))
    (l8 : K.lookup f8 = some ⟨oc8, od8, .func (PySem.W.fnOf "all_that_can_be_made" "all_that_can_be_made" (defArgs s_all_that_can_be_made) (defBody s_all_that_can_be_made) (defScope s_all_that_can_be_made) .none kV8 dc8 pm8 an8 cd8 ct8), sl8⟩)
    (c8 : PySem.W.codeIn K cd8 "all_that_can_be_made" = true)
    (k8 : PySem.W.keepIn K (.ref f8) = true)
    (a9 : PySem.W.nsIn K mainGlobals "shortest_row" = some (some (.ref f9)))
    (l9 : K.lookup f9 = some ⟨oc9, od9, .func (PySem.W.fnOf "shortest_row" "shortest_row" (defArgs s_shortest_row) (defBody s_shortest_row) (defScope s_shortest_row) .none kV9 dc9 pm9 an9 cd9 ct9), sl9⟩)
    (c9 : PySem.W.codeIn K cd9 "shortest_row" = true)
    (k9 : PySem.W.keepIn K (.ref f9) = true)
    (a10 : PySem.W.nsIn K mainGlobals "rows_of_stock" = some (some (.ref f10)))
    (l10 : K.lookup f10 = some ⟨oc10, od10, .func (PySem.W.fnOf "rows_of_stock" "rows_of_stock" (defArgs s_rows_of_stock) (defBody s_rows_of_stock) (defScope s_rows_of_stock) .none kV10 dc10 pm10 an10 cd10 ct10), sl10⟩)
    (c10 : PySem.W.codeIn K cd10 "rows_of_stock" = true)
    (k10 : PySem.W.keepIn K (.ref f10) = true)
    (a11 : PySem.W.nsIn K mainGlobals "fewest_worlds" = some (some (.ref f11)))
    (l11 : K.lookup f11 = some ⟨oc11, od11, .func (PySem.W.fnOf "fewest_worlds" "fewest_worlds" (defArgs s_fewest_worlds) (defBody s_fewest_worlds) (defScope s_fewest_worlds) .none kV11 dc11 pm11 an11 cd11 ct11), sl11⟩)
    (c11 : PySem.W.codeIn K cd11 "fewest_worlds" = true)
    (k11 : PySem.W.keepIn K (.ref f11) = true)
    (a12 : PySem.W.nsIn K mainGlobals "changes_something" = some (some (.ref f12)))
    (l12 : K.lookup f12 = some ⟨oc12, od12, .func (PySem.W.fnOf "changes_something" "changes_something" (defArgs s_changes_something) (defBody s_changes_something) (defScope s_changes_something) .none kV12 dc12 pm12 an12 cd12 ct12), sl12⟩)
    (c12 : PySem.W.codeIn K cd12 "changes_something" = true)
    (k12 : PySem.W.keepIn K (.ref f12) = true)
    (a13 : PySem.W.nsIn K mainGlobals "check_proposition" = some (some (.ref f13)))
    (l13 : K.lookup f13 = some ⟨oc13, od13, .func (PySem.W.fnOf "check_proposition" "check_proposition" (defArgs s_check_proposition) (defBody s_check_proposition) (defScope s_check_proposition) .none kV13 dc13 pm13 an13 cd13 ct13), sl13⟩)
    (c13 : PySem.W.codeIn K cd13 "check_proposition" = true)
    (k13 : PySem.W.keepIn K (.ref f13) = true)
    (a14 : PySem.W.nsIn K mainGlobals "check_answer" = some (some (.ref f14)))
    (l14 : K.lookup f14 = some ⟨oc14, od14, .func (PySem.W.fnOf "check_answer" "check_answer" (defArgs s_check_answer) (defBody s_check_answer) (defScope s_check_answer) .none kV14 dc14 pm14 an14 cd14 ct14), sl14⟩)
    (c14 : PySem.W.codeIn K cd14 "check_answer" = true)
    (k14 : PySem.W.keepIn K (.ref f14) = true)
    (a15 : PySem.W.nsIn K mainGlobals "check_some_world" = some (some (.ref f15)))
    (l15 : K.lookup f15 = some ⟨oc15, od15, .func (PySem.W.fnOf "check_some_world" "check_some_world" (defArgs s_check_some_world) (defBody s_check_some_world) (defScope s_check_some_world) .none kV15 dc15 pm15 an15 cd15 ct15), sl15⟩)
    (c15 : PySem.W.codeIn K cd15 "check_some_world" = true)
    (k15 : PySem.W.keepIn K (.ref f15) = true)
    (a16 : PySem.W.nsIn K mainGlobals "begin" = some (some (.ref f16)))
    (l16 : K.lookup f16 = some ⟨oc16, od16, .func (PySem.W.fnOf "begin" "begin" (defArgs s_begin) (defBody s_begin) (defScope s_begin) .none kV16 dc16 pm16 an16 cd16 ct16), sl16⟩)
    (c16 : PySem.W.codeIn K cd16 "begin" = true)
    (k16 : PySem.W.keepIn K (.ref f16) = true)
    (a17 : PySem.W.nsIn K mainGlobals "propose" = some (some (.ref f17)))
    (l17 : K.lookup f17 = some ⟨oc17, od17, .func (PySem.W.fnOf "propose" "propose" (defArgs s_propose) (defBody s_propose) (defScope s_propose) .none kV17 dc17 pm17 an17 cd17 ct17), sl17⟩)
    (c17 : PySem.W.codeIn K cd17 "propose" = true)
    (k17 : PySem.W.keepIn K (.ref f17) = true)
    (a18 : PySem.W.nsIn K mainGlobals "stand" = some (some (.ref f18)))
    (l18 : K.lookup f18 = some ⟨oc18, od18, .func (PySem.W.fnOf "stand" "stand" (defArgs s_stand) (defBody s_stand) (defScope s_stand) .none kV18 dc18 pm18 an18 cd18 ct18), sl18⟩)
    (c18 : PySem.W.codeIn K cd18 "stand" = true)
    (k18 : PySem.W.keepIn K (.ref f18) = true)
    (a19 : PySem.W.nsIn K mainGlobals "learn" = some (some (.ref f19)))
    (l19 : K.lookup f19 = some ⟨oc19, od19, .func (PySem.W.fnOf "learn" "learn" (defArgs s_learn) (defBody s_learn) (defScope s_learn) .none kV19 dc19 pm19 an19 cd19 ct19), sl19⟩)
    (c19 : PySem.W.codeIn K cd19 "learn" = true)
    (k19 : PySem.W.keepIn K (.ref f19) = true)
    (a20 : PySem.W.nsIn K mainGlobals "put_stock" = some (some (.ref f20)))
    (l20 : K.lookup f20 = some ⟨oc20, od20, .func (PySem.W.fnOf "put_stock" "put_stock" (defArgs s_put_stock) (defBody s_put_stock) (defScope s_put_stock) .none kV20 dc20 pm20 an20 cd20 ct20), sl20⟩)
    (c20 : PySem.W.codeIn K cd20 "put_stock" = true)
    (k20 : PySem.W.keepIn K (.ref f20) = true)
    (a21 : PySem.W.nsIn K mainGlobals "tell_answer" = some (some (.ref f21)))
    (l21 : K.lookup f21 = some ⟨oc21, od21, .func (PySem.W.fnOf "tell_answer" "tell_answer" (defArgs s_tell_answer) (defBody s_tell_answer) (defScope s_tell_answer) .none kV21 dc21 pm21 an21 cd21 ct21), sl21⟩)
    (c21 : PySem.W.codeIn K cd21 "tell_answer" = true)
    (k21 : PySem.W.keepIn K (.ref f21) = true)
    (a22 : PySem.W.nsIn K mainGlobals "tell_row" = some (some (.ref f22)))
    (l22 : K.lookup f22 = some ⟨oc22, od22, .func (PySem.W.fnOf "tell_row" "tell_row" (defArgs s_tell_row) (defBody s_tell_row) (defScope s_tell_row) .none kV22 dc22 pm22 an22 cd22 ct22), sl22⟩)
    (c22 : PySem.W.codeIn K cd22 "tell_row" = true)
    (k22 : PySem.W.keepIn K (.ref f22) = true)
    (a23 : PySem.W.nsIn K mainGlobals "concede" = some (some (.ref f23)))
    (l23 : K.lookup f23 = some ⟨oc23, od23, .func (PySem.W.fnOf "concede" "concede" (defArgs s_concede) (defBody s_concede) (defScope s_concede) .none kV23 dc23 pm23 an23 cd23 ct23), sl23⟩)
    (c23 : PySem.W.codeIn K cd23 "concede" = true)
    (k23 : PySem.W.keepIn K (.ref f23) = true)
    (a24 : PySem.W.nsIn K mainGlobals "deny" = some (some (.ref f24)))
    (l24 : K.lookup f24 = some ⟨oc24, od24, .func (PySem.W.fnOf "deny" "deny" (defArgs s_deny) (defBody s_deny) (defScope s_deny) .none kV24 dc24 pm24 an24 cd24 ct24), sl24⟩)
    (c24 : PySem.W.codeIn K cd24 "deny" = true)
    (k24 : PySem.W.keepIn K (.ref f24) = true)
    (a25 : PySem.W.nsIn K mainGlobals "added_answers" = some (some (.ref f25)))
    (l25 : K.lookup f25 = some ⟨oc25, od25, .func (PySem.W.fnOf "added_answers" "added_answers" (defArgs s_added_answers) (defBody s_added_answers) (defScope s_added_answers) .none kV25 dc25 pm25 an25 cd25 ct25), sl25⟩)
    (c25 : PySem.W.codeIn K cd25 "added_answers" = true)
    (k25 : PySem.W.keepIn K (.ref f25) = true)
    (a26 : PySem.W.nsIn K mainGlobals "may" = some (some (.ref f26)))
    (l26 : K.lookup f26 = some ⟨oc26, od26, .func (PySem.W.fnOf "may" "may" (defArgs s_may) (defBody s_may) (defScope s_may) .none kV26 dc26 pm26 an26 cd26 ct26), sl26⟩)
    (c26 : PySem.W.codeIn K cd26 "may" = true)
    (k26 : PySem.W.keepIn K (.ref f26) = true)
    (a27 : PySem.W.nsIn K mainGlobals "those_that_can_be_made" = some (some (.ref f27)))
    (l27 : K.lookup f27 = some ⟨oc27, od27, .func (PySem.W.fnOf "those_that_can_be_made" "those_that_can_be_made" (defArgs s_those_that_can_be_made) (defBody s_those_that_can_be_made) (defScope s_those_that_can_be_made) .none kV27 dc27 pm27 an27 cd27 ct27), sl27⟩)
    (c27 : PySem.W.codeIn K cd27 "those_that_can_be_made" = true)
    (k27 : PySem.W.keepIn K (.ref f27) = true)
    (a28 : PySem.W.nsIn K mainGlobals "counts" = some (some (.ref f28)))
    (l28 : K.lookup f28 = some ⟨oc28, od28, .func (PySem.W.fnOf "counts" "counts" (defArgs s_counts) (defBody s_counts) (defScope s_counts) .none kV28 dc28 pm28 an28 cd28 ct28), sl28⟩)
    (c28 : PySem.W.codeIn K cd28 "counts" = true)
    (k28 : PySem.W.keepIn K (.ref f28) = true)
    (a29 : PySem.W.nsIn K mainGlobals "pick" = some (some (.ref f29)))
    (l29 : K.lookup f29 = some ⟨oc29, od29, .func (PySem.W.fnOf "pick" "pick" (defArgs s_pick) (defBody s_pick) (defScope s_pick) .none kV29 dc29 pm29 an29 cd29 ct29), sl29⟩)
    (c29 : PySem.W.codeIn K cd29 "pick" = true)
    (k29 : PySem.W.keepIn K (.ref f29) = true)
    (a30 : PySem.W.nsIn K mainGlobals "nth" = some (some (.ref f30)))
    (l30 : K.lookup f30 = some ⟨oc30, od30, .func (PySem.W.fnOf "nth" "nth" (defArgs s_nth) (defBody s_nth) (defScope s_nth) .none kV30 dc30 pm30 an30 cd30 ct30), sl30⟩)
    (c30 : PySem.W.codeIn K cd30 "nth" = true)
    (k30 : PySem.W.keepIn K (.ref f30) = true)
    (a31 : PySem.W.nsIn K mainGlobals "false_that_can_be_conceded" = some (some (.ref f31)))
    (l31 : K.lookup f31 = some ⟨oc31, od31, .func (PySem.W.fnOf "false_that_can_be_conceded" "false_that_can_be_conceded" (defArgs s_false_that_can_be_conceded) (defBody s_false_that_can_be_conceded) (defScope s_false_that_can_be_conceded) .none kV31 dc31 pm31 an31 cd31 ct31), sl31⟩)
    (c31 : PySem.W.codeIn K cd31 "false_that_can_be_conceded" = true)
    (k31 : PySem.W.keepIn K (.ref f31) = true)
    (a32 : PySem.W.nsIn K mainGlobals "count_false" = some (some (.ref f32)))
    (l32 : K.lookup f32 = some ⟨oc32, od32, .func (PySem.W.fnOf "count_false" "count_false" (defArgs s_count_false) (defBody s_count_false) (defScope s_count_false) .none kV32 dc32 pm32 an32 cd32 ct32), sl32⟩)
    (c32 : PySem.W.codeIn K cd32 "count_false" = true)
    (k32 : PySem.W.keepIn K (.ref f32) = true)
    (a33 : PySem.W.nsIn K mainGlobals "nth_false" = some (some (.ref f33)))
    (l33 : K.lookup f33 = some ⟨oc33, od33, .func (PySem.W.fnOf "nth_false" "nth_false" (defArgs s_nth_false) (defBody s_nth_false) (defScope s_nth_false) .none kV33 dc33 pm33 an33 cd33 ct33), sl33⟩)
    (c33 : PySem.W.codeIn K cd33 "nth_false" = true)
    (k33 : PySem.W.keepIn K (.ref f33) = true)
    (a34 : PySem.W.nsIn K mainGlobals "surely" = some (some (.ref f34)))
    (l34 : K.lookup f34 = some ⟨oc34, od34, .func (PySem.W.fnOf "surely" "surely" (defArgs s_surely) (defBody s_surely) (defScope s_surely) .none kV34 dc34 pm34 an34 cd34 ct34), sl34⟩)
    (c34 : PySem.W.codeIn K cd34 "surely" = true)
    (k34 : PySem.W.keepIn K (.ref f34) = true)
    (a35 : PySem.W.nsIn K mainGlobals "rows_to_standings" = some (some (.ref f35)))
    (l35 : K.lookup f35 = some ⟨oc35, od35, .func (PySem.W.fnOf "rows_to_standings" "rows_to_standings" (defArgs s_rows_to_standings) (defBody s_rows_to_standings) (defScope s_rows_to_standings) .none kV35 dc35 pm35 an35 cd35 ct35), sl35⟩)
    (c35 : PySem.W.codeIn K cd35 "rows_to_standings" = true)
    (k35 : PySem.W.keepIn K (.ref f35) = true)
    (a36 : PySem.W.nsIn K mainGlobals "row_from_stock" = some (some (.ref f36)))
    (l36 : K.lookup f36 = some ⟨oc36, od36, .func (PySem.W.fnOf "row_from_stock" "row_from_stock" (defArgs s_row_from_stock) (defBody s_row_from_stock) (defScope s_row_from_stock) .none kV36 dc36 pm36 an36 cd36 ct36), sl36⟩)
    (c36 : PySem.W.codeIn K cd36 "row_from_stock" = true)
    (k36 : PySem.W.keepIn K (.ref f36) = true)
    (a37 : PySem.W.nsIn K mainGlobals "least" = some (some (.ref f37)))
    (l37 : K.lookup f37 = some ⟨oc37, od37, .func (PySem.W.fnOf "least" "least" (defArgs s_least) (defBody s_least) (defScope s_least) .none kV37 dc37 pm37 an37 cd37 ct37), sl37⟩)
    (c37 : PySem.W.codeIn K cd37 "least" = true)
    (k37 : PySem.W.keepIn K (.ref f37) = true)
    (a38 : PySem.W.nsIn K mainGlobals "count_reach" = some (some (.ref f38)))
    (l38 : K.lookup f38 = some ⟨oc38, od38, .func (PySem.W.fnOf "count_reach" "count_reach" (defArgs s_count_reach) (defBody s_count_reach) (defScope s_count_reach) .none kV38 dc38 pm38 an38 cd38 ct38), sl38⟩)
    (c38 : PySem.W.codeIn K cd38 "count_reach" = true)
    (k38 : PySem.W.keepIn K (.ref f38) = true)
    (a39 : PySem.W.nsIn K mainGlobals "nth_reach" = some (some (.ref f39)))
    (l39 : K.lookup f39 = some ⟨oc39, od39, .func (PySem.W.fnOf "nth_reach" "nth_reach" (defArgs s_nth_reach) (defBody s_nth_reach) (defScope s_nth_reach) .none kV39 dc39 pm39 an39 cd39 ct39), sl39⟩)
    (c39 : PySem.W.codeIn K cd39 "nth_reach" = true)
    (k39 : PySem.W.keepIn K (.ref f39) = true)
    (a40 : PySem.W.nsIn K mainGlobals "row_that_leaves" = some (some (.ref f40)))
    (l40 : K.lookup f40 = some ⟨oc40, od40, .func (PySem.W.fnOf "row_that_leaves" "row_that_leaves" (defArgs s_row_that_leaves) (defBody s_row_that_leaves) (defScope s_row_that_leaves) .none kV40 dc40 pm40 an40 cd40 ct40), sl40⟩)
    (c40 : PySem.W.codeIn K cd40 "row_that_leaves" = true)
    (k40 : PySem.W.keepIn K (.ref f40) = true)
    (a41 : PySem.W.nsIn K mainGlobals "idle" = some (some (.ref f41)))
    (l41 : K.lookup f41 = some ⟨oc41, od41, .func (PySem.W.fnOf "idle" "idle" (defArgs s_idle) (defBody s_idle) (defScope s_idle) .none kV41 dc41 pm41 an41 cd41 ct41), sl41⟩)
    (c41 : PySem.W.codeIn K cd41 "idle" = true)
    (k41 : PySem.W.keepIn K (.ref f41) = true)
    (a42 : PySem.W.nsIn K mainGlobals "state" = some (some (.ref f42)))
    (l42 : K.lookup f42 = some ⟨oc42, od42, .func (PySem.W.fnOf "state" "state" (defArgs s_state) (defBody s_state) (defScope s_state) .none kV42 dc42 pm42 an42 cd42 ct42), sl42⟩)
    (c42 : PySem.W.codeIn K cd42 "state" = true)
    (k42 : PySem.W.keepIn K (.ref f42) = true)
    (a43 : PySem.W.nsIn K mainGlobals "answer_call" = some (some (.ref f43)))
    (l43 : K.lookup f43 = some ⟨oc43, od43, .func (PySem.W.fnOf "answer_call" "answer_call" (defArgs s_answer_call) (defBody s_answer_call) (defScope s_answer_call) .none kV43 dc43 pm43 an43 cd43 ct43), sl43⟩)
    (c43 : PySem.W.codeIn K cd43 "answer_call" = true)
    (k43 : PySem.W.keepIn K (.ref f43) = true)
    (a44 : PySem.W.nsIn K mainGlobals "answer_or_refusal" = some (some (.ref f44)))
    (l44 : K.lookup f44 = some ⟨oc44, od44, .func (PySem.W.fnOf "answer_or_refusal" "answer_or_refusal" (defArgs s_answer_or_refusal) (defBody s_answer_or_refusal) (defScope s_answer_or_refusal) .none kV44 dc44 pm44 an44 cd44 ct44), sl44⟩)
    (c44 : PySem.W.codeIn K cd44 "answer_or_refusal" = true)
    (k44 : PySem.W.keepIn K (.ref f44) = true)
    (a45 : PySem.W.nsIn K mainGlobals "end_of_call" = some (some (.ref f45)))
    (l45 : K.lookup f45 = some ⟨oc45, od45, .func (PySem.W.fnOf "end_of_call" "end_of_call" (defArgs s_end_of_call) (defBody s_end_of_call) (defScope s_end_of_call) .none kV45 dc45 pm45 an45 cd45 ct45), sl45⟩)
    (c45 : PySem.W.codeIn K cd45 "end_of_call" = true)
    (k45 : PySem.W.keepIn K (.ref f45) = true)
    (a46 : PySem.W.nsIn K mainGlobals "answers" = some (some (.ref f46)))
    (l46 : K.lookup f46 = some ⟨oc46, od46, .func (PySem.W.fnOf "answers" "answers" (defArgs s_answers) (defBody s_answers) (defScope s_answers) .none kV46 dc46 pm46 an46 cd46 ct46), sl46⟩)
    (c46 : PySem.W.codeIn K cd46 "answers" = true)
    (k46 : PySem.W.keepIn K (.ref f46) = true)
    (g_DENIED : PySem.W.nsIn K mainGlobals "DENIED" = some (some (.int 0 tk_DENIED)))
    (g_CONCEDED : PySem.W.nsIn K mainGlobals "CONCEDED" = some (some (.int 1 tk_CONCEDED)))
    (g_DOUBTED : PySem.W.nsIn K mainGlobals "DOUBTED" = some (some (.int 2 tk_DOUBTED)))
    (g_INDIFFERENT : PySem.W.nsIn K mainGlobals "INDIFFERENT" = some (some (.int 0 tk_INDIFFERENT)))
    (g_FOLLOWS : PySem.W.nsIn K mainGlobals "FOLLOWS" = some (some (.int 1 tk_FOLLOWS)))
    (g_AGAINST : PySem.W.nsIn K mainGlobals "AGAINST" = some (some (.int 2 tk_AGAINST)))
    (g_MOST_LETTERS : PySem.W.nsIn K mainGlobals "MOST_LETTERS" = some (some (.int 3 tk_MOST_LETTERS)))
    (g_BEGIN : PySem.W.nsIn K mainGlobals "BEGIN" = some (some (.int 0 tk_BEGIN)))
    (g_STOCK : PySem.W.nsIn K mainGlobals "STOCK" = some (some (.int 4 tk_STOCK)))
    (g_MOST_IN_STOCK : PySem.W.nsIn K mainGlobals "MOST_IN_STOCK" = some (some (.int 6 tk_MOST_IN_STOCK)))
    (n_len : PySem.W.nsIn K mainGlobals "len" = some none)
    (n_list : PySem.W.nsIn K mainGlobals "list" = some none)
    (n_range : PySem.W.nsIn K mainGlobals "range" = some none)
    (n_sorted : PySem.W.nsIn K mainGlobals "sorted" = some none)
    (n_min : PySem.W.nsIn K mainGlobals "min" = some none)
    (ta_ALL_WORLDS : PySem.W.nsIn K mainGlobals "ALL_WORLDS" = some (some (.ref ad_ALL_WORLDS)))
    (tl_ALL_WORLDS : K.lookup ad_ALL_WORLDS = some ⟨.type "tuple", td_ALL_WORLDS, .seq it_ALL_WORLDS tn_ALL_WORLDS, ts_ALL_WORLDS⟩)
    (ta_LENGTHS : PySem.W.nsIn K mainGlobals "LENGTHS" = some (some (.ref ad_LENGTHS)))
    (tl_LENGTHS : K.lookup ad_LENGTHS = some ⟨.type "tuple", td_LENGTHS, .seq it_LENGTHS tn_LENGTHS, ts_LENGTHS⟩)
    (ta_CALLS : PySem.W.nsIn K mainGlobals "CALLS" = some (some (.ref ad_CALLS)))
    (tl_CALLS : K.lookup ad_CALLS = some ⟨.type "tuple", td_CALLS, .seq it_CALLS tn_CALLS, ts_CALLS⟩)
    (x_C : PySem.W.nsIn K mainGlobals "Disputation" = some (some (.ref C)))
    (x_y1 : PySem.W.nsIn K mainGlobals "NotBegun" = some (some (.ref y1)))
    (x_y2 : PySem.W.nsIn K mainGlobals "NotRight" = some (some (.ref y2)))
    (x_y3 : PySem.W.nsIn K mainGlobals "CannotBe" = some (some (.ref y3)))
    (ai : PySem.W.findIn K (.ref C) "__init__" = some (some (.ref fi)))
    (ii : PySem.W.isFn K (.ref fi) = true)
    (li : K.lookup fi = some ⟨oci, odi, .func (PySem.W.fnOf "__init__" "Disputation.__init__" (defArgs s_Disputation_init) (defBody s_Disputation_init) (defScope s_Disputation_init) .none kVi dci pmi ani cdi cti), sli⟩)
    (ci : PySem.W.codeIn K cdi "Disputation.__init__" = true)
    (ki : PySem.W.keepIn K (.ref fi) = true)
    (pg : PySem.W.plainGet K C Str.empty = true)
    (hd : PySem.W.hasDictIn K C = true)
    (po : PySem.W.plainOver K C = true)
    (sa : PySem.W.findIn K (.ref C) "__setattr__" = some (some (.builtin "object.__setattr__")))
    (mk : PySem.W.makesIn K C = true)
    (kc : PySem.W.keepIn K (.ref C) = true)
    (nL : PySem.W.findIn K (.ref C) "letters" = some none)
    (nK : PySem.W.findIn K (.ref C) "known" = some none)
    (nB : PySem.W.findIn K (.ref C) "standing" = some none)
    (nS : PySem.W.findIn K (.ref C) "stock" = some none)
    (oa_y1 : K.lookup y1 = some ⟨.type "type", dd_y1, .cls ⟨nm_y1, bs_y1, .ref y1 :: bm_y1, ns_y1, qn_y1, hd_y1, sn_y1, sub_y1, ab_y1, col_y1, false⟩, #[k0_y1, k1_y1, k2_y1, k3_y1, some (.builtin "Exception.__new__"), k5_y1]⟩)
    (ob_y1 : PySem.W.tailIn K [.type "Exception", .type "BaseException", .type "object"] bm_y1 = true)
    (oc_y1 : PySem.W.nsOkIn K ns_y1 = true)
    (od_y1 : PySem.W.nsIn K ns_y1 "__init__" = some none)
    (oa_y2 : K.lookup y2 = some ⟨.type "type", dd_y2, .cls ⟨nm_y2, bs_y2, .ref y2 :: bm_y2, ns_y2, qn_y2, hd_y2, sn_y2, sub_y2, ab_y2, col_y2, false⟩, #[k0_y2, k1_y2, k2_y2, k3_y2, some (.builtin "Exception.__new__"), k5_y2]⟩)
    (ob_y2 : PySem.W.tailIn K [.type "Exception", .type "BaseException", .type "object"] bm_y2 = true)
    (oc_y2 : PySem.W.nsOkIn K ns_y2 = true)
    (od_y2 : PySem.W.nsIn K ns_y2 "__init__" = some none)
    (oa_y3 : K.lookup y3 = some ⟨.type "type", dd_y3, .cls ⟨nm_y3, bs_y3, .ref y3 :: bm_y3, ns_y3, qn_y3, hd_y3, sn_y3, sub_y3, ab_y3, col_y3, false⟩, #[k0_y3, k1_y3, k2_y3, k3_y3, some (.builtin "Exception.__new__"), k5_y3]⟩)
    (ob_y3 : PySem.W.tailIn K [.type "Exception", .type "BaseException", .type "object"] bm_y3 = true)
    (oc_y3 : PySem.W.nsOkIn K ns_y3 = true)
    (od_y3 : PySem.W.nsIn K ns_y3 "__init__" = some none)
    (e_11 : PySem.W.exmOne K (.ref y1) (.ref y1) = some true)
    (e_21 : PySem.W.exmOne K (.ref y2) (.ref y1) = some false)
    (e_22 : PySem.W.exmOne K (.ref y2) (.ref y2) = some true)
    (e_31 : PySem.W.exmOne K (.ref y3) (.ref y1) = some false)
    (e_32 : PySem.W.exmOne K (.ref y3) (.ref y2) = some false)
    (e_33 : PySem.W.exmOne K (.ref y3) (.ref y3) = some true)
    (v_ALL_WORLDS : Vals [.int 0, .int 3, .int 15, .int 255] it_ALL_WORLDS.toList) (z_ALL_WORLDS : it_ALL_WORLDS.size ≤ sizeLine)
    (v_LENGTHS : Vals (nV Mc.lens) it_LENGTHS.toList) (z_LENGTHS : it_LENGTHS.size ≤ sizeLine)
    (v_CALLS : it_CALLS.toList = [.ref f16, .ref f17, .ref f18, .ref f19, .ref f20, .ref f21, .ref f23, .ref f24, .ref f26, .ref f28, .ref f30, .ref f32, .ref f33, .ref f34, .ref f36, .ref f37, .ref f38, .ref f39, .ref f40, .ref f41, .ref f42]) (z_CALLS : it_CALLS.size ≤ sizeLine)
    : ∃ t : Ad, TxC K mg t ∧ Def K mg "answers" s_answers ["calls"] := by
  refine ⟨⟨C, y1, y2, y3⟩, ?_, def_mk (st := s_answers) X G a46 l46 c46 k46 b_answers⟩
  have W : TxW K mg :=
    { denied := gi_mk X G g_DENIED
      conceded := gi_mk X G g_CONCEDED
      doubted := gi_mk X G g_DOUBTED
      indiff := gi_mk X G g_INDIFFERENT
      follows := gi_mk X G g_FOLLOWS
      against := gi_mk X G g_AGAINST
      most := gi_mk X G g_MOST_LETTERS
      all := tup_mk X G ta_ALL_WORLDS tl_ALL_WORLDS z_ALL_WORLDS v_ALL_WORLDS
      len := PySem.W.ns_none_of X G n_len
      list := PySem.W.ns_none_of X G n_list
      range := PySem.W.ns_none_of X G n_range
      sorted := PySem.W.ns_none_of X G n_sorted
      min := PySem.W.ns_none_of X G n_min
      all_worlds := def_mk (st := s_all_worlds) X G a0 l0 c0 k0 b_all_worlds
      all_propositions := def_mk (st := s_all_propositions) X G a1 l1 c1 k1 b_all_propositions
      how_many := def_mk (st := s_how_many) X G a2 l2 c2 k2 b_how_many
      without := def_mk (st := s_without) X G a3 l3 c3 k3 b_without
      bearing := def_mk (st := s_bearing) X G a4 l4 c4 k4 b_bearing
      right_answer := def_mk (st := s_right_answer) X G a5 l5 c5 k5 b_right_answer
      standing_behind := def_mk (st := s_standing_behind) X G a6 l6 c6 k6 b_standing_behind
      can_be_made := def_mk (st := s_can_be_made) X G a7 l7 c7 k7 b_can_be_made
      all_that := def_mk (st := s_all_that_can_be_made) X G a8 l8 c8 k8 b_all_that_can_be_made
      shortest_row := def_mk (st := s_shortest_row) X G a9 l9 c9 k9 b_shortest_row
      rows_of_stock := def_mk (st := s_rows_of_stock) X G a10 l10 c10 k10 b_rows_of_stock
      fewest_worlds := def_mk (st := s_fewest_worlds) X G a11 l11 c11 k11 b_fewest_worlds
      changes_something := def_mk (st := s_changes_something) X G a12 l12 c12 k12 b_changes_something }
  have T : Tx K mg ⟨C, y1, y2, y3⟩ :=
    { W with
      cl := ⟨pg, hd, po, sa⟩
      nL := nL
      nK := nK
      nB := nB
      nS := nS
      mgC := PySem.W.mg_of X G x_C
      made := made_mk mk ai ii kc li ci ki
      x1 := PySem.W.mg_of X G x_y1
      x2 := PySem.W.mg_of X G x_y2
      x3 := PySem.W.mg_of X G x_y3
      o1 := ⟨_, _, _, _, _, _, _, _, _, _, _, _, _, _, _, _, oa_y1, ob_y1, oc_y1, od_y1⟩
      o2 := ⟨_, _, _, _, _, _, _, _, _, _, _, _, _, _, _, _, oa_y2, ob_y2, oc_y2, od_y2⟩
      o3 := ⟨_, _, _, _, _, _, _, _, _, _, _, _, _, _, _, _, oa_y3, ob_y3, oc_y3, od_y3⟩
      e11 := e_11
      e21 := e_21
      e22 := e_22
      e31 := e_31
      e32 := e_32
      e33 := e_33
      begin_ := gi_mk X G g_BEGIN
      stock_ := gi_mk X G g_STOCK
      most6 := gi_mk X G g_MOST_IN_STOCK
      lengths := tup_mk X G ta_LENGTHS tl_LENGTHS z_LENGTHS v_LENGTHS
      check_proposition := def_mk (st := s_check_proposition) X G a13 l13 c13 k13 b_check_proposition
      check_answer := def_mk (st := s_check_answer) X G a14 l14 c14 k14 b_check_answer
      check_some_world := def_mk (st := s_check_some_world) X G a15 l15 c15 k15 b_check_some_world
      begin := def_mk (st := s_begin) X G a16 l16 c16 k16 b_begin
      propose := def_mk (st := s_propose) X G a17 l17 c17 k17 b_propose
      stand := def_mk (st := s_stand) X G a18 l18 c18 k18 b_stand
      learn := def_mk (st := s_learn) X G a19 l19 c19 k19 b_learn
      put_stock := def_mk (st := s_put_stock) X G a20 l20 c20 k20 b_put_stock
      tell_answer := def_mk (st := s_tell_answer) X G a21 l21 c21 k21 b_tell_answer
      tell_row := def_mk (st := s_tell_row) X G a22 l22 c22 k22 b_tell_row
      concede := def_mk (st := s_concede) X G a23 l23 c23 k23 b_concede
      deny := def_mk (st := s_deny) X G a24 l24 c24 k24 b_deny
      added_answers := def_mk (st := s_added_answers) X G a25 l25 c25 k25 b_added_answers
      may := def_mk (st := s_may) X G a26 l26 c26 k26 b_may
      those := def_mk (st := s_those_that_can_be_made) X G a27 l27 c27 k27 b_those_that_can_be_made
      counts := def_mk (st := s_counts) X G a28 l28 c28 k28 b_counts
      pick := def_mk (st := s_pick) X G a29 l29 c29 k29 b_pick
      nth := def_mk (st := s_nth) X G a30 l30 c30 k30 b_nth
      false_that := def_mk (st := s_false_that_can_be_conceded) X G a31 l31 c31 k31 b_false_that_can_be_conceded
      count_false := def_mk (st := s_count_false) X G a32 l32 c32 k32 b_count_false
      nth_false := def_mk (st := s_nth_false) X G a33 l33 c33 k33 b_nth_false
      surely := def_mk (st := s_surely) X G a34 l34 c34 k34 b_surely
      rows_to := def_mk (st := s_rows_to_standings) X G a35 l35 c35 k35 b_rows_to_standings
      row_from := def_mk (st := s_row_from_stock) X G a36 l36 c36 k36 b_row_from_stock
      least := def_mk (st := s_least) X G a37 l37 c37 k37 b_least
      count_reach := def_mk (st := s_count_reach) X G a38 l38 c38 k38 b_count_reach
      nth_reach := def_mk (st := s_nth_reach) X G a39 l39 c39 k39 b_nth_reach
      row_that := def_mk (st := s_row_that_leaves) X G a40 l40 c40 k40 b_row_that_leaves
      idle := def_mk (st := s_idle) X G a41 l41 c41 k41 b_idle
      state := def_mk (st := s_state) X G a42 l42 c42 k42 b_state
      end_of_call := def_mk (st := s_end_of_call) X G a45 l45 c45 k45 b_end_of_call
      answer_or_refusal := def_mk (st := s_answer_or_refusal) X G a44 l44 c44 k44 b_answer_or_refusal }
  refine { T with
    calls := ?_
    answer_call := def_mk (st := s_answer_call) X G a43 l43 c43 k43 b_answer_call }
  refine ⟨ad_CALLS, [f16, f17, f18, f19, f20, f21, f23, f24, f26, f28, f30, f32, f33, f34, f36, f37, f38, f39, f40, f41, f42], PySem.W.mg_of X G ta_CALLS, fun H => .inr ⟨_, it_CALLS, tn_CALLS, tl_CALLS, rfl, rfl, z_CALLS, ?_⟩, ?_⟩
  · rw [v_CALLS]
    repeat (first | exact PySem.Paired.nil | refine PySem.Paired.cons rfl ?_)
  · show [mg "begin", mg "propose", mg "stand", mg "learn", mg "put_stock", mg "tell_answer", mg "concede", mg "deny", mg "may", mg "counts", mg "nth", mg "count_false", mg "nth_false", mg "surely", mg "row_from_stock", mg "least", mg "count_reach", mg "nth_reach", mg "row_that_leaves", mg "idle", mg "state"] = _
    rw [PySem.W.mg_of X G a16, PySem.W.mg_of X G a17, PySem.W.mg_of X G a18, PySem.W.mg_of X G a19, PySem.W.mg_of X G a20, PySem.W.mg_of X G a21, PySem.W.mg_of X G a23, PySem.W.mg_of X G a24, PySem.W.mg_of X G a26, PySem.W.mg_of X G a28, PySem.W.mg_of X G a30, PySem.W.mg_of X G a32, PySem.W.mg_of X G a33, PySem.W.mg_of X G a34, PySem.W.mg_of X G a36, PySem.W.mg_of X G a37, PySem.W.mg_of X G a38, PySem.W.mg_of X G a39, PySem.W.mg_of X G a40, PySem.W.mg_of X G a41, PySem.W.mg_of X G a42]
    rfl
end Mp
end

section
theorem PySem.W.Fast.te13868855741476541031 : True := True.intro
open PySem PySem.W PyProof.Rows
set_option Elab.async false
set_option maxRecDepth 100000 in
set_option maxHeartbeats 0 in
theorem PySem.Challenge.cw_madeconceded_s01_answers_holds : PySem.Challenge.rw_madeconceded_s01_answers.Holds := by
  w_on; k_headS; (case hw => exact ⟨[.list []], by decide +kernel, by decide +kernel⟩)
  k_fillS
  refine L2.walk_specK (r := PySem.Challenge.rw_madeconceded_s01_answers) (k := 11) (CX := L2.CX0) (ps := ["calls"]) (sp := Mp.spAns) (by decide +kernel) rfl rfl ⟨rfl, by decide, by decide⟩ (fun w h Y => PySem.W.kIn_of Y) ?F ?S (fun _ _ _ _ z => z)
  case F =>
    intro w mg fa h Y KX G hmg
    have TX : ∃ t : Mp.Ad, Mp.TxC (L2.KOf KX) mg t ∧ Mp.Def (L2.KOf KX) mg "answers" Mp.s_answers ["calls"] := by
      dsimp only [L2.KOf]
      refine' Mp.tx_mk KX G ?a0 ?l0 ?c0 ?k0 ?a1 ?l1 ?c1 ?k1 ?a2 ?l2 ?c2 ?k2 ?a3 ?l3 ?c3 ?k3 ?a4 ?l4 ?c4 ?k4 ?a5 ?l5 ?c5 ?k5 ?a6 ?l6 ?c6 ?k6 ?a7 ?l7 ?c7 ?k7 ?a8 ?l8 ?c8 ?k8 ?a9 ?l9 ?c9 ?k9 ?a10 ?l10 ?c10 ?k10 ?a11 ?l11 ?c11 ?k11 ?a12 ?l12 ?c12 ?k12 ?a13 ?l13 ?c13 ?k13 ?a14 ?l14 ?c14 ?k14 ?a15 ?l15 ?c15 ?k15 ?a16 ?l16 ?c16 ?k16 ?a17 ?l17 ?c17 ?k17 ?a18 ?l18 ?c18 ?k18 ?a19 ?l19 ?c19 ?k19 ?a20 ?l20 ?c20 ?k20 ?a21 ?l21 ?c21 ?k21 ?a22 ?l22 ?c22 ?k22 ?a23 ?l23 ?c23 ?k23 ?a24 ?l24 ?c24 ?k24 ?a25 ?l25 ?c25 ?k25 ?a26 ?l26 ?c26 ?k26 ?a27 ?l27 ?c27 ?k27 ?a28 ?l28 ?c28 ?k28 ?a29 ?l29 ?c29 ?k29 ?a30 ?l30 ?c30 ?k30 ?a31 ?l31 ?c31 ?k31 ?a32 ?l32 ?c32 ?k32 ?a33 ?l33 ?c33 ?k33 ?a34 ?l34 ?c34 ?k34 ?a35 ?l35 ?c35 ?k35 ?a36 ?l36 ?c36 ?k36 ?a37 ?l37 ?c37 ?k37 ?a38 ?l38 ?c38 ?k38 ?a39 ?l39 ?c39 ?k39 ?a40 ?l40 ?c40 ?k40 ?a41 ?l41 ?c41 ?k41 ?a42 ?l42 ?c42 ?k42 ?a43 ?l43 ?c43 ?k43 ?a44 ?l44 ?c44 ?k44 ?a45 ?l45 ?c45 ?k45 ?a46 ?l46 ?c46 ?k46 ?g_DENIED ?g_CONCEDED ?g_DOUBTED ?g_INDIFFERENT ?g_FOLLOWS ?g_AGAINST ?g_MOST_LETTERS ?g_BEGIN ?g_STOCK ?g_MOST_IN_STOCK ?n_len ?n_list ?n_range ?n_sorted ?n_min ?ta_ALL_WORLDS ?tl_ALL_WORLDS ?ta_LENGTHS ?tl_LENGTHS ?ta_CALLS ?tl_CALLS ?x_C ?x_y1 ?x_y2 ?x_y3 ?ai ?ii ?li ?ci ?ki ?pg ?hd ?po ?sa ?mk ?kc ?nL ?nK ?nB ?nS ?oa_y1 ?ob_y1 ?oc_y1 ?od_y1 ?oa_y2 ?ob_y2 ?oc_y2 ?od_y2 ?oa_y3 ?ob_y3 ?oc_y3 ?od_y3 ?e_11 ?e_21 ?e_22 ?e_31 ?e_32 ?e_33 ?v1 ?z1 ?v2 ?z2 ?v3 ?z3
      (case a0 => k_is); (case l0 => k_is); (case c0 => k_is); (case k0 => k_is); (case a1 => k_is); (case l1 => k_is); (case c1 => k_is); (case k1 => k_is)
      (case a2 => k_is); (case l2 => k_is); (case c2 => k_is); (case k2 => k_is); (case a3 => k_is); (case l3 => k_is); (case c3 => k_is); (case k3 => k_is)
      (case a4 => k_is); (case l4 => k_is); (case c4 => k_is); (case k4 => k_is); (case a5 => k_is); (case l5 => k_is); (case c5 => k_is); (case k5 => k_is)
      (case a6 => k_is); (case l6 => k_is); (case c6 => k_is); (case k6 => k_is); (case a7 => k_is); (case l7 => k_is); (case c7 => k_is); (case k7 => k_is)
      (case a8 => k_is); (case l8 => k_is); (case c8 => k_is); (case k8 => k_is); (case a9 => k_is); (case l9 => k_is); (case c9 => k_is); (case k9 => k_is)
      (case a10 => k_is); (case l10 => k_is); (case c10 => k_is); (case k10 => k_is); (case a11 => k_is); (case l11 => k_is); (case c11 => k_is); (case k11 => k_is)
      (case a12 => k_is); (case l12 => k_is); (case c12 => k_is); (case k12 => k_is); (case a13 => k_is); (case l13 => k_is); (case c13 => k_is); (case k13 => k_is)
      (case a14 => k_is); (case l14 => k_is); (case c14 => k_is); (case k14 => k_is); (case a15 => k_is); (case l15 => k_is); (case c15 => k_is); (case k15 => k_is)
      (case a16 => k_is); (case l16 => k_is); (case c16 => k_is); (case k16 => k_is); (case a17 => k_is); (case l17 => k_is); (case c17 => k_is); (case k17 => k_is)
      (case a18 => k_is); (case l18 => k_is); (case c18 => k_is); (case k18 => k_is); (case a19 => k_is); (case l19 => k_is); (case c19 => k_is); (case k19 => k_is)
      (case a20 => k_is); (case l20 => k_is); (case c20 => k_is); (case k20 => k_is); (case a21 => k_is); (case l21 => k_is); (case c21 => k_is); (case k21 => k_is)
      (case a22 => k_is); (case l22 => k_is); (case c22 => k_is); (case k22 => k_is); (case a23 => k_is); (case l23 => k_is); (case c23 => k_is); (case k23 => k_is)
      (case a24 => k_is); (case l24 => k_is); (case c24 => k_is); (case k24 => k_is); (case a25 => k_is); (case l25 => k_is); (case c25 => k_is); (case k25 => k_is)
      (case a26 => k_is); (case l26 => k_is); (case c26 => k_is); (case k26 => k_is); (case a27 => k_is); (case l27 => k_is); (case c27 => k_is); (case k27 => k_is)
      (case a28 => k_is); (case l28 => k_is); (case c28 => k_is); (case k28 => k_is); (case a29 => k_is); (case l29 => k_is); (case c29 => k_is); (case k29 => k_is)
      (case a30 => k_is); (case l30 => k_is); (case c30 => k_is); (case k30 => k_is); (case a31 => k_is); (case l31 => k_is); (case c31 => k_is); (case k31 => k_is)
      (case a32 => k_is); (case l32 => k_is); (case c32 => k_is); (case k32 => k_is); (case a33 => k_is); (case l33 => k_is); (case c33 => k_is); (case k33 => k_is)
      (case a34 => k_is); (case l34 => k_is); (case c34 => k_is); (case k34 => k_is); (case a35 => k_is); (case l35 => k_is); (case c35 => k_is); (case k35 => k_is)
      (case a36 => k_is); (case l36 => k_is); (case c36 => k_is); (case k36 => k_is); (case a37 => k_is); (case l37 => k_is); (case c37 => k_is); (case k37 => k_is)
      (case a38 => k_is); (case l38 => k_is); (case c38 => k_is); (case k38 => k_is); (case a39 => k_is); (case l39 => k_is); (case c39 => k_is); (case k39 => k_is)
      (case a40 => k_is); (case l40 => k_is); (case c40 => k_is); (case k40 => k_is); (case a41 => k_is); (case l41 => k_is); (case c41 => k_is); (case k41 => k_is)
      (case a42 => k_is); (case l42 => k_is); (case c42 => k_is); (case k42 => k_is); (case a43 => k_is); (case l43 => k_is); (case c43 => k_is); (case k43 => k_is)
      (case a44 => k_is); (case l44 => k_is); (case c44 => k_is); (case k44 => k_is); (case a45 => k_is); (case l45 => k_is); (case c45 => k_is); (case k45 => k_is)
      (case a46 => k_is); (case l46 => k_is); (case c46 => k_is); (case k46 => k_is); (case g_DENIED => k_is); (case g_CONCEDED => k_is); (case g_DOUBTED => k_is); (case g_INDIFFERENT => k_is)
      (case g_FOLLOWS => k_is); (case g_AGAINST => k_is); (case g_MOST_LETTERS => k_is); (case g_BEGIN => k_is); (case g_STOCK => k_is); (case g_MOST_IN_STOCK => k_is); (case n_len => k_is); (case n_list => k_is)
      (case n_range => k_is); (case n_sorted => k_is); (case n_min => k_is); (case ta_ALL_WORLDS => k_is); (case tl_ALL_WORLDS => k_is); (case ta_LENGTHS => k_is); (case tl_LENGTHS => k_is); (case ta_CALLS => k_is)
      (case tl_CALLS => k_is); (case x_C => k_is); (case x_y1 => k_is); (case x_y2 => k_is); (case x_y3 => k_is); (case ai => k_is); (case ii => k_is); (case li => k_is)
      (case ci => k_is); (case ki => k_is); (case pg => k_is); (case hd => k_is); (case po => k_is); (case sa => k_is); (case mk => k_is); (case kc => k_is)
      (case nL => k_is); (case nK => k_is); (case nB => k_is); (case nS => k_is)
      (case oa_y1 => k_is); (case ob_y1 => kernel_rfl); (case oc_y1 => kernel_rfl); (case od_y1 => k_is); (case oa_y2 => k_is); (case ob_y2 => kernel_rfl); (case oc_y2 => kernel_rfl); (case od_y2 => k_is); (case oa_y3 => k_is); (case ob_y3 => kernel_rfl); (case oc_y3 => kernel_rfl); (case od_y3 => k_is); (case e_11 => kts_exm); (case e_21 => kts_exm); (case e_22 => kts_exm); (case e_31 => kts_exm); (case e_32 => kts_exm); (case e_33 => kts_exm)
      (case v1 => repeat (first | exact PySem.Paired.nil | refine PySem.Paired.cons ⟨_, rfl⟩ ?_)); (case z1 => decide)
      (case v2 => repeat (first | exact PySem.Paired.nil | refine PySem.Paired.cons ⟨_, rfl⟩ ?_)); (case z2 => decide)
      (case v3 => rfl); (case z3 => decide)
    obtain ⟨t, T, f, fd, hm, F, _⟩ := TX
    have e := hmg.symm.trans hm
    cases e
    refine ⟨fd, ?_, fun base kb nb => Mp.ok_answers T.toTx F (Mp.cb_answer_call T)⟩
    obtain ⟨oc, od, kV, doc, pm, an, cdv, ct, osl, rfl, _, _⟩ := F.ex
    exact fun s us hu => .of_eq (Mp.b_answers _ _ _ _ _ _ us hu)
  case S =>
    intro K H xs a hO hwi hask hx
    cases hx with
    | cons h1 h2 =>
      cases h2
      cases h1 with
      | lst hs ha =>
        have e := L2.ints_dw a.1 _ ha
        subst e
        have q : ((Codec.inLen 0 10280 a.1 && a.1.all (Codec.inInt 0 4294967295)) && true) = true := hwi
        rw [Bool.and_eq_true, Bool.and_eq_true] at q
        refine ⟨_, a.1, rfl, hs, fun z hz => ?_, hask, (Codec.inNat_iff.mp q.1.1).2, fun H' p hp => .lst (L2.SqL.of hp) (L2.dw_ints _)⟩
        exact Codec.inInt_iff.mp (List.all_eq_true.mp q.1.2 z hz)
end
