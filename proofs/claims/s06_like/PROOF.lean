import PyProof.Rows.All
import Wide.All
import OpenK.AllK
import Wide.FinOn
import PyProof.EqAt
import PyProof.EqKinds
import PyProof.TupleCall
import Open.SpecLaws
import KE.OsHead
import KE.OsGo
import PyProof.StationsW
import PyProof.ExcArgsOwn
import PyProof.RulesAs
import PyProof.PassesOwn
import PyProof.ExcInit
import PyProof.InstStoreFacts
import PyProof.ExcAttrAll.ValueError
import KE.BitLaws
import PySem.Challenge.RW_shieldwords_s06_like
section
set_option Elab.async false
set_option linter.all false
set_option maxRecDepth 100000
namespace L2
open PySem PySem.Spec PyProof.Rows

abbrev Key := Sum Int Str
def keyIs : Key → Value → Bool
  | .inl k, v => Value.isInt k v
  | .inr x, v => Value.isStrOf x v
def keyH (w : World) : Key → Int
  | .inl k => hashInt k
  | .inr x => hashStr w x
theorem keyIs_shape : ∀ {k : Key} {v : Value}, keyIs k v = true → (∃ i t, k = Sum.inl i ∧ v = Value.int i t) ∨ (∃ x t, k = Sum.inr x ∧ v = Value.str x t)
  | .inl i, v, h => by
    obtain ⟨t, e⟩ := Value.isInt_shape (k := i) (v := v) h
    exact .inl ⟨i, t, rfl, e⟩
  | .inr x, v, h => by
    obtain ⟨t, e⟩ := Value.isStrOf_shape (x := x) (v := v) h
    exact .inr ⟨x, t, rfl, e⟩
theorem key_ll (a b : Int) : decide ((Sum.inl a : Key) = Sum.inl b) = (a == b) := by
  by_cases e : a = b
  · subst e; simp
  · have h : ¬ (Sum.inl a : Key) = Sum.inl b := fun q => e (Sum.inl.inj q)
    rw [decide_eq_false h]
    exact (beq_eq_false_iff_ne.mpr e).symm
theorem key_rr (a b : Str) : decide ((Sum.inr a : Key) = Sum.inr b) = decide (a = b) := by
  by_cases e : a = b
  · subst e; simp
  · have h : ¬ (Sum.inr a : Key) = Sum.inr b := fun q => e (Sum.inr.inj q)
    rw [decide_eq_false h, decide_eq_false e]
theorem key_lr (a : Int) (b : Str) : decide ((Sum.inl a : Key) = Sum.inr b) = false := decide_eq_false (fun q => nomatch q)
theorem key_rl (a : Str) (b : Int) : decide ((Sum.inr a : Key) = Sum.inl b) = false := decide_eq_false (fun q => nomatch q)

def mixKind (prog : Program) (w : World) : PySem.KeyKind prog w Key where
  is := keyIs
  hash := keyH w
  inj := fun v a b ha hb => by
    rcases keyIs_shape ha with ⟨i, t, rfl, rfl⟩ | ⟨x, t, rfl, rfl⟩
    · rcases keyIs_shape hb with ⟨j, u, rfl, e⟩ | ⟨y, u, rfl, e⟩
      · injection e with e1 _; rw [e1]
      · exact nomatch e
    · rcases keyIs_shape hb with ⟨j, u, rfl, e⟩ | ⟨y, u, rfl, e⟩
      · exact nomatch e
      · injection e with e1 _; rw [e1]
  byValue := fun k v h => by
    rcases keyIs_shape h with ⟨i, t, rfl, rfl⟩ | ⟨x, t, rfl, rfl⟩ <;> rfl
  pyHash := fun hv h => by
    rcases keyIs_shape hv with ⟨i, t, rfl, rfl⟩ | ⟨x, t, rfl, rfl⟩
    · exact wpAny_pyHash_int h
    · exact wpAny_pyHash_str h
  eqBool := fun hu hv h => by
    rcases keyIs_shape hu with ⟨i, t, rfl, rfl⟩ | ⟨x, t, rfl, rfl⟩
    · rcases keyIs_shape hv with ⟨j, u, rfl, rfl⟩ | ⟨y, u, rfl, rfl⟩
      · rw [key_ll] at h; exact wpAny_eqBool_int h
      · rw [key_lr] at h; exact SeqAt.EqAt.int_str i t y u _ _ _ _ h
    · rcases keyIs_shape hv with ⟨j, u, rfl, rfl⟩ | ⟨y, u, rfl, rfl⟩
      · rw [key_rl] at h; exact SeqAt.EqAt.str_int x t j u _ _ _ _ h
      · rw [key_rr] at h; exact wpAny_eqBool_str h
  «strs» := fun k x t v h => by
    rcases keyIs_shape h with ⟨i, u, rfl, e⟩ | ⟨y, u, rfl, e⟩
    · exact nomatch e
    · injection e with e1 _
      subst e1
      cases v <;> rfl

end L2

namespace L2
open PySem PySem.Spec PyProof.Rows

inductive V where
  | non | bl (b : Bool) | int (i : Int) | str (x : Str) | byt (b : Array UInt8) | flt (b : UInt64) | ref (a : Addr) | ty (n : String)
  deriving DecidableEq

def RelV : V → Value → Prop
  | .non, u => u = Value.none
  | .bl b, u => u = Value.bool b
  | .int i, u => ∃ t, u = Value.int i t
  | .str x, u => ∃ t, u = Value.str x t
  | .byt b, u => ∃ t, u = Value.bytes b t
  | .flt b, u => ∃ t, u = Value.float b t
  | .ref a, u => u = Value.ref a
  | .ty n, u => u = Value.type n

abbrev Vals : List V → List Value → Prop := Paired RelV
theorem Vals.length {xs : List V} {us : List Value} (r : Vals xs us) : xs.length = us.length := Paired.length r
theorem Vals.get : ∀ {xs : List V} {us : List Value} {i : Nat} {x : V}, Vals xs us → xs[i]? = some x → ∃ u, us[i]? = some u ∧ RelV x u
  | _, _, _, _, .nil, e => by simp at e
  | _, _, 0, _, .cons r _, e => by simp at e; subst e; exact ⟨_, rfl, r⟩
  | _, _, i + 1, x, .cons _ t, e => by
    obtain ⟨u, h1, h2⟩ := Vals.get (i := i) (x := x) t (by simpa using e)
    exact ⟨u, by simpa using h1, h2⟩
theorem Vals.append : ∀ {xs ys : List V} {us ws : List Value}, Vals xs us → Vals ys ws → Vals (xs ++ ys) (us ++ ws)
  | _, _, _, _, .nil, s => s
  | _, _, _, _, .cons r t, s => .cons r (Vals.append t s)
def RelO : Option V → Option Value → Prop
  | some v, some u => RelV v u
  | none, none => True
  | _, _ => False
def KV {κ : Type} : List (κ × V) → List (κ × Value) → Prop := Paired fun (p : κ × V) (q : κ × Value) => p.1 = q.1 ∧ RelV p.2 q.2

def kV : Key → V
  | .inl i => .int i
  | .inr x => .str x

inductive HO where
  /-- a list -/
  | lst (xs : List V)
  /-- a tuple (never changes) -/
  | tup (xs : List V)
  /-- a dict whose keys are ints and texts; one whose keys are tuples of ints and texts (the empty one is both) -/
  | dK (kvs : List (Key × V)) | dT (kvs : List (List Key × V))
  /-- a set of ints: its members, its size -/
  | set (S : Int → Bool) (n : Nat)
  /-- an instance of the class at C, its dict at dx, its attributes -/
  | ins (C dx : Addr) (fs : List (Str × V))
  /-- the dict of the instance at x -/
  | own (x : Addr)
  /-- the dict of an exception -/
  | xd (fs : List (Str × V))
  /-- a bound method, f of x -/
  | met (f x : Addr)
  /-- a range object lo, lo + 1, .. below hi -/
  | rng (lo hi : Int)
  /-- a thing that is known to the object (the script; a dict while a loop walks it): read, never written while it is so -/
  | frz (o : Obj) (u : HO)
  /-- a code object's table -/
  | tbl (ps : Array Value)
  /-- any other thing, by what is true of its one object (a def of one's own: SetO a S n := HO.ext fun h => ..) -/
  | ext (φ : Heap → Prop)

abbrev Hp := Addr → Option HO
def upd (H : Hp) (a : Addr) (o : HO) : Hp := fun b => if b = a then some o else H b
theorem upd_same {H : Hp} {a : Addr} {o : HO} : upd H a o a = some o := by unfold upd; rw [if_pos rfl]
theorem upd_ne {H : Hp} {a b : Addr} {o : HO} (h : b ≠ a) : upd H a o b = H b := by unfold upd; rw [if_neg h]
theorem upd_upd {H : Hp} {a : Addr} {o u : HO} : upd (upd H a o) a u = upd H a u := by
  funext b; unfold upd; split <;> rfl
theorem ne_of {H : Hp} {a b : Addr} {o u : HO} (h : H a = some o) (h' : H b = some u) (d : o ≠ u) : a ≠ b := by
  intro e; subst e; rw [h] at h'; exact d (Option.some.inj h')
theorem ne_of_none {H : Hp} {a b : Addr} {o : HO} (h : H a = some o) (h' : H b = none) : a ≠ b := by
  intro e; subst e; rw [h] at h'; cases h'

section
variable (P : Program) (w : World)
def ObjOk (H : Hp) (h : Heap) (a : Addr) : HO → Prop
  | .lst xs => xs.length ≤ sizeLine ∧ ∃ (its : List Value) (n : Nat), Vals xs its ∧ h.get? a = some { cls := .type "list", data := .seq its.toArray n }
  | .tup xs => xs.length ≤ sizeLine ∧ ∃ its : List Value, Vals xs its ∧ IsTup h a its.toArray
  | .dK kvs => kvs.length ≤ sizeLine ∧ (a == sysModules) = false ∧ ∃ vs, KV kvs vs ∧ h.DictOf (mixKind P w) a vs
  | .dT kvs => kvs.length ≤ sizeLine ∧ (a == sysModules) = false ∧ ∃ xs : List (List Key × Addr × Value),
      Paired (fun (p : List Key × V) (q : List Key × Addr × Value) => p.1 = q.1 ∧ H q.2.1 = some (.tup (p.1.map kV)) ∧ RelV p.2 q.2.2) kvs xs ∧
      ∃ o es ep, h.get? a = some o ∧ o.ExactDict ∧ o.data = .dict es ep ∧ es.toList = xs.map (entryOfKey (tupleKind (mixKind P w))) ∧ (xs.map (·.1)).Nodup
  | .set S n => h.SetOf (intKind P w) a S n
  | .ins C dx fs => H dx = some (.own a) ∧ fs.length ≤ 1000 ∧ dx ≠ a ∧ h.get? a = some (PySem.W.instObj C dx) ∧
      ∃ mA, h.Ns1 dx mA ∧ (∀ f, RelO (fs.lookup f) (mA f)) ∧ PySem.Within mA (fs.map (·.1))
  | .own _ => ∃ o, h.get? a = some o
  | .xd fs => ∃ mA, h.Ns1 a mA ∧ ∀ f, RelO (fs.lookup f) (mA f)
  | .rng lo hi => ∃ t u v, h.get? a = some { cls := .type "range", data := .fields #[.int lo t, .int hi u, .int 1 v] }
  | .frz o u => h.get? a = some o ∧ ObjOk H h a u
  | .tbl ps => h.get? a = some { cls := .none, data := .fields ps }
  | .met f x => h.get? a = some (PySem.W.methodObj (.ref f) (.ref x))
  | .ext φ => φ h ∧ (∃ o, h.get? a = some o) ∧ ∀ h1 h2 : Heap, φ h1 → (∀ o, h1.get? a = some o → h2.get? a = some o) → φ h2
def HOk (H : Hp) (h : Heap) : Prop := ∀ a o, H a = some o → ObjOk P w H h a o
end

section
variable {P : Program} {w : World} {H H' : Hp} {h h' : Heap} {a : Addr} {o : HO}
theorem ObjOk.lt (x : ObjOk P w H h a o) : a < h.objs.size := by
  cases o with
  | lst xs => obtain ⟨_, _, _, _, e⟩ := x; exact Heap.lt_size e
  | tup xs => obtain ⟨_, _, _, p⟩ := x; exact p.lt
  | dK kvs => obtain ⟨_, _, _, _, o, _, _, e, _⟩ := x; exact Heap.lt_size e
  | dT kvs => obtain ⟨_, _, _, _, o, _, _, e, _⟩ := x; exact Heap.lt_size e
  | set S n => obtain ⟨o, _, _, _, e, _⟩ := x; exact Heap.lt_size e
  | ins C dx fs => obtain ⟨_, _, _, e, _⟩ := x; exact Heap.lt_size e
  | own y => obtain ⟨_, e⟩ := x; exact Heap.lt_size e
  | xd fs => obtain ⟨_, ⟨_, _, _, e, _⟩, _⟩ := x; exact Heap.lt_size e
  | rng lo hi => obtain ⟨_, _, _, e⟩ := x; exact Heap.lt_size e
  | frz ob u => obtain ⟨e, _⟩ := x; exact Heap.lt_size e
  | tbl ps => exact Heap.lt_size (show h.get? a = some _ from x)
  | met f y => exact Heap.lt_size (show h.get? a = some _ from x)
  | ext φ => obtain ⟨_, ⟨_, e⟩, _⟩ := x; exact Heap.lt_size e
theorem Paired.mapP {α β : Type} {F G : α → β → Prop} : ∀ {l₁ : List α} {l₂ : List β}, Paired F l₁ l₂ → (∀ a b, F a b → G a b) → Paired G l₁ l₂
  | _, _, .nil, _ => .nil
  | _, _, .cons r t, f => .cons (f _ _ r) (Paired.mapP t f)
theorem ObjOk.stay (x : ObjOk P w H h a o) (k : ∀ b u, (b = a ∨ H b = some (.own a)) → h.get? b = some u → h'.get? b = some u)
    (ho : ∀ b, H b = some (.own a) → H' b = some (.own a)) (ht : ∀ b xs, H b = some (.tup xs) → H' b = some (.tup xs)) : ObjOk P w H' h' a o := by
  induction o with
  | lst xs => obtain ⟨z, its, n, r, e⟩ := x; exact ⟨z, its, n, r, k _ _ (.inl rfl) e⟩
  | tup xs => obtain ⟨z, its, r, ob, e, c⟩ := x; exact ⟨z, its, r, ob, k _ _ (.inl rfl) e, c⟩
  | dK kvs => obtain ⟨z, y, vs, r, ob, es, ep, e, c⟩ := x; exact ⟨z, y, vs, r, ob, es, ep, k _ _ (.inl rfl) e, c⟩
  | dT kvs =>
    obtain ⟨z, y, xs, r, ob, es, ep, e, c⟩ := x
    exact ⟨z, y, xs, Paired.mapP r fun p q z => ⟨z.1, ht _ _ z.2.1, z.2.2⟩, ob, es, ep, k _ _ (.inl rfl) e, c⟩
  | set S n => obtain ⟨ob, es, ep, t, e, c⟩ := x; exact ⟨ob, es, ep, t, k _ _ (.inl rfl) e, c⟩
  | ins C dx fs =>
    obtain ⟨d, z, ne, e, mA, ⟨od, es, ep, e2, c⟩, r⟩ := x
    exact ⟨ho _ d, z, ne, k _ _ (.inl rfl) e, mA, ⟨od, es, ep, k _ _ (.inr d) e2, c⟩, r⟩
  | own y => obtain ⟨ob, e⟩ := x; exact ⟨ob, k _ _ (.inl rfl) e⟩
  | xd fs => obtain ⟨mA, ⟨od, es, ep, e, c⟩, r⟩ := x; exact ⟨mA, ⟨od, es, ep, k _ _ (.inl rfl) e, c⟩, r⟩
  | rng lo hi => obtain ⟨t, u, v, e⟩ := x; exact ⟨t, u, v, k _ _ (.inl rfl) e⟩
  | frz ob u ih => obtain ⟨e, q⟩ := x; exact ⟨k _ _ (.inl rfl) e, ih q⟩
  | tbl ps =>
    have e : h.get? a = some { cls := .none, data := .fields ps } := x
    show h'.get? a = some { cls := .none, data := .fields ps }
    exact k a _ (.inl rfl) e
  | met f y =>
    have e : h.get? a = some (PySem.W.methodObj (.ref f) (.ref y)) := x
    show h'.get? a = some (PySem.W.methodObj (.ref f) (.ref y))
    exact k a _ (.inl rfl) e
  | ext φ => obtain ⟨p, ⟨o, e⟩, st⟩ := x; exact ⟨st _ _ p fun o q => k _ _ (.inl rfl) q, ⟨o, k _ _ (.inl rfl) e⟩, st⟩
theorem HOk.lt (x : HOk P w H h) (e : H a = some o) : a < h.objs.size := (x a o e).lt
theorem HOk.fresh (x : HOk P w H h) (e : h.objs.size ≤ a) : H a = none := by
  cases q : H a with
  | none => rfl
  | some u => exact absurd (Nat.lt_of_lt_of_le (x.lt q) e) (Nat.lt_irrefl _)
theorem HOk.kept (x : HOk P w H h) (k : ∀ b u, h.get? b = some u → h'.get? b = some u) : HOk P w H h' := fun a o e =>
  (x a o e).stay (fun b u _ q => k b u q) (fun _ q => q) fun _ _ q => q
theorem HOk.laid (x : HOk P w H h) (k : ∀ b u, h.get? b = some u → h'.get? b = some u) (hp : h.objs.size ≤ a) (new : ObjOk P w (upd H a o) h' a o) : HOk P w (upd H a o) h' := fun b u e => by
  have hn := x.fresh hp
  by_cases hb : b = a
  · subst hb; rw [upd_same] at e; cases e; exact new
  · rw [upd_ne hb] at e
    exact (x b u e).stay (fun c v _ q => k c v q) (fun c q => by rw [upd_ne (ne_of_none q hn)]; exact q) fun c xs q => by rw [upd_ne (ne_of_none q hn)]; exact q
end

def Rd (H : Hp) (a : Addr) (u : HO) : Prop := H a = some u ∨ ∃ o, H a = some (.frz o u)
theorem Rd.ok {P : Program} {w : World} {H : Hp} {h : Heap} {a : Addr} {u : HO} (r : Rd H a u) (x : HOk P w H h) : ObjOk P w H h a u := by
  rcases r with r | ⟨o, r⟩
  · exact x a u r
  · obtain ⟨_, q⟩ := x a _ r
    exact q
def Mut : Option HO → Prop
  | some (.lst _) => True
  | some (.dK _) => True
  | some (.dT _) => True
  | some (.set _ _) => True
  | some (.ins _ _ _) => True
  | some (.ext _) => True
  | _ => False
section
variable {P : Program} {w : World} {H : Hp} {h h' : Heap} {x e : Addr} {o' : HO}
theorem HOk.write (ok : HOk P w H h) (mu : Mut (H x)) (he : e = x ∨ H e = some (.own x)) (k : ∀ b u, b ≠ e → h.get? b = some u → h'.get? b = some u) (heo : ∃ u, h'.get? e = some u)
    (new : ObjOk P w (upd H x o') h' x o') : HOk P w (upd H x o') h' := fun b u q => by
  have nown : ∀ c y, H c = some (.own y) → c ≠ x := fun c y r z => by subst z; rw [r] at mu; exact mu
  have ntup : ∀ c xs, H c = some (.tup xs) → c ≠ x := fun c xs r z => by subst z; rw [r] at mu; exact mu
  by_cases hb : b = x
  · subst hb; rw [upd_same] at q; cases q; exact new
  · rw [upd_ne hb] at q
    by_cases hbe : b = e
    · have q' : H b = some (.own x) := by
        rcases he with z | z
        · exact absurd (hbe.trans z) hb
        · rw [hbe]; exact z
      rw [q] at q'; cases q'
      obtain ⟨v, hv⟩ := heo
      exact ⟨v, by rw [hbe]; exact hv⟩
    · refine (ok b u q).stay (fun c v hc r => k c v ?_ r) (fun c r => by rw [upd_ne (nown c b r)]; exact r) fun c xs r => by rw [upd_ne (ntup c xs r)]; exact r
      rcases hc with rfl | hc
      · exact hbe
      · rintro rfl
        rcases he with z | z
        · exact nown c b hc z
        · rw [hc] at z; cases z; exact hb rfl
end

structure Un (fs ex : List Addr) (H H' : Hp) (h h' : Heap) : Prop where
  keep : ∀ b o, h.get? b = some o → H b = none → b ∉ fs → b ∉ ex → h'.get? b = some o
  slot : ∀ b o, h.get? b = some o → H b = none → b ∈ fs → b ∉ ex → ∃ sl, h'.get? b = some { o with slots := sl }
  free : ∀ b o, h.get? b = some o → H b = none → b ∉ ex → H' b = none
  there : ∀ b o, h.get? b = some o → b ∉ ex → ∃ o', h'.get? b = some o'
  tups : ∀ b xs, H b = some (.tup xs) → H' b = some (.tup xs)
  frzs : ∀ b o u, H b = some (.frz o u) → H' b = some (.frz o u)
  tbls : ∀ b ps, H b = some (.tbl ps) → ∃ more, H' b = some (.tbl (ps ++ more))
section
variable {fs fs' ex ex' : List Addr} {H H1 H2 : Hp} {h h1 h2 h' : Heap} {a x e : Addr} {o : HO}
theorem Un.any (u : Un fs ex H H1 h h1) {b : Addr} {ob : Obj} (q : h.get? b = some ob) (n : H b = none) (hx : b ∉ ex) : ∃ sl, h1.get? b = some { ob with slots := sl } := by
  by_cases hb : b ∈ fs
  · exact u.slot b ob q n hb hx
  · exact ⟨ob.slots, u.keep b ob q n hb hx⟩
theorem Un.kept (k : ∀ b u, h.get? b = some u → h'.get? b = some u) : Un fs ex H H h h' :=
  ⟨fun b ob q _ _ _ => k b ob q, fun b ob q _ _ _ => ⟨ob.slots, k b ob q⟩, fun _ _ _ n _ => n, fun b ob q _ => ⟨ob, k b ob q⟩, fun _ _ q => q, fun _ _ _ q => q, fun _ ps q => ⟨#[], by rw [q]; simp⟩⟩
theorem Un.refl : Un fs ex H H h h := Un.kept fun _ _ q => q
theorem Un.laid (k : ∀ b u, h.get? b = some u → h'.get? b = some u) (hp : h.objs.size ≤ a) (hn : H a = none) : Un fs ex H (upd H a o) h h' where
  keep := fun b u q _ _ _ => k b u q
  slot := fun b u q _ _ _ => ⟨u.slots, k b u q⟩
  free := fun b u q n _ => by rw [upd_ne (Nat.ne_of_lt (Nat.lt_of_lt_of_le (Heap.lt_size q) hp))]; exact n
  there := fun b u q _ => ⟨u, k b u q⟩
  tups := fun b xs q => by rw [upd_ne (ne_of_none q hn)]; exact q
  frzs := fun b u xs q => by rw [upd_ne (ne_of_none q hn)]; exact q
  tbls := fun b ps q => ⟨#[], by rw [upd_ne (ne_of_none q hn), q]; simp⟩
theorem Un.write (mu : Mut (H x)) (he : e = x ∨ H e = some (.own x)) (k : ∀ b u, b ≠ e → h.get? b = some u → h'.get? b = some u) (heo : ∃ u, h'.get? e = some u) : Un fs ex H (upd H x o) h h' := by
  have hx : ∀ b, H b = none → b ≠ x := fun b n z => by subst z; rw [n] at mu; exact mu
  have hb : ∀ b, H b = none → b ≠ e := fun b n z => by
    subst z
    rcases he with r | r
    · exact hx b n r
    · rw [n] at r; cases r
  have hm : ∀ b u, H b = some u → ¬ Mut (some u) → b ≠ x := fun b u q nm z => by subst z; rw [q] at mu; exact nm mu
  refine ⟨fun b u q n _ _ => k b u (hb b n) q, fun b u q n _ _ => ⟨u.slots, k b u (hb b n) q⟩, fun b u q n _ => by rw [upd_ne (hx b n)]; exact n, fun b u q _ => ?_,
    fun b xs q => by rw [upd_ne (hm b _ q fun z => z)]; exact q, fun b u xs q => by rw [upd_ne (hm b _ q fun z => z)]; exact q, fun b ps q => ⟨#[], by rw [upd_ne (hm b _ q fun z => z), q]; simp⟩⟩
  by_cases hbe : b = e
  · subst hbe; exact heo
  · exact ⟨u, k b u hbe q⟩
end

def trk (h : Heap) (H : Hp) : List Addr := (List.range h.objs.size).filter fun a => (H a).isSome
def hidT (h : Heap) (H : Hp) : Heap := PySem.W.hideAll h (trk h H)
theorem hidT_size (h : Heap) (H : Hp) : (hidT h H).objs.size = h.objs.size := PySem.W.hideAll_size _ _
theorem hidT_get {h : Heap} {H : Hp} {b : Addr} {o : Obj} (e : h.get? b = some o) (n : H b = none) : (hidT h H).get? b = some o :=
  PySem.W.hideAll_get _ e fun hm => by
    have q : (H b).isSome = true := (List.mem_filter.mp hm).2
    rw [n] at q; simp at q
theorem of_hidT {h : Heap} {H : Hp} {b : Addr} {o : Obj} (e : (hidT h H).get? b = some o) : h.get? b = some o ∧ H b = none := by
  have e' : h.get? b = some o := PySem.W.of_hideAll (trk h H) e
  refine ⟨e', ?_⟩
  cases q : H b with
  | none => rfl
  | some x =>
    have hm : b ∈ trk h H := List.mem_filter.mpr ⟨List.mem_range.mpr (Heap.lt_size e'), by simp [q]⟩
    have z : (hidT h H).get? b = none := PySem.W.hideAll_none (trk h H) hm
    rw [z] at e; cases e

def allNews (g h : Heap) (L : Addr) : List (Addr × Obj) := (List.range h.objs.size).filterMap fun a => if a = L ∨ (g.get? a).isSome = true then none else (h.get? a).map fun o => (a, o)
def rest (g h : Heap) (L d : Addr) : List (Addr × Obj) := (allNews g h L).filter fun p => decide (p.1 ≠ d)
end L2

namespace L2
open PySem PySem.Spec PyProof.Rows

structure Mod (K : PySem.W.Frag) (mg : Str → Option Value) (base : Heap) : Prop where
  kin : K.In base
  glob : base.Ns mainGlobals mg
  blt : ∃ mb, base.Ns builtinsNs mb ∧ ∀ x : Str, x ≠ "__name__" → mb x = bootBuiltins x
  nolimit : base.NoLimit

structure Cx where
  prog : Program
  w : World
  K : PySem.W.Frag
  mg : Str → Option Value
  base : Heap
  A : Around
  N : List Str
  s_0 : Shared
  H_0 : Hp
  env : Env
  outer : List Env
  stack : List Env
  ex : List Addr
  fn : Str → Bool
  calm : Bool
  pn : List (Addr × Obj)
  xe : Value → Shared → Prop
def frs (l : List Env) : List Addr := l.filterMap (·.frame)
abbrev Cx.fs (X : Cx) : List Addr := frs X.outer

def Vis (sc : Scope) (x : Str) : Prop := sc.names.lookup x = some .local ∨ sc.names.lookup x = some .cell ∨ sc.names.lookup x = some .free
def Loc (sc : Scope) (x : Str) : Prop := sc.names.lookup x = some .local ∨ sc.names.lookup x = some .cell
def Look (env : Env) (h : Heap) (m : Str → Option Value) (x : Str) (u : Value) : Prop :=
  (env.kindOf x = some .local ∧ m x = some u) ∨ ((env.kindOf x = some .cell ∨ env.kindOf x = some .free) ∧ ∃ c, env.cells.lookup x = some c ∧ h.IsCell c (some u))

structure Cx.Ok (X : Cx) : Prop where
  mod : Mod X.K X.mg X.base
  kind : X.env.scope.kind = .function
  glob : X.env.globals = mainGlobals
  blt : X.env.builtins = builtinsNs
  above : X.s_0.heap.objs.size ≤ X.env.locals
  inj : ∀ x y c, X.env.cells.lookup x = some c → X.env.cells.lookup y = some c → x = y
  has : ∀ x, (X.env.kindOf x = some .cell ∨ X.env.kindOf x = some .free) → ∃ c, X.env.cells.lookup x = some c
  cab : ∀ x c, X.fn x = true → X.env.cells.lookup x = some c → X.s_0.heap.objs.size ≤ c
  hd : X.calm = true → X.A.handled = none
  frames : X.A.frames = some X.stack
  stk : X.stack = X.outer ∨ (X.stack = X.env :: X.outer ∧ X.env.frame = some X.env.locals)
  exf : ∀ b ∈ X.ex, b ≠ X.env.locals ∧ ∀ x c, X.env.cells.lookup x = some c → c ≠ b
  bs : ∀ b o, X.base.get? b = some o → X.s_0.heap.get? b = some o ∧ X.H_0 b = none
  bsz : X.base.objs.size ≤ X.s_0.heap.objs.size
  noex : ∀ b o, X.base.get? b = some o → b ∉ X.ex
  exfs : ∀ b ∈ X.ex, b ∉ X.fs
  funs : X.s_0.heap.FunFrames X.base X.outer
  frf : ∀ b ∈ X.fs, X.H_0 b = none

structure Inv (X : Cx) (pins : List (Addr × Obj)) (σ : List (Option V)) (H : Hp) (s : Shared) : Prop where
  ok : X.Ok
  os : s.os = X.s_0.os
  bare : AllBare s.gens
  base : Un X.fs X.ex X.H_0 H X.s_0.heap s.heap
  loc : ∃ m, s.heap.Ns X.env.locals m ∧ ∀ (i : Nat) (x : Str) (v : V), X.N[i]? = some x → σ[i]? = some (some v) → Vis X.env.scope x → ∃ u, RelV v u ∧ Look X.env s.heap m x u
  cell : ∀ x c, X.env.cells.lookup x = some c → ∃ v, s.heap.IsCell c v
  free : H X.env.locals = none
  freeC : ∀ x c, X.env.cells.lookup x = some c → H c = none
  pin : ∀ p ∈ X.pn ++ pins, s.heap.get? p.1 = some p.2 ∧ H p.1 = none ∧ p.1 ≠ X.env.locals ∧ p.1 ∉ X.fs ∧ ∀ v, p.2.data ≠ .cell v
  hok : HOk X.prog X.w H s.heap
  len : σ.length = X.N.length

section
variable {X : Cx} {pins : List (Addr × Obj)} {σ : List (Option V)} {H H' : Hp} {s : Shared} {h' : Heap}

theorem Cx.Ok.nofr (ok : X.Ok) {b : Addr} {o : Obj} (e : X.base.get? b = some o) : b ∉ X.fs := fun hb => by
  have := (ok.funs.mem hb).1
  rw [e] at this; cases this
theorem Inv.bs (I : Inv X pins σ H s) : ∀ b o, X.base.get? b = some o → s.heap.get? b = some o ∧ H b = none := fun b o e =>
  ⟨I.base.keep b o (I.ok.bs b o e).1 (I.ok.bs b o e).2 (I.ok.nofr e) (I.ok.noex b o e), I.base.free b o (I.ok.bs b o e).1 (I.ok.bs b o e).2 (I.ok.noex b o e)⟩
theorem Inv.bk (I : Inv X pins σ H s) : ∀ b o, X.base.get? b = some o → s.heap.get? b = some o := fun b o e => (I.bs b o e).1
theorem Inv.mod (I : Inv X pins σ H s) : Mod X.K X.mg X.base := I.ok.mod
theorem Inv.kIn (I : Inv X pins σ H s) : X.K.In s.heap := I.ok.mod.kin.keeps I.bk
theorem Inv.fr (I : Inv X pins σ H s) : ∃ m, Fr X.base X.env.locals s.heap m :=
  let ⟨m, hn, _⟩ := I.loc
  ⟨m, hn, I.bk, Nat.le_trans I.ok.bsz I.ok.above⟩
theorem Inv.lt (I : Inv X pins σ H s) : X.env.locals < s.heap.objs.size := let ⟨_, hn, _⟩ := I.loc; hn.lt
theorem Inv.sz (I : Inv X pins σ H s) : X.s_0.heap.objs.size ≤ s.heap.objs.size := Nat.le_trans I.ok.above (Nat.le_of_lt I.lt)
theorem Inv.nofs (I : Inv X pins σ H s) {a : Addr} (h : s.heap.objs.size ≤ a) : a ∉ X.fs := fun hb => by
  obtain ⟨_, o, ho, _⟩ := I.ok.funs.mem hb
  exact absurd (Nat.lt_of_lt_of_le (Heap.lt_size ho) (Nat.le_trans I.sz h)) (Nat.lt_irrefl _)
theorem Inv.cne (I : Inv X pins σ H s) : ∀ x c, X.env.cells.lookup x = some c → c ≠ X.env.locals := fun x c e z => by
  obtain ⟨v, o, ho, hd⟩ := I.cell x c e
  obtain ⟨m, ⟨o', es, ep, ho', hd', _⟩, _⟩ := I.loc
  rw [z, ho'] at ho; cases ho; rw [hd'] at hd; cases hd
theorem Inv.funs (I : Inv X pins σ H s) : s.heap.FunFrames X.base X.outer := by
  have all : ∀ (l : List Env), (∀ b ∈ frs l, b ∈ X.fs) → X.s_0.heap.FunFrames X.base l → s.heap.FunFrames X.base l := by
    intro l
    induction l with
    | nil => intro _ _; trivial
    | cons env r ih =>
      intro hs hl
      obtain ⟨hk, ⟨L, o, hf, hn, ho, hd⟩, hr⟩ := hl
      have hL : L ∈ X.fs := hs L (by unfold frs; rw [List.filterMap_cons, hf]; exact List.mem_cons_self)
      obtain ⟨sl, e⟩ := I.base.slot L o ho (I.ok.frf L hL) hL fun z => I.ok.exfs L z hL
      exact ⟨hk, ⟨L, _, hf, hn, e, hd⟩, ih (fun b hb => hs b (by unfold frs; rw [List.filterMap_cons, hf]; exact List.mem_cons_of_mem _ hb)) hr⟩
  exact all X.outer (fun _ hb => hb) I.ok.funs

theorem Inv.stack (I : Inv X pins σ H s) : s.heap.FunFrames X.base X.stack := by
  rcases I.ok.stk with e | ⟨e, hf⟩
  · rw [e]; exact I.funs
  · rw [e]
    obtain ⟨m, hn, _⟩ := I.loc
    refine .cons (by rw [I.ok.kind]; decide) hf hn ?_ I.funs
    exact Heap.get?_none_of_le (Nat.le_trans I.ok.bsz I.ok.above)
theorem Inv.stkSub (I : Inv X pins σ H s) : ∀ b ∈ frs X.stack, b ∈ X.env.locals :: X.fs := fun b hb => by
  rcases I.ok.stk with e | ⟨e, hf⟩
  · rw [e] at hb; exact List.mem_cons_of_mem _ hb
  · rw [e] at hb
    unfold frs at hb
    rw [List.filterMap_cons, hf] at hb
    exact hb
theorem Inv.stkFree (I : Inv X pins σ H s) : ∀ b ∈ frs X.stack, H b = none := fun b hb => by
  rcases List.mem_cons.mp (I.stkSub b hb) with e | hb
  · rw [e]; exact I.free
  · obtain ⟨_, o, ho, _⟩ := I.ok.funs.mem hb
    exact I.base.free b o ho (I.ok.frf b hb) fun z => I.ok.exfs b z hb

theorem Inv.step {g' : Array GenState} {t' : Nat} {d' : Drawn} {ch : List Addr} (I : Inv X pins σ H s)
    (hch : ∀ b ∈ ch, (b ∈ X.ex ∨ X.s_0.heap.objs.size ≤ b) ∧ b ≠ X.env.locals ∧ (∀ x c, X.env.cells.lookup x = some c → c ≠ b) ∧ ∀ p ∈ X.pn ++ pins, p.1 ≠ b)
    (keep : ∀ b o, b ≠ X.env.locals → b ∉ X.fs → b ∉ ch → s.heap.get? b = some o → H b = none → h'.get? b = some o)
    (slot : ∀ b o, b ≠ X.env.locals → b ∈ X.fs → b ∉ ch → s.heap.get? b = some o → H b = none → ∃ sl, h'.get? b = some { o with slots := sl }) (free : ∀ b o, b ∉ ch → s.heap.get? b = some o → H b = none → H' b = none)
    (there : ∀ b o, b ∉ ch → s.heap.get? b = some o → ∃ o', h'.get? b = some o')
    (tups : ∀ b xs, H b = some (.tup xs) → H' b = some (.tup xs)) (frzs : ∀ b o u, H b = some (.frz o u) → H' b = some (.frz o u)) (tbls : ∀ b ps, H b = some (.tbl ps) → ∃ more, H' b = some (.tbl (ps ++ more)))
    (ns : ∀ m, s.heap.Ns X.env.locals m → h'.Ns X.env.locals m) (hok : HOk X.prog X.w H' h') (hg : AllBare g') :
    Inv X pins σ H' { s with heap := h', gens := g', drawn := d', toks := t' } := by
  have neL : ∀ b o, X.s_0.heap.get? b = some o → b ≠ X.env.locals := fun b o e => Nat.ne_of_lt (Nat.lt_of_lt_of_le (Heap.lt_size e) I.ok.above)
  have neC : ∀ b o, X.s_0.heap.get? b = some o → b ∉ X.ex → b ∉ ch := fun b o e hx hb => by
    rcases (hch b hb).1 with z | z
    · exact hx z
    · exact absurd (Nat.lt_of_lt_of_le (Heap.lt_size e) z) (Nat.lt_irrefl _)
  have cellK : ∀ x c, X.env.cells.lookup x = some c → ∀ v, s.heap.IsCell c v → h'.IsCell c v := fun x c e v ⟨o, ho, hd⟩ => by
    have nch : c ∉ ch := fun z => (hch c z).2.2.1 x c e rfl
    by_cases hc : c ∈ X.fs
    · obtain ⟨sl, q⟩ := slot c o (I.cne x c e) hc nch ho (I.freeC x c e)
      exact ⟨_, q, hd⟩
    · exact ⟨o, keep c o (I.cne x c e) hc nch ho (I.freeC x c e), hd⟩
  refine ⟨I.ok, I.os, hg, ⟨fun b o e n hb hx => ?_, fun b o e n hb hx => ?_, fun b o e n hx => ?_, fun b o e hx => ?_, fun b xs e => tups b xs (I.base.tups b xs e), fun b o xs e => frzs b o xs (I.base.frzs b o xs e), fun b ps e => ?_⟩, ?_, fun x c e => ?_, ?_, fun x c e => ?_, fun p hp => ?_, hok, I.len⟩
  · exact keep b o (neL b o e) hb (neC b o e hx) (I.base.keep b o e n hb hx) (I.base.free b o e n hx)
  · obtain ⟨sl, e1⟩ := I.base.slot b o e n hb hx
    obtain ⟨sl', e2⟩ := slot b _ (neL b o e) hb (neC b o e hx) e1 (I.base.free b o e n hx)
    exact ⟨sl', e2⟩
  · obtain ⟨o', e1⟩ := I.base.there b o e hx
    exact free b o' (neC b o e hx) e1 (I.base.free b o e n hx)
  · obtain ⟨o', e1⟩ := I.base.there b o e hx
    exact there b o' (neC b o e hx) e1
  · obtain ⟨m1, e1⟩ := I.base.tbls b ps e
    obtain ⟨m2, e2⟩ := tbls b _ e1
    exact ⟨m1 ++ m2, by rw [e2, Array.append_assoc]⟩
  · obtain ⟨m, hn, hl⟩ := I.loc
    refine ⟨m, ns m hn, fun i x v e1 e2 e3 => ?_⟩
    obtain ⟨u, r, l⟩ := hl i x v e1 e2 e3
    refine ⟨u, r, ?_⟩
    rcases l with l | ⟨k, c, e, z⟩
    · exact .inl l
    · exact .inr ⟨k, c, e, cellK x c e _ z⟩
  · obtain ⟨v, z⟩ := I.cell x c e
    exact ⟨v, cellK x c e v z⟩
  · obtain ⟨m, ⟨o, _, _, ho, _⟩, _⟩ := I.loc
    exact free _ o (fun z => (hch _ z).2.1 rfl) ho I.free
  · obtain ⟨v, o, ho, hd⟩ := I.cell x c e
    exact free c o (fun z => (hch c z).2.2.1 x c e rfl) ho (I.freeC x c e)
  · obtain ⟨e, n, ne, nf, d⟩ := I.pin p hp
    have nch : p.1 ∉ ch := fun z => (hch p.1 z).2.2.2 p hp rfl
    exact ⟨keep p.1 p.2 ne nf nch e n, free p.1 p.2 nch e n, ne, nf, d⟩
theorem Inv.un {t' : Nat} (I : Inv X pins σ H s) (u : Un X.fs [] H H' s.heap h') (hok : HOk X.prog X.w H' h') : Inv X pins σ H' { s with heap := h', toks := t' } := by
  obtain ⟨m, ⟨o, es, ep, ho, r⟩, _⟩ := id I.loc
  obtain ⟨sl, hL⟩ := u.any ho I.free (by simp)
  exact I.step (g' := s.gens) (d' := s.drawn) (ch := []) (fun _ z => nomatch z) (fun b o _ hb _ e n => u.keep b o e n hb (by simp)) (fun b o _ hb _ e n => u.slot b o e n hb (by simp)) (fun b o _ e n => u.free b o e n (by simp)) (fun b o _ e => u.there b o e (by simp)) u.tups u.frzs u.tbls (fun m' hm => by
    obtain ⟨o', es', ep', ho', r'⟩ := hm
    rw [ho] at ho'; cases ho'
    exact ⟨_, es', ep', hL, r'⟩) hok I.bare
theorem Inv.call {g' : Array GenState} {t' : Nat} {d' : Drawn} {ch : List Addr} (I : Inv X pins σ H s) (u : Un (frs X.stack) ch H H' s.heap h') (hok : HOk X.prog X.w H' h') (hg : AllBare g')
    (hch : ∀ b ∈ ch, (b ∈ X.ex ∨ X.s_0.heap.objs.size ≤ b) ∧ b ≠ X.env.locals ∧ (∀ x c, X.env.cells.lookup x = some c → c ≠ b) ∧ ∀ p ∈ X.pn ++ pins, p.1 ≠ b) :
    Inv X pins σ H' { s with heap := h', gens := g', drawn := d', toks := t' } := by
  obtain ⟨m, ⟨o, es, ep, ho, r⟩, _⟩ := id I.loc
  obtain ⟨sl, hL⟩ := u.any ho I.free fun z => (hch _ z).2.1 rfl
  exact I.step (ch := ch) hch (fun b o hL hb hc e n => u.keep b o e n (fun z => (List.mem_cons.mp (I.stkSub b z)).elim hL hb) hc) (fun b o _ _ hc e n => u.any e n hc) (fun b o hc e n => u.free b o e n hc) (fun b o hc e => u.there b o e hc) u.tups u.frzs u.tbls (fun m' hm => by
    obtain ⟨o', es', ep', ho', r'⟩ := hm
    rw [ho] at ho'; cases ho'
    exact ⟨_, es', ep', hL, r'⟩) hok hg
theorem Inv.turned {t' : Nat} {it : Addr} (I : Inv X pins σ H s) (k : ∀ b o, b ≠ it → s.heap.get? b = some o → h'.get? b = some o) (hn : H it = none) (hL : it ≠ X.env.locals)
    (h1 : it ∈ X.ex ∨ X.s_0.heap.objs.size ≤ it) (h2 : ∀ x c, X.env.cells.lookup x = some c → c ≠ it) (h3 : ∀ p ∈ X.pn ++ pins, p.1 ≠ it) : Inv X pins σ H { s with heap := h', toks := t' } := by
  have nit : ∀ b u, H b = some u → b ≠ it := fun b u e z => by rw [z, hn] at e; cases e
  refine I.step (g' := s.gens) (d' := s.drawn) (ch := [it]) (fun b hb => ?_) (fun b o _ _ hc e _ => k b o (fun z => hc (by simp [z])) e) (fun b o _ _ hc e _ => ⟨o.slots, k b o (fun z => hc (by simp [z])) e⟩) (fun _ _ _ _ n => n)
    (fun b o hc e => ⟨o, k b o (fun z => hc (by simp [z])) e⟩) (fun _ _ e => e) (fun _ _ _ e => e) (fun b ps e => ⟨#[], by rw [e]; simp⟩) (fun m hm => ?_) (fun b u e => ?_) I.bare
  · have e : b = it := by simpa using hb
    subst e
    exact ⟨h1, hL, h2, h3⟩
  · obtain ⟨o, es, ep, ho, r⟩ := hm
    exact ⟨o, es, ep, k _ o (Ne.symm hL) ho, r⟩
  · refine (I.hok b u e).stay (fun c v hc q => k c v ?_ q) (fun _ q => q) fun _ _ q => q
    rcases hc with z | z
    · rw [z]; exact nit b u e
    · exact nit c _ z
theorem Inv.tok (I : Inv X pins σ H s) (t : Nat) : Inv X pins σ H { s with toks := t } := I.un (h' := s.heap) (t' := t) Un.refl I.hok
theorem Inv.kept {t' : Nat} (I : Inv X pins σ H s) (k : ∀ b u, s.heap.get? b = some u → h'.get? b = some u) : Inv X pins σ H { s with heap := h', toks := t' } := I.un (Un.kept k) (I.hok.kept k)
theorem Inv.laid {a : Addr} {o : HO} {t' : Nat} (I : Inv X pins σ H s) (k : ∀ b u, s.heap.get? b = some u → h'.get? b = some u) (hp : s.heap.objs.size ≤ a) (new : ObjOk X.prog X.w (upd H a o) h' a o) :
    Inv X pins σ (upd H a o) { s with heap := h', toks := t' } := I.un (Un.laid k hp (I.hok.fresh hp)) (I.hok.laid k hp new)
theorem Inv.write {x e : Addr} {o : HO} {t' : Nat} (I : Inv X pins σ H s) (mu : Mut (H x)) (he : e = x ∨ H e = some (.own x)) (k : ∀ b u, b ≠ e → s.heap.get? b = some u → h'.get? b = some u) (heo : ∃ u, h'.get? e = some u)
    (new : ObjOk X.prog X.w (upd H x o) h' x o) : Inv X pins σ (upd H x o) { s with heap := h', toks := t' } := I.un (Un.write mu he k heo) (I.hok.write mu he k heo new)
theorem Inv.weak {σ' : List (Option V)} (I : Inv X pins σ H s) (hl : σ'.length = σ.length) (w : ∀ (i : Nat) v, σ'[i]? = some (some v) → σ[i]? = some (some v)) : Inv X pins σ' H s :=
  ⟨I.ok, I.os, I.bare, I.base, let ⟨m, hn, hl'⟩ := I.loc; ⟨m, hn, fun i x v e1 e2 e3 => hl' i x v e1 (w i v e2) e3⟩, I.cell, I.free, I.freeC, I.pin, I.hok, hl.trans I.len⟩
theorem Inv.pins_of {pins' : List (Addr × Obj)} (I : Inv X pins σ H s) (h : ∀ p ∈ pins', s.heap.get? p.1 = some p.2 ∧ H p.1 = none ∧ p.1 ≠ X.env.locals ∧ p.1 ∉ X.fs ∧ ∀ v, p.2.data ≠ .cell v) : Inv X pins' σ H s :=
  ⟨I.ok, I.os, I.bare, I.base, I.loc, I.cell, I.free, I.freeC, fun p hp => (List.mem_append.mp hp).elim (fun z => I.pin p (List.mem_append_left _ z)) (h p), I.hok, I.len⟩

theorem nodup_ix {N : List Str} (hN : N.Nodup) {i j : Nat} {x : Str} (a : N[i]? = some x) (b : N[j]? = some x) : i = j := by
  obtain ⟨h1, e1⟩ := List.getElem?_eq_some_iff.mp a
  obtain ⟨h2, e2⟩ := List.getElem?_eq_some_iff.mp b
  exact (List.getElem_inj hN).mp (e1.trans e2.symm)

theorem store_ok2 {M : Model} {A : Around} {E : Value → Shared → Prop} {i : Nat} {x : Str} {v : V} {u : Value} {Q : Unit → Shared → Prop} (I : Inv X pins σ H s) (hN : X.N.Nodup) (hi : X.N[i]? = some x) (hx : Loc X.env.scope x) (r : RelV v u)
    (h : ∀ s', Inv X pins (σ.set i (some v)) H s' → (∃ a, Heap.SameBut a s.heap s'.heap ∧ (a = X.env.locals ∨ X.env.cells.lookup x = some a)) → Q () s') (hf : X.fn x = true ∨ X.env.scope.names.lookup x = some .local := by first | exact .inl rfl | exact .inr rfl | assumption) : wpAny M A (storeName X.env x u) Q E s := by
  obtain ⟨m, hn, hl⟩ := id I.loc
  have hcls : (X.env.scope.kind == .class || (X.env.scope.kind == .module && X.env.locals != X.env.globals)) = false := by rw [I.ok.kind]; rfl
  have hiσ : i < σ.length := by rw [I.len]; exact (List.getElem?_eq_some_iff.mp hi).1
  have cne := I.cne
  have tracked : ∀ {a : Addr} {h' : Heap}, (∃ o, s.heap.get? a = some o ∧ H a = none) → Heap.SameBut a s.heap h' → HOk X.prog X.w H h' := fun {a h'} ha hs b ob e => by
    obtain ⟨_, _, hfree⟩ := ha
    refine (I.hok b ob e).stay (fun c w' hc q => (hs.2 c ?_).trans q) (fun _ q => q) fun _ _ q => q
    rintro rfl
    rcases hc with rfl | hc
    · rw [hfree] at e; cases e
    · rw [hfree] at hc; cases hc
  rcases hx with hk | hk
  · refine wpAny_storeName_local hk hn (fun h' hn' hs => ?_) hcls
    obtain ⟨oL, _, _, hoL, _⟩ := id hn
    refine h _ ⟨I.ok, I.os, I.bare, ⟨fun b o e n hb hx => ?_, fun b o e n hb hx => ?_, I.base.free, fun b o e hx => ?_, I.base.tups, I.base.frzs, I.base.tbls⟩, ⟨_, hn', fun j y v' e1 e2 e3 => ?_⟩, fun y c e => ?_, I.free, I.freeC, fun p hp => ?_, tracked ⟨oL, hoL, I.free⟩ hs, by simpa using I.len⟩ ⟨_, hs, .inl rfl⟩
    · exact (hs.2 b (Nat.ne_of_lt (Nat.lt_of_lt_of_le (Heap.lt_size e) I.ok.above))).trans (I.base.keep b o e n hb hx)
    · obtain ⟨sl, e1⟩ := I.base.slot b o e n hb hx
      exact ⟨sl, (hs.2 b (Nat.ne_of_lt (Nat.lt_of_lt_of_le (Heap.lt_size e) I.ok.above))).trans e1⟩
    · obtain ⟨o', e1⟩ := I.base.there b o e hx
      exact ⟨o', (hs.2 b (Nat.ne_of_lt (Nat.lt_of_lt_of_le (Heap.lt_size e) I.ok.above))).trans e1⟩
    · by_cases hj : j = i
      · subst hj
        rw [hi] at e1; cases e1
        rw [List.getElem?_set_self hiσ] at e2
        cases e2
        exact ⟨u, r, .inl ⟨hk, by simp⟩⟩
      · rw [List.getElem?_set_ne (Ne.symm hj)] at e2
        obtain ⟨u', r', q⟩ := hl j y v' e1 e2 e3
        refine ⟨u', r', ?_⟩
        rcases q with ⟨k, e⟩ | ⟨k, c, e, z⟩
        · refine .inl ⟨k, ?_⟩
          have : y ≠ x := fun e => hj (nodup_ix hN e1 (e ▸ hi))
          simp [this, e]
        · exact .inr ⟨k, c, e, z.sameBut hs (cne y c e)⟩
    · obtain ⟨w', z⟩ := I.cell y c e
      exact ⟨w', z.sameBut hs (cne y c e)⟩
    · obtain ⟨e, n, ne, nf, d⟩ := I.pin p hp
      exact ⟨(hs.2 p.1 ne).trans e, n, ne, nf, d⟩
  · have hfn : X.fn x = true := by
      rcases hf with z | z
      · exact z
      · rw [z] at hk; cases hk
    obtain ⟨c, hc⟩ := I.ok.has x (.inl hk)
    obtain ⟨w', z⟩ := I.cell x c hc
    refine wpAny_storeName_cell I.ok.kind hk hc z (fun h' hc' hs => ?_)
    obtain ⟨oc, hoc, hocd⟩ := id z
    refine h { s with heap := h' } ⟨I.ok, I.os, I.bare, ⟨fun b o e n hb hx => ?_, fun b o e n hb hx => ?_, I.base.free, fun b o e hx => ?_, I.base.tups, I.base.frzs, I.base.tbls⟩, ⟨m, hn.sameBut hs (Ne.symm (cne x c hc)), fun j y v' e1 e2 e3 => ?_⟩, fun y c' e => ?_, I.free, I.freeC, fun p hp => ?_, tracked ⟨oc, hoc, I.freeC x c hc⟩ hs, by simpa using I.len⟩ ⟨c, hs, .inr hc⟩
    · exact (hs.2 b (Nat.ne_of_lt (Nat.lt_of_lt_of_le (Heap.lt_size e) (I.ok.cab x c hfn hc)))).trans (I.base.keep b o e n hb hx)
    · obtain ⟨sl, e1⟩ := I.base.slot b o e n hb hx
      exact ⟨sl, (hs.2 b (Nat.ne_of_lt (Nat.lt_of_lt_of_le (Heap.lt_size e) (I.ok.cab x c hfn hc)))).trans e1⟩
    · obtain ⟨o', e1⟩ := I.base.there b o e hx
      exact ⟨o', (hs.2 b (Nat.ne_of_lt (Nat.lt_of_lt_of_le (Heap.lt_size e) (I.ok.cab x c hfn hc)))).trans e1⟩
    · by_cases hj : j = i
      · subst hj
        rw [hi] at e1; cases e1
        rw [List.getElem?_set_self hiσ] at e2
        cases e2
        exact ⟨u, r, .inr ⟨.inl hk, c, hc, hc'⟩⟩
      · rw [List.getElem?_set_ne (Ne.symm hj)] at e2
        obtain ⟨u', r', q⟩ := hl j y v' e1 e2 e3
        refine ⟨u', r', ?_⟩
        rcases q with q | ⟨k, c', e, z'⟩
        · exact .inl q
        · refine .inr ⟨k, c', e, z'.sameBut hs ?_⟩
          rintro rfl
          exact hj (nodup_ix hN e1 (I.ok.inj _ _ _ e hc ▸ hi))
    · by_cases hcc : c' = c
      · subst hcc; exact ⟨_, hc'⟩
      · obtain ⟨w2, z2⟩ := I.cell y c' e
        exact ⟨w2, z2.sameBut hs hcc⟩
    · obtain ⟨e, n, ne, nf, d⟩ := I.pin p hp
      refine ⟨(hs.2 p.1 ?_).trans e, n, ne, nf, d⟩
      intro q
      rw [q, hoc] at e
      have q' : oc = p.2 := Option.some.inj e
      exact d w' (by rw [← q']; exact hocd)
theorem store_ok {M : Model} {A : Around} {E : Value → Shared → Prop} {i : Nat} {x : Str} {v : V} {u : Value} {Q : Unit → Shared → Prop} (I : Inv X pins σ H s) (hN : X.N.Nodup) (hi : X.N[i]? = some x) (hx : Loc X.env.scope x) (r : RelV v u)
    (h : ∀ s', Inv X pins (σ.set i (some v)) H s' → Q () s') (hf : X.fn x = true ∨ X.env.scope.names.lookup x = some .local := by first | exact .inl rfl | exact .inr rfl | assumption) : wpAny M A (storeName X.env x u) Q E s :=
  store_ok2 I hN hi hx r (fun s' I' _ => h s' I') hf
theorem Inv.call' {s' : Shared} {ch : List Addr} (I : Inv X pins σ H s) (ho : s'.os = s.os) (u : Un (frs X.stack) ch H H' s.heap s'.heap) (hok : HOk X.prog X.w H' s'.heap) (hg : AllBare s'.gens)
    (hch : ∀ b ∈ ch, (b ∈ X.ex ∨ X.s_0.heap.objs.size ≤ b) ∧ b ≠ X.env.locals ∧ (∀ x c, X.env.cells.lookup x = some c → c ≠ b) ∧ ∀ p ∈ X.pn ++ pins, p.1 ≠ b) : Inv X pins σ H' s' := by
  obtain ⟨h', g', d', t', o'⟩ := s'
  have e : o' = s.os := ho
  subst e
  exact I.call (g' := g') (t' := t') (d' := d') u hok hg hch
end

abbrev XK := Value → Option Addr → Hp → Prop
abbrev St := List (Option V)
abbrev VK := V → Hp → Prop
abbrev TE := St → Hp → VK → Prop
abbrev TT := St → Hp → (Bool → Hp → Prop) → Prop
abbrev TA := St → Hp → (List V → Hp → Prop) → Prop
structure Ends where
  nx : St → Hp → Prop
  rt : VK
  bk : St → Hp → Prop := fun _ _ => False
  ct : St → Hp → Prop := fun _ _ => False
abbrev TS := Ends → St → Hp → Prop

def EP (X : Cx) (pins : List (Addr × Obj)) (σ : St) (Q : VK) (u : Value) (s' : Shared) : Prop := ∃ v H', Inv X pins σ H' s' ∧ RelV v u ∧ Q v H'
def TP (X : Cx) (pins : List (Addr × Obj)) (σ : St) (Q : Bool → Hp → Prop) (b : Bool) (s' : Shared) : Prop := ∃ H', Inv X pins σ H' s' ∧ Q b H'
def AP (X : Cx) (pins : List (Addr × Obj)) (σ : St) (Q : List V → Hp → Prop) (us : List Value) (s' : Shared) : Prop := ∃ vs H', Inv X pins σ H' s' ∧ Vals vs us ∧ Q vs H'
def SP (X : Cx) (pins : List (Addr × Obj)) (D : Ends) (f : Flow) (s' : Shared) : Prop :=
  match f with
  | .next => ∃ σ' H', Inv X pins σ' H' s' ∧ D.nx σ' H'
  | .brk => ∃ σ' H', Inv X pins σ' H' s' ∧ D.bk σ' H'
  | .cont => ∃ σ' H', Inv X pins σ' H' s' ∧ D.ct σ' H'
  | .ret u => ∃ v σ' H', Inv X pins σ' H' s' ∧ RelV v u ∧ D.rt v H'

def PE (X : Cx) (e : Expr) (t : TE) : Prop :=
  ∀ (pins : List (Addr × Obj)) (s : Shared) (σ : St) (H : Hp) (Q : VK), Inv X pins σ H s → t σ H Q → wpAny (model X.prog X.w) X.A (eval e X.env) (EP X pins σ Q) X.xe s
def PT (X : Cx) (e : Expr) (t : TT) : Prop :=
  ∀ (pins : List (Addr × Obj)) (s : Shared) (σ : St) (H : Hp) (Q : Bool → Hp → Prop), Inv X pins σ H s → t σ H Q → wpAny (model X.prog X.w) X.A (isTrue e X.env (eval e X.env)) (TP X pins σ Q) X.xe s
def PW (X : Cx) (e : Expr) (t : TT) : Prop :=
  ∀ (whole : Sem Value) (pins : List (Addr × Obj)) (s : Shared) (σ : St) (H : Hp) (Q : Bool → Hp → Prop), Inv X pins σ H s → t σ H Q → wpAny (model X.prog X.w) X.A (isTrue e X.env whole) (TP X pins σ Q) X.xe s
theorem PW.pt {X : Cx} {e : Expr} {t : TT} (h : PW X e t) : PT X e t := h _
def PA (X : Cx) (es : List Expr) (t : TA) : Prop :=
  ∀ (pos : Pos) (pins : List (Addr × Obj)) (s : Shared) (σ : St) (H : Hp) (Q : List V → Hp → Prop), Inv X pins σ H s → t σ H Q → wpAny (model X.prog X.w) X.A (spliced (backTo pos (starEach es X.env))) (AP X pins σ Q) X.xe s
def PS (X : Cx) (st : Stmt) (t : TS) : Prop :=
  ∀ (pins : List (Addr × Obj)) (s : Shared) (σ : St) (H : Hp) (D : Ends), Inv X pins σ H s → t D σ H → wpAny (model X.prog X.w) X.A (exec st X.env) (SP X pins D) X.xe s
def PSs (X : Cx) (st : List Stmt) (t : TS) : Prop :=
  ∀ (pins : List (Addr × Obj)) (s : Shared) (σ : St) (H : Hp) (D : Ends), Inv X pins σ H s → t D σ H → wpAny (model X.prog X.w) X.A (execs st X.env) (SP X pins D) X.xe s
theorem thn {α : Type} {t : Sem α} {Q Q' : α → Shared → Prop} {M : Model} {A : Around} {E : Value → Shared → Prop} {s : Shared} (h : wpAny M A t Q E s) (hQ : ∀ a s, Q a s → Q' a s) : wpAny M A t Q' E s := wpAny_mono h hQ fun _ _ x => x
end L2

namespace L2
open PySem PySem.Spec PyProof.Rows
section
variable {X : Cx}

def tVar (i : Nat) : TE := fun σ H Q => ∃ v, σ[i]? = some (some v) ∧ Q v H
def tC (v : V) : TE := fun _ H Q => Q v H
theorem pe_var {i : Nat} {x : Str} {pos : Pos} (hN : X.N[i]? = some x) (hv : Vis X.env.scope x) (hd : (x == ("__debug__" : Str)) = false := by decide) (hcd : (x == ("__classdict__" : Str)) = false := by decide) : PE X (.Name x pos) (tVar i) := by
  intro pins s σ H Q I h
  obtain ⟨v, e, h⟩ := h
  obtain ⟨m, hn, hl⟩ := I.loc
  obtain ⟨u, r, l⟩ := hl i x v hN e hv
  have fin : EP X pins σ Q u s := ⟨v, H, I, r, h⟩
  rcases l with ⟨hk, hm⟩ | ⟨hk, c, hc, hcell⟩
  · exact wpAny_Name (wpAny_loadName_local I.ok.kind hk hn hm fin) hd
  · rcases hk with hk | hk
    · exact wpAny_Name (wpAny_loadName_cell I.ok.kind hk hc hcell fin) hd
    · exact wpAny_Name (wpAny_loadName_free I.ok.kind hk hc hcell fin hcd) hd
theorem pe_int {i j pos} : PE X (.Constant (.int i) j pos) (tC (.int i)) := fun _ _ _ H _ I h => wpAny_Constant_int ⟨.int i, H, I.tok _, ⟨_, rfl⟩, h⟩
theorem pe_non {j pos} : PE X (.Constant .none j pos) (tC .non) := fun _ _ _ H _ I h => Constant_none ⟨.non, H, I, rfl, h⟩
def Gl (X : Cx) (x : Str) : Prop := X.env.kindOf x = some .globalImplicit
theorem ld_glob {E : Value → Shared → Prop} {pins : List (Addr × Obj)} {s : Shared} {σ : St} {H : Hp} {x : Str} {u : Value} {pos : Pos} {Q : Value → Shared → Prop} (I : Inv X pins σ H s) (hg : Gl X x) (hm : X.mg x = some u) (h : Q u s)
    (hd : (x == ("__debug__" : Str)) = false := by decide) : wpAny (model X.prog X.w) X.A (eval (.Name x pos) X.env) Q E s :=
  Calls.Name_function_global I.ok.kind hg (Calls.loadGlobal_global (by rw [I.ok.glob]; exact I.mod.glob.keeps I.bk) hm h) hd
theorem ld_blt {E : Value → Shared → Prop} {pins : List (Addr × Obj)} {s : Shared} {σ : St} {H : Hp} {x : Str} {u : Value} {pos : Pos} {Q : Value → Shared → Prop} (I : Inv X pins σ H s) (hg : Gl X x) (hm : X.mg x = none) (hv : bootBuiltins x = some u) (h : Q u s)
    (hn : x ≠ "__name__" := by decide) (hd : (x == ("__debug__" : Str)) = false := by decide) : wpAny (model X.prog X.w) X.A (eval (.Name x pos) X.env) Q E s := by
  obtain ⟨mb, h1, h2⟩ := I.mod.blt
  exact Calls.Name_function_global I.ok.kind hg (Calls.loadGlobal_builtin (by rw [I.ok.glob]; exact I.mod.glob.keeps I.bk) hm (by rw [I.ok.blt]; exact h1.keeps I.bk) ((h2 x hn).trans hv) h) hd
theorem pe_glob {x : Str} {v : V} {u : Value} {pos : Pos} (hg : Gl X x) (hm : X.mg x = some u) (r : RelV v u) (hd : (x == ("__debug__" : Str)) = false := by decide) : PE X (.Name x pos) (tC v) :=
  fun _ _ _ H _ I h => ld_glob I hg hm ⟨v, H, I, r, h⟩ hd
variable {a b : Expr} {ta tb : TE} {pos : Pos}
def tB (t : TE) : TT := fun σ H Q => t σ H fun x H1 => ∃ c, x = .bl c ∧ Q c H1
theorem pt_val {e : Expr} {t : TE} (h : PE X e t) (he : ∀ whole, isTrue e X.env whole = (do let v ← whole; standAt e.pos; holding [v] (truthy v)) := by intro _; rfl) : PT X e (tB t) := by
  intro pins s σ H Q I hw
  refine isTrue_plain (thn (h pins s σ H _ I hw) fun v s1 ⟨x, H1, I1, r1, q1⟩ => ?_) (he _)
  obtain ⟨d, rfl, q⟩ := q1
  cases r1
  exact wpAny_truthy_bool ⟨H1, I1, q⟩

variable {tA tB' : TT} {rest : List Expr}
def tOr (t u : TT) : TT := fun σ H Q => t σ H fun c H1 => if c = true then Q true H1 else u σ H1 Q
theorem pw_or1 (ha : PT X a tA) : PW X (.BoolOp .Or [a] pos) tA := by
  intro wh pins s σ H Q I h
  refine isTrue_or (thn (ha pins s σ H Q I h) fun c s1 e => ?_)
  cases c with
  | false => exact isTrue_or_nil e
  | true => exact e
theorem pw_or (ha : PT X a tA) (hb : PW X (.BoolOp .Or (b :: rest) pos) tB') : PW X (.BoolOp .Or (a :: b :: rest) pos) (tOr tA tB') := by
  intro wh pins s σ H Q I h
  refine isTrue_or (thn (ha pins s σ H _ I h) fun c s1 ⟨H1, I1, q1⟩ => ?_)
  cases c with
  | true => exact ⟨H1, I1, q1⟩
  | false => exact hb wh pins s1 σ H1 Q I1 q1
def tAndV (ta tb : TE) : TE := fun σ H Q => ta σ H fun x H1 => ∃ c, x = .bl c ∧ if c = true then tb σ H1 Q else Q (.bl false) H1
def tNotV (ta : TE) : TE := fun σ H Q => ta σ H fun x H1 => ∃ c, x = .bl c ∧ Q (.bl (!c)) H1
theorem pe_one {op} {t : TE} (h : PE X a t) : PE X (.BoolOp op [a] pos) t := fun pins s σ H Q I hw => BoolOp_one (h pins s σ H Q I hw)
theorem pe_and (ha : PE X a ta) (hb : PE X (.BoolOp .And (b :: rest) pos) tb) : PE X (.BoolOp .And (a :: b :: rest) pos) (tAndV ta tb) := by
  intro pins s σ H Q I h
  refine BoolOp_and (thn (ha pins s σ H _ I h) fun v s1 ⟨x, H1, I1, r1, q1⟩ => ?_)
  obtain ⟨c, rfl, q1⟩ := q1
  cases r1
  refine wpAny_truthy_bool ?_
  cases c with
  | true => exact hb pins s1 σ H1 Q I1 q1
  | false => exact ⟨.bl false, H1, I1, rfl, q1⟩
theorem pe_not (ha : PE X a ta) : PE X (.UnaryOp .Not a pos) (tNotV ta) := by
  intro pins s σ H Q I h
  refine UnaryOp_ (thn (ha pins s σ H _ I h) fun v s1 ⟨x, H1, I1, r1, q1⟩ => ?_)
  obtain ⟨c, rfl, q1⟩ := q1
  cases r1
  exact not_of (wpAny_truthy_bool ⟨.bl (!c), H1, I1, rfl, q1⟩)
end
end L2

namespace L2
open PySem PySem.Spec PyProof.Rows

def SqL (K : PySem.W.Frag) (H : Hp) (a : Addr) (xs : List V) : Prop :=
  Rd H a (.lst xs) ∨
    ∃ (o : Obj) (its : Array Value) (n : Nat), K.lookup a = some o ∧ o.cls = .type "list" ∧ o.dict = none ∧ o.data = .seq its n ∧ its.size ≤ sizeLine ∧ Vals xs its.toList
def SqT (K : PySem.W.Frag) (H : Hp) (a : Addr) (xs : List V) : Prop :=
  Rd H a (.tup xs) ∨
    ∃ (o : Obj) (its : Array Value) (n : Nat), K.lookup a = some o ∧ o.cls = .type "tuple" ∧ o.data = .seq its n ∧ its.size ≤ sizeLine ∧ Vals xs its.toList
def absV : Value → Option V
  | .none => some .non
  | .bool b => some (.bl b)
  | .int i _ => some (.int i)
  | .str x _ => some (.str x)
  | .bytes b _ => some (.byt b)
  | .float b _ => some (.flt b)
  | .ref a => some (.ref a)
  | .type n => some (.ty n)
  | _ => none
theorem RelV.abs {x : V} {u : Value} (r : RelV x u) : absV u = some x := by
  cases x with
  | non => cases r; rfl
  | bl _ => cases r; rfl
  | int _ => obtain ⟨t, rfl⟩ := r; rfl
  | str _ => obtain ⟨t, rfl⟩ := r; rfl
  | byt _ => obtain ⟨t, rfl⟩ := r; rfl
  | flt _ => obtain ⟨t, rfl⟩ := r; rfl
  | ref _ => cases r; rfl
  | ty _ => cases r; rfl
theorem RelV.inj {x y : V} {u : Value} (r : RelV x u) (q : RelV y u) : x = y := Option.some.inj (r.abs.symm.trans q.abs)
theorem Vals.inj : ∀ {xs ys : List V} {us : List Value}, Vals xs us → Vals ys us → xs = ys
  | _, _, _, .nil, .nil => rfl
  | _, _, _, .cons r t, .cons r' t' => by rw [r.inj r', Vals.inj t t']
section
variable {X : Cx} {pins : List (Addr × Obj)} {σ : St} {H : Hp} {s : Shared} {a : Addr} {xs ys : List V}
theorem SqL.of {K : PySem.W.Frag} (h : H a = some (.lst xs)) : SqL K H a xs := .inl (.inl h)
theorem SqT.of {K : PySem.W.Frag} (h : H a = some (.tup xs)) : SqT K H a xs := .inl (.inl h)
theorem Inv.list (I : Inv X pins σ H s) (h : SqL X.K H a xs) : ∃ its : List Value, Vals xs its ∧ PlainL s.heap a its.toArray ∧ xs.length ≤ sizeLine := by
  rcases h with h | ⟨o, its, n, hk, hc, hd, hs, hz, r⟩
  · obtain ⟨z, its, n, r, e⟩ := h.ok I.hok
    exact ⟨its, r, ⟨_, n, e, rfl, rfl, rfl⟩, z⟩
  · refine ⟨its.toList, r, ⟨o, n, I.kIn a o hk, hc, hd, by simpa using hs⟩, ?_⟩
    have e := r.length
    simp only [Array.length_toList] at e
    omega
theorem Inv.tuple (I : Inv X pins σ H s) (h : SqT X.K H a xs) : ∃ its : List Value, Vals xs its ∧ IsTup s.heap a its.toArray ∧ xs.length ≤ sizeLine := by
  rcases h with h | ⟨o, its, n, hk, hc, hs, hz, r⟩
  · obtain ⟨z, its, r, p⟩ := h.ok I.hok
    exact ⟨its, r, p, z⟩
  · refine ⟨its.toList, r, ⟨o, I.kIn a o hk, hc, n, by simpa using hs⟩, ?_⟩
    have e := r.length
    simp only [Array.length_toList] at e
    omega
theorem Inv.list_inj (I : Inv X pins σ H s) (h : SqL X.K H a xs) (h' : SqL X.K H a ys) : xs = ys := by
  obtain ⟨its, r, ⟨o, n, e, _, _, d⟩, _⟩ := I.list h
  obtain ⟨its', r', ⟨o', n', e', _, _, d'⟩, _⟩ := I.list h'
  rw [e] at e'; cases e'
  rw [d] at d'
  injection d' with d1 _
  have : its = its' := by simpa using congrArg Array.toList d1
  subst this
  exact r.inj r'
theorem Inv.tuple_inj (I : Inv X pins σ H s) (h : SqT X.K H a xs) (h' : SqT X.K H a ys) : xs = ys := by
  obtain ⟨its, r, ⟨o, e, _, n, d⟩, _⟩ := I.tuple h
  obtain ⟨its', r', ⟨o', e', _, n', d'⟩, _⟩ := I.tuple h'
  rw [e] at e'; cases e'
  rw [d] at d'
  injection d' with d1 _
  have : its = its' := by simpa using congrArg Array.toList d1
  subst this
  exact r.inj r'
end

abbrev Cx.wish (X : Cx) (E : Value → Shared → Prop) : Cx := { X with xe := E }
section
variable {X : Cx} {pins : List (Addr × Obj)} {σ : St} {H : Hp} {s : Shared} {E : Value → Shared → Prop}
end

section
variable {X : Cx} {st : Stmt} {rest : List Stmt} {t u : TS} {e : Expr} {te : TE} {pos : Pos}
def tNext : TS := fun D σ H => D.nx σ H
def tSeq (t u : TS) : TS := fun D σ H => t { D with nx := u D } σ H
theorem pss_nil : PSs X [] tNext := fun _ _ σ H _ I h => wpAny_execs_nil ⟨σ, H, I, h⟩
theorem pss_cons (h1 : PS X st t) (h2 : PSs X rest u) : PSs X (st :: rest) (tSeq t u) := by
  intro pins s σ H D I h
  refine wpAny_execs_cons (thn (h1 pins s σ H { D with nx := u D } I h) fun f s1 q => ?_)
  cases f with
  | next =>
    obtain ⟨σ', H', I', q⟩ := q
    exact h2 pins s1 σ' H' D I' q
  | ret v => exact q
  | brk => exact q
  | cont => exact q
theorem pss_one (h1 : PS X st t) : PSs X [st] t := by
  intro pins s σ H D I h
  refine wpAny_execs_cons (thn (h1 pins s σ H D I h) fun f s1 q => ?_)
  cases f with
  | next => exact wpAny_execs_nil q
  | ret v => exact q
  | brk => exact q
  | cont => exact q
theorem Inv.quiet {pins : List (Addr × Obj)} {σ : St} {H : Hp} {s : Shared} (I : Inv X pins σ H s) : interactive X.env = false := by simp [interactive, I.ok.kind]
def tDrop (te : TE) : TS := fun D σ H => te σ H fun _ H1 => D.nx σ H1
theorem ps_expr (he : PE X e te) (hs : swapsWith e none pos.line X.env = pure false := by rfl) : PS X (.Expr e pos) (tDrop te) := by
  intro pins s σ H D I h
  exact wpAny_Expr_any (thn (he pins s σ H _ I h) fun v s1 ⟨x, H1, I1, r1, q1⟩ => ⟨σ, H1, I1, q1⟩) I.quiet hs
def tRet (te : TE) : TS := fun D σ H => te σ H D.rt
theorem ps_ret (he : PE X e te) : PS X (.Return (some e) pos) (tRet te) := by
  intro pins s σ H D I h
  exact wpAny_Return_some (thn (he pins s σ H _ I h) fun v s1 ⟨x, H1, I1, r1, q1⟩ => ⟨x, σ, H1, I1, r1, q1⟩)
def tIfS (c : TT) (t u : TS) : TS := fun D σ H => c σ H fun b H1 => if b = true then t D σ H1 else u D σ H1
theorem ps_if {c : Expr} {a b : List Stmt} {tc : TT} (hc : PT X c tc) (ha : PSs X a t) (hb : PSs X b u) : PS X (.If c a b pos) (tIfS tc t u) := by
  intro pins s σ H D I h
  refine wpAny_If (thn (hc pins s σ H _ I h) fun d s1 ⟨H1, I1, q1⟩ => ?_)
  cases d with
  | true => exact ha pins s1 σ H1 D I1 q1
  | false => exact hb pins s1 σ H1 D I1 q1
end

abbrev TG := V → St → Hp → (St → Hp → Prop) → Prop
abbrev TGs := List V → St → Hp → (St → Hp → Prop) → Prop
def PG (X : Cx) (target : Expr) (t : TG) : Prop :=
  ∀ (pins : List (Addr × Obj)) (s : Shared) (σ : St) (H : Hp) (v : V) (u : Value) (Q : St → Hp → Prop), Inv X pins σ H s → RelV v u → t v σ H Q →
    wpAny (model X.prog X.w) X.A (assign target X.env u) (fun _ s' => ∃ σ' H', Inv X pins σ' H' s' ∧ Q σ' H') X.xe s
def PGs (X : Cx) (ts : List Expr) (t : TGs) : Prop :=
  ∀ (pins : List (Addr × Obj)) (s : Shared) (σ : St) (H : Hp) (vs : List V) (us : List Value) (Q : St → Hp → Prop), Inv X pins σ H s → Vals vs us → t vs σ H Q →
    wpAny (model X.prog X.w) X.A (assignInOrder ((assignEach ts X.env).map (·.2)) us) (fun _ s' => ∃ σ' H', Inv X pins σ' H' s' ∧ Q σ' H') X.xe s
section
variable {X : Cx} {pos : Pos}
def gName (i : Nat) : TG := fun v σ H Q => Q (σ.set i (some v)) H
theorem pg_name {i : Nat} {x : Str} (hN : X.N.Nodup) (hi : X.N[i]? = some x) (hx : Loc X.env.scope x) (hf : X.fn x = true ∨ X.env.scope.names.lookup x = some .local := by first | exact .inl rfl | exact .inr rfl | assumption) : PG X (.Name x pos) (gName i) := by
  intro pins s σ H v u Q I r h
  exact wpAny_assign_Name (store_ok I hN hi hx r (fun s' I' => ⟨_, H, I', h⟩) hf)
def gNil : TGs := fun vs σ H Q => vs = [] ∧ Q σ H
def gCons (t : TG) (u : TGs) : TGs := fun vs σ H Q => ∃ v r, vs = v :: r ∧ t v σ H fun σ' H' => u r σ' H' Q
theorem pgs_nil : PGs X [] gNil := by
  intro pins s σ H vs us Q I r h
  obtain ⟨e, h⟩ := h
  subst e
  cases r
  exact assignInOrder_nil ⟨σ, H, I, h⟩
theorem pgs_cons {e : Expr} {es : List Expr} {t : TG} {u : TGs} (h1 : PG X e t) (h2 : PGs X es u)
    (hs : (assignEach (e :: es) X.env).map (·.2) = assign e X.env :: (assignEach es X.env).map (·.2) := by rfl) : PGs X (e :: es) (gCons t u) := by
  intro pins s σ H vs us Q I r h
  obtain ⟨v, vr, e1, h⟩ := h
  subst e1
  cases r with
  | cons r rr =>
    rw [hs]
    refine assignInOrder_cons (thn (h1 pins s σ H _ _ _ I r h) fun _ s1 ⟨σ1, H1, I1, q1⟩ => ?_)
    exact h2 pins s1 σ1 H1 _ _ Q I1 rr q1
def gTup (K : PySem.W.Frag) (n : Nat) (t : TGs) : TG := fun v σ H Q => ∃ a xs, v = .ref a ∧ SqT K H a xs ∧ xs.length = n ∧ t xs σ H Q
theorem pg_tup {es : List Expr} {k : Nat} {t : TGs} {n : Nat} (hc : X.calm = true) (h : PGs X es t)
    (hn : (assignEach es X.env).length = n := by rfl) (hst : (assignEach es X.env).findIdx? (·.1) = none := by rfl) : PG X (.Tuple es k pos) (gTup X.K n t) := by
  intro pins s σ H v u Q I r hw
  obtain ⟨a, xs, e1, hq, hl, hw⟩ := hw
  subst e1
  cases r
  obtain ⟨its, rv, ht, hz⟩ := I.tuple hq
  refine assign_Tuple_tuple (I.ok.hd hc) ht (by simp [hn, ← hl, rv.length]) hst fun h' hx => ?_
  have I1 : Inv X pins σ H { s with heap := h' } := I.kept (t' := s.toks) fun b o e => hx b o (Nat.ne_of_lt (Heap.lt_size e)) e
  exact h pins _ σ H xs _ Q I1 (by simpa using rv) hw
def tAsg (te : TE) (g : TG) : TS := fun D σ H => te σ H fun x H1 => g x σ H1 D.nx
theorem ps_set {i : Nat} {x : Str} {e : Expr} {te : TE} {pos' : Pos} (hN : X.N.Nodup) (hi : X.N[i]? = some x) (hx : Loc X.env.scope x) (he : PE X e te) (hs : swapsWith e (some (.Name x pos')) pos.line X.env = pure false := by rfl) (hf : X.fn x = true ∨ X.env.scope.names.lookup x = some .local := by first | exact .inl rfl | exact .inr rfl | assumption) :
    PS X (.Assign [.Name x pos'] e pos) (tAsg te (gName i)) := by
  intro pins s σ H D I h
  refine wpAny_Assign_Name (thn (he pins s σ H _ I h) fun v s1 ⟨y, H1, I1, r1, q1⟩ => ?_) hs
  exact store_ok I1 hN hi hx r1 (fun s2 I2 => ⟨_, H1, I2, q1⟩) hf
end

section
variable {X : Cx} {pos : Pos}
def tWhile (c : TT) (tb : TS) : TS := fun D σ H => ∃ W : Nat → St → Hp → Prop, (∃ m, W m σ H) ∧ ∀ m σ H, W m σ H →
  c σ H fun b H1 => if b = true then ∃ N : St → Hp → Prop, (∀ σ' H', N σ' H' → ∃ m', m' < m ∧ W m' σ' H') ∧ tb { D with nx := N, ct := N, bk := D.nx } σ H1 else D.nx σ H1
theorem ps_while {c : Expr} {body : List Stmt} {tc : TT} {tb : TS} (hp : PassesOwn (model X.prog X.w) X.A X.env X.xe) (hc : PT X c tc) (hb : PSs X body tb) : PS X (.While c body [] pos) (tWhile tc tb) := by
  intro pins s σ H D I h
  obtain ⟨W, ⟨m0, w0⟩, turn⟩ := h
  refine wpAny_While (codeAny_whileLoop (fun n s' => ∃ σ' H', Inv X pins σ' H' s' ∧ W n σ' H') ?_ m0 ⟨σ, H, I, w0⟩)
  rintro n s1 ⟨σ1, H1, I1, w1⟩
  refine wpAny_passesOwn hp (thn (hc pins s1 σ1 H1 _ I1 (turn n σ1 H1 w1)) fun b s2 ⟨H2, I2, q2⟩ => ?_)
  cases b with
  | true =>
    obtain ⟨N, hN, q2⟩ := q2
    rw [if_pos rfl]
    refine wpAny_passesOwn hp (thn (hb pins s2 σ1 H2 _ I2 q2) fun f s3 q3 => ?_)
    cases f with
    | next =>
      obtain ⟨σ3, H3, I3, n3⟩ := q3
      obtain ⟨m', hm, w3⟩ := hN σ3 H3 n3
      exact ⟨m', hm, σ3, H3, I3, w3⟩
    | cont =>
      obtain ⟨σ3, H3, I3, n3⟩ := q3
      obtain ⟨m', hm, w3⟩ := hN σ3 H3 n3
      exact ⟨m', hm, σ3, H3, I3, w3⟩
    | brk => exact q3
    | ret v => exact q3
  | false =>
    rw [if_neg Bool.false_ne_true]
    exact wpAny_execs_nil ⟨σ1, H2, I2, q2⟩
end

structure It where
  go : Nat → Hp → Prop
  yld : Nat → Hp → V → Hp → Prop
  stop : Nat → Hp → Prop
def FpOk (X : Cx) (pins : List (Addr × Obj)) (H : Hp) (b : Addr) : Prop :=
  H b = none ∧ b ≠ X.env.locals ∧ b ∉ X.fs ∧ (b ∈ X.ex ∨ X.s_0.heap.objs.size ≤ b) ∧ (∀ x c, X.env.cells.lookup x = some c → c ≠ b) ∧ ∀ p ∈ X.pn ++ pins, p.1 ≠ b
theorem Inv.fpOk {X : Cx} {pins : List (Addr × Obj)} {σ : St} {H H' : Hp} {s : Shared} {b : Addr} (I : Inv X pins σ H s) (hb : s.heap.objs.size ≤ b) (hn : H' b = none) : FpOk X pins H' b := by
  refine ⟨hn, Nat.ne_of_gt (Nat.lt_of_lt_of_le I.lt hb), I.nofs hb, .inr (Nat.le_trans I.sz hb), fun x c e z => ?_, fun p hp z => ?_⟩
  · obtain ⟨v, q⟩ := I.cell x c e
    exact absurd (Nat.lt_of_lt_of_le q.lt (by rw [z]; exact hb)) (Nat.lt_irrefl _)
  · exact absurd (Nat.lt_of_lt_of_le (Heap.lt_size (I.pin p hp).1) (by rw [z]; exact hb)) (Nat.lt_irrefl _)
structure Turn (P : Program) (w : World) (K : PySem.W.Frag) (tg : Expr) (J : It) (fp : List Addr) (it : Addr) (tn : Nat → Heap → Prop) : Prop where
  mem : it ∈ fp
  obj : ∀ i h, tn i h → ∀ b ∈ fp, ∃ o, h.get? b = some o ∧ ∀ v, o.data ≠ .cell v
  keep : ∀ i h h', tn i h → (∀ b ∈ fp, ∀ o, h.get? b = some o → h'.get? b = some o) → tn i h'
  item : ∀ (X : Cx), X.prog = P → X.w = w → X.K = K → X.calm = true → ∀ (i : Nat) (pins : List (Addr × Obj)) (s : Shared) (σ : St) (H : Hp) (E : Value → Shared → Prop), Inv X pins σ H s → (∀ b ∈ fp, FpOk X pins H b) → tn i s.heap → J.go i H →
    wpAny (model P w) X.A (pyNext (.ref it)) (fun r s1 => ∃ u, r = some u ∧
      wpAny (model P w) X.A (letOwnedTupleGo tg (.ref it) u) (fun _ s2 => ∃ x H', Inv X pins σ H' s2 ∧ RelV x u ∧ J.yld i H x H' ∧ tn (i + 1) s2.heap ∧ ∀ b ∈ fp, H' b = none) E s1) E s
  done : ∀ (X : Cx), X.prog = P → X.w = w → X.K = K → X.calm = true → ∀ (i : Nat) (pins : List (Addr × Obj)) (s : Shared) (σ : St) (H : Hp) (E : Value → Shared → Prop), Inv X pins σ H s → (∀ b ∈ fp, FpOk X pins H b) → tn i s.heap → J.stop i H →
    wpAny (model P w) X.A (pyNext (.ref it)) (fun r s1 => r = none ∧ Inv X pins σ H s1) E s
  self : ∀ (A : Around) (i : Nat) (s : Shared) (Q : Value → Shared → Prop) (E : Value → Shared → Prop), tn i s.heap → Q (.ref it) s → wpAny (model P w) A (pyIter (.ref it)) Q E s
abbrev TI := St → Hp → (It → Hp → Prop) → Prop
def PIE (X : Cx) (pins : List (Addr × Obj)) (σ : St) (tg : Expr) (R : It → Hp → Prop) (itv : Value) (s2 : Shared) : Prop :=
  ∃ (it : Addr) (fp : List Addr) (tn : Nat → Heap → Prop) (J : It) (H' : Hp), itv = .ref it ∧ Inv X pins σ H' s2 ∧ Turn X.prog X.w X.K tg J fp it tn ∧ tn 0 s2.heap ∧ (∀ b ∈ fp, FpOk X pins H' b) ∧ R J H'
def PI (X : Cx) (tg iter : Expr) (wi : TI) : Prop :=
  ∀ (pins : List (Addr × Obj)) (s : Shared) (σ : St) (H : Hp) (R : It → Hp → Prop), Inv X pins σ H s → wi σ H R →
    wpAny (model X.prog X.w) X.A (eval iter X.env) (fun v s1 => wpAny (model X.prog X.w) X.A (pyIter v) (PIE X pins σ tg R) X.xe s1) X.xe s

theorem go_of {M : Model} {A : Around} {E : Value → Shared → Prop} {s : Shared} {tg : Expr} {it : Addr} {u : Value} {o : Obj} {n : String} {vs : Array Value} {Q : Unit → Shared → Prop} (ho : s.heap.get? it = some o) (hc : o.cls = .type n) (hd : o.data = .fields vs)
    (hn : ["enumerate", "zip", "dict_itemiterator", "dict_reverseitemiterator", "odict_iterator", "itertools.zip_longest", "itertools.pairwise"].contains n = false) (hQ : Q () s) : wpAny M A (letOwnedTupleGo tg (.ref it) u) Q E s := by
  unfold letOwnedTupleGo
  cases tg <;> first
    | exact wpAny_pure hQ
    | (cases u <;> first
        | exact wpAny_pure hQ
        | (refine wpAny_bind (wpAny_load ho ?_)
           rw [hc, hd]
           show wpAny M A (if (["enumerate", "zip", "dict_itemiterator", "dict_reverseitemiterator", "odict_iterator", "itertools.zip_longest", "itertools.pairwise"].contains n && vs[0]? == some (rawInt _)) = true then _ else _) Q E s
           rw [if_neg (by intro h; rw [hn, Bool.false_and] at h; cases h)]
           exact wpAny_pure hQ))

def Itl (K : PySem.W.Frag) (a : Addr) : It :=
  ⟨fun i H => ∃ xs x, SqL K H a xs ∧ xs[i]? = some x, fun i H x H' => H' = H ∧ ∀ xs, SqL K H a xs → xs[i]? = some x, fun i H => ∃ xs, SqL K H a xs ∧ xs.length ≤ i⟩
def Itt (K : PySem.W.Frag) (a : Addr) : It :=
  ⟨fun i H => ∃ xs x, SqT K H a xs ∧ xs[i]? = some x, fun i H x H' => H' = H ∧ ∀ xs, SqT K H a xs → xs[i]? = some x, fun i H => ∃ xs, SqT K H a xs ∧ xs.length ≤ i⟩
def Itr (lo : Int) (n : Nat) : It := ⟨fun i _ => i < n, fun i H x H' => H' = H ∧ x = .int (lo + i), fun i _ => n ≤ i⟩
theorem turn_list {P : Program} {w : World} {K : PySem.W.Frag} {tg : Expr} (a it : Addr) : Turn P w K tg (Itl K a) [it] it (fun i h => h.IsListIter it a i) where
  mem := by simp
  obj := fun i h st b hb => by
    have e : b = it := by simpa using hb
    subst e
    obtain ⟨o, e, c, d⟩ := st
    exact ⟨o, e, fun v z => by rw [d] at z; cases z⟩
  keep := fun i h h' st k => st.at fun o e => k it (by simp) o e
  item := by
    intro X hP hw hK hc i pins s σ H E I hf st hg
    subst hP hw hK
    obtain ⟨xs, x, hq, hx⟩ := hg
    obtain ⟨its, rv, p, hz⟩ := I.list hq
    obtain ⟨u, hu, ru⟩ := rv.get hx
    obtain ⟨f0, f1, f2, f3, f4, f5⟩ := hf it (by simp)
    refine wpAny_pyNext_list_item st p.isList (x := u) (by simpa using hu) fun h' st' sb => ?_
    have I1 : Inv X pins σ H { s with heap := h' } := I.turned (t' := s.toks) (fun b o hb e => (sb.2 b hb).trans e) f0 f1 f3 f4 f5
    obtain ⟨o, e, c, d⟩ := id st'
    exact ⟨u, rfl, go_of (s := { s with heap := h' }) e c d (by decide) ⟨x, H, I1, ru, ⟨rfl, fun ys hy => by rw [I.list_inj hy hq]; exact hx⟩, st', fun b hb => (hf b hb).1⟩⟩
  done := by
    intro X hP hw hK hc i pins s σ H E I hf st hg
    subst hP hw hK
    obtain ⟨xs, hq, hx⟩ := hg
    obtain ⟨its, rv, p, hz⟩ := I.list hq
    obtain ⟨f0, f1, f2, f3, f4, f5⟩ := hf it (by simp)
    have hl := rv.length
    exact wpAny_pyNext_list_end (I.ok.hd hc) st p.isList (by simp; omega) fun h' eb => ⟨rfl, I.turned (t' := s.toks) (fun b o hb e => eb b o hb e) f0 f1 f3 f4 f5⟩
  self := fun _ _ _ _ _ st h => wpAny_pyIter_listiter st h
theorem turn_tuple {P : Program} {w : World} {K : PySem.W.Frag} {tg : Expr} (a it : Addr) : Turn P w K tg (Itt K a) [it] it (fun i h => h.IsTupleIter it a i) where
  mem := by simp
  obj := fun i h st b hb => by
    have e : b = it := by simpa using hb
    subst e
    obtain ⟨o, e, c, d⟩ := st
    exact ⟨o, e, fun v z => by rw [d] at z; cases z⟩
  keep := fun i h h' st k => st.at fun o e => k it (by simp) o e
  item := by
    intro X hP hw hK hc i pins s σ H E I hf st hg
    subst hP hw hK
    obtain ⟨xs, x, hq, hx⟩ := hg
    obtain ⟨its, rv, p, hz⟩ := I.tuple hq
    obtain ⟨u, hu, ru⟩ := rv.get hx
    obtain ⟨f0, f1, f2, f3, f4, f5⟩ := hf it (by simp)
    refine wpAny_pyNext_tuple_item st (show s.heap.IsTuple a its.toArray from p) (x := u) (by simpa using hu) fun h' st' sb => ?_
    have I1 : Inv X pins σ H { s with heap := h' } := I.turned (t' := s.toks) (fun b o hb e => (sb.2 b hb).trans e) f0 f1 f3 f4 f5
    obtain ⟨o, e, c, d⟩ := id st'
    exact ⟨u, rfl, go_of (s := { s with heap := h' }) e c d (by decide) ⟨x, H, I1, ru, ⟨rfl, fun ys hy => by rw [I.tuple_inj hy hq]; exact hx⟩, st', fun b hb => (hf b hb).1⟩⟩
  done := by
    intro X hP hw hK hc i pins s σ H E I hf st hg
    subst hP hw hK
    obtain ⟨xs, hq, hx⟩ := hg
    obtain ⟨its, rv, p, hz⟩ := I.tuple hq
    obtain ⟨f0, f1, f2, f3, f4, f5⟩ := hf it (by simp)
    have hl := rv.length
    exact wpAny_pyNext_tuple_end (I.ok.hd hc) st (show s.heap.IsTuple a its.toArray from p) (by simp; omega) fun h' eb => ⟨rfl, I.turned (t' := s.toks) (fun b o hb e => eb b o hb e) f0 f1 f3 f4 f5⟩
  self := fun _ _ _ _ _ st h => wpAny_pyIter_tupleiter st h
theorem turn_range {P : Program} {w : World} {K : PySem.W.Frag} {tg : Expr} (it : Addr) (lo : Int) (n : Nat) : Turn P w K tg (Itr lo n) [it] it (fun i h => IsRangeIter h it (lo + (i : Nat) * 1) ((n : Int) - (i : Nat)) 1) where
  mem := by simp
  obj := fun i h st b hb => by
    have e : b = it := by simpa using hb
    subst e
    exact ⟨_, st, fun v z => by
      have z' : Data.fields _ = Data.cell v := z
      cases z'⟩
  keep := fun i h h' st k => k it (by simp) _ st
  item := by
    intro X hP hw hK hc i pins s σ H E I hf st hg
    subst hP hw hK
    obtain ⟨f0, f1, f2, f3, f4, f5⟩ := hf it (by simp)
    have W := Walks.range (prog := X.prog) (w := X.w) (I.ok.hd hc) it lo 1 n
    refine W.item i s _ _ hg st fun v h' tk hv st' kk => ?_
    obtain ⟨t, rfl⟩ := hv
    have I1 : Inv X pins σ H { s with heap := h', toks := tk } := I.turned (fun b o hb e => kk b o (by simpa using hb) e) f0 f1 f3 f4 f5
    refine ⟨_, rfl, go_of (s := { s with heap := h', toks := tk }) (n := "range_iterator") st' rfl rfl (by decide) ⟨.int (lo + i), H, I1, ⟨t, ?_⟩, ⟨rfl, rfl⟩, st', fun b hb => (hf b hb).1⟩⟩
    rw [Int.mul_one]
  done := by
    intro X hP hw hK hc i pins s σ H E I hf st hg
    subst hP hw hK
    obtain ⟨f0, f1, f2, f3, f4, f5⟩ := hf it (by simp)
    exact wpAny_pyNext_range_end (I.ok.hd hc) st (by have : n ≤ i := hg; omega) fun h' eb => ⟨rfl, I.turned (t' := s.toks) (fun b o hb e => eb b o hb e) f0 f1 f3 f4 f5⟩
  self := fun _ _ _ _ _ st h => wpAny_pyIter_rangeiter st h
end L2

namespace L2
open PySem PySem.Spec PyProof.Rows
section
variable {X : Cx} {tg : Expr}
def iList (K : PySem.W.Frag) (tl : TE) : TI := fun σ H R => tl σ H fun x H1 => ∃ a, x = .ref a ∧ (∃ xs, SqL K H1 a xs) ∧ R (Itl K a) H1
def iTup (K : PySem.W.Frag) (tl : TE) : TI := fun σ H R => tl σ H fun x H1 => ∃ a, x = .ref a ∧ (∃ xs, SqT K H1 a xs) ∧ R (Itt K a) H1
theorem pi_list {l : Expr} {tl : TE} (hl : PE X l tl) : PI X tg l (iList X.K tl) := by
  intro pins s σ H R I h
  refine thn (hl pins s σ H _ I h) fun v s1 ⟨x, H1, I1, r1, q1⟩ => ?_
  obtain ⟨a, e, ⟨xs, hq⟩, q⟩ := q1
  subst e
  cases r1
  obtain ⟨its, rv, p, hz⟩ := I1.list hq
  refine wpAny_pyIter_list p.isList ?_
  refine ⟨s1.heap.objs.size, [s1.heap.objs.size], _, _, H1, rfl, I1.kept (t' := s1.toks) fun b o e => Heap.get?_push_of_some _ e, turn_list a _, ⟨_, Heap.get?_push_size _ rfl, rfl, rfl⟩, fun b hb => ?_, q⟩
  have e : b = s1.heap.objs.size := by simpa using hb
  subst e
  exact I1.fpOk (Nat.le_refl _) (I1.hok.fresh (Nat.le_refl _))
theorem pi_tup {l : Expr} {tl : TE} (hl : PE X l tl) : PI X tg l (iTup X.K tl) := by
  intro pins s σ H R I h
  refine thn (hl pins s σ H _ I h) fun v s1 ⟨x, H1, I1, r1, q1⟩ => ?_
  obtain ⟨a, e, ⟨xs, hq⟩, q⟩ := q1
  subst e
  cases r1
  obtain ⟨its, rv, p, hz⟩ := I1.tuple hq
  refine wpAny_pyIter_tuple (show s1.heap.IsTuple a its.toArray from p) ?_
  refine ⟨s1.heap.objs.size, [s1.heap.objs.size], _, _, H1, rfl, I1.kept (t' := s1.toks) fun b o e => Heap.get?_push_of_some _ e, turn_tuple a _, ⟨_, Heap.get?_push_size _ rfl, rfl, rfl⟩, fun b hb => ?_, q⟩
  have e : b = s1.heap.objs.size := by simpa using hb
  subst e
  exact I1.fpOk (Nat.le_refl _) (I1.hok.fresh (Nat.le_refl _))
theorem range_it {pins : List (Addr × Obj)} {σ : St} {H : Hp} {s : Shared} {R : It → Hp → Prop} {E : Value → Shared → Prop} {lo hi : Int} {t u v : Tok} {tk : Nat} (I : Inv X pins σ H s) (h1 : -(2 ^ 62) ≤ lo) (h2 : lo < 2 ^ 62) (h3 : -(2 ^ 62) ≤ hi) (h4 : hi < 2 ^ 62)
    (q : R (Itr lo (hi - lo).toNat) H) : wpAny (model X.prog X.w) X.A (pyIter (.ref s.heap.objs.size)) (PIE X pins σ tg R) E { s with heap := s.heap.push { cls := .type "range", data := .fields #[.int lo t, .int hi u, .int 1 v] }, toks := tk } := by
  refine wpAny_pyIter_range (IsRange.new ..) (small_one h1 h2 h3 h4) ?_
  have I1 : Inv X pins σ H { s with heap := s.heap.push { cls := .type "range", data := .fields #[.int lo t, .int hi u, .int 1 v] }, toks := tk } := I.kept fun b o e => Heap.get?_push_of_some _ e
  refine ⟨(s.heap.push { cls := .type "range", data := .fields #[.int lo t, .int hi u, .int 1 v] }).objs.size, [(s.heap.push { cls := .type "range", data := .fields #[.int lo t, .int hi u, .int 1 v] }).objs.size], _, _, H, rfl,
    I1.kept (t' := tk) fun b o e => Heap.get?_push_of_some _ e, turn_range _ lo (hi - lo).toNat, ?_, fun b hb => ?_, q⟩
  · have e1 : lo + ((0 : Nat) : Int) * 1 = lo := by simp
    have e2 : (((hi - lo).toNat : Nat) : Int) - ((0 : Nat) : Int) = Builtin.Range.rangeSize lo hi 1 := by rw [rangeSize_one]; split <;> omega
    show IsRangeIter _ _ (lo + ((0 : Nat) : Int) * 1) ((((hi - lo).toNat : Nat) : Int) - ((0 : Nat) : Int)) 1
    rw [e1, e2]
    exact Heap.get?_push_size _ rfl
  · have e : b = (s.heap.push { cls := .type "range", data := .fields #[.int lo t, .int hi u, .int 1 v] }).objs.size := by simpa using hb
    subst e
    exact I1.fpOk (Nat.le_refl _) (I1.hok.fresh (Nat.le_refl _))
def iRng1 (ta : TA) : TI := fun σ H R => ta σ H fun vs H1 => ∃ j : Int, vs = [.int j] ∧ -(2 ^ 62) ≤ j ∧ j < 2 ^ 62 ∧ R (Itr 0 j.toNat) H1
theorem pi_range1 {a : Expr} {ta : TA} {p pos : Pos} (hg : Gl X "range") (hm : X.mg "range" = none) (ha : PA X [a] ta) (hs : starEach [a] X.env = [(false, eval a X.env)] := by rfl) : PI X tg (.Call (.Name "range" p) [a] [] pos) (iRng1 ta) := by
  intro pins s σ H R I h
  refine Call_ (ld_blt I hg hm boot_range (PyProof.Rows.callWith_type1 (thn (ha pos pins s σ H _ I h) fun us s1 ⟨vs, H1, I1, r1, q1⟩ => ?_) hs rfl))
  obtain ⟨j, e, q1, q2, q⟩ := q1
  subst e
  cases r1 with
  | cons r rr =>
    cases rr
    obtain ⟨t, rfl⟩ := r
    exact call_range_1 (range_it I1 (by omega) (by omega) q1 q2 (by simpa using q))
def tFor (wi : TI) (g : TG) (tb : TS) : TS := fun D σ H => wi σ H fun J H1 => ∃ W : Nat → Nat → St → Hp → Prop, (∃ m, W 0 m σ H1) ∧ ∀ i m σ H, W i m σ H →
  (J.stop i H ∧ D.nx σ H) ∨ (J.go i H ∧ ∃ N : St → Hp → Prop, (∀ σ' H', N σ' H' → ∃ m', m' < m ∧ W (i + 1) m' σ' H') ∧ ∀ x H', J.yld i H x H' → g x σ H' fun σ2 H2 => tb { D with nx := N, ct := N, bk := D.nx } σ2 H2)
def pinsAt (fp : List Addr) (h : Heap) : List (Addr × Obj) := fp.filterMap fun b => (h.get? b).map fun o => (b, o)
theorem mem_pinsAt {fp : List Addr} {h : Heap} {b : Addr} {o : Obj} (hb : b ∈ fp) (e : h.get? b = some o) : (b, o) ∈ pinsAt fp h := List.mem_filterMap.mpr ⟨b, hb, by rw [e]; rfl⟩
theorem of_pinsAt {fp : List Addr} {h : Heap} {p : Addr × Obj} (hp : p ∈ pinsAt fp h) : p.1 ∈ fp ∧ h.get? p.1 = some p.2 := by
  obtain ⟨b, hb, e⟩ := List.mem_filterMap.mp hp
  cases q : h.get? b with
  | none => rw [q] at e; cases e
  | some o =>
    rw [q] at e
    have e' : (b, o) = p := Option.some.inj e
    subst e'
    exact ⟨hb, q⟩
theorem Inv.pinned {pins : List (Addr × Obj)} {σ : St} {H : Hp} {s : Shared} {fp : List Addr} (I : Inv X pins σ H s) (hf : ∀ b ∈ fp, FpOk X pins H b) (ho : ∀ b ∈ fp, ∃ o, s.heap.get? b = some o ∧ ∀ v, o.data ≠ .cell v) : Inv X (pins ++ pinsAt fp s.heap) σ H s :=
  I.pins_of fun p hp => (List.mem_append.mp hp).elim (fun z => I.pin p (List.mem_append_right _ z)) fun z => by
    obtain ⟨hb, e⟩ := of_pinsAt z
    obtain ⟨f0, f1, f2, _⟩ := hf p.1 hb
    obtain ⟨o, e', d⟩ := ho p.1 hb
    rw [e] at e'; cases e'
    exact ⟨e, f0, f1, f2, d⟩
theorem Inv.unpinned {pins pl : List (Addr × Obj)} {σ : St} {H : Hp} {s : Shared} (I : Inv X (pins ++ pl) σ H s) : Inv X pins σ H s := I.pins_of fun p hp => I.pin p (List.mem_append_right _ (List.mem_append_left _ hp))
theorem ps_for {iter : Expr} {body : List Stmt} {wi : TI} {g : TG} {tb : TS} {pos : Pos} (hp : PassesOwn (model X.prog X.w) X.A X.env X.xe) (hc : X.calm = true) (hi : PI X tg iter wi) (hg : PG X tg g) (hb : PSs X body tb)
    (hs : ∀ x, foldedSetIterable iter X.env x = pure x := by intro _; rfl) : PS X (.For tg iter body [] pos) (tFor wi g tb) := by
  intro pins s σ H D I h
  refine wpAny_For (thn (hi pins s σ H _ I h) fun v s1 h1 => thn h1 fun itv s2 h2 => ?_) hs
  obtain ⟨it, fp, tn, J, H2, e, I2, T, st2, f2, W, ⟨m0, w0⟩, turn⟩ := h2
  subst e
  -- what stays true of the iterator's objects through the loop
  have stat : ∀ {H' : Hp}, (∀ b ∈ fp, H' b = none) → ∀ b ∈ fp, FpOk X pins H' b := fun hn b hb => ⟨hn b hb, (f2 b hb).2⟩
  refine codeAny_forLoop_any (fun n s' => ∃ i σ' H', Inv X pins σ' H' s' ∧ tn i s'.heap ∧ (∀ b ∈ fp, H' b = none) ∧ W i n σ' H') ?_ m0 ⟨0, σ, H2, I2, st2, fun b hb => (f2 b hb).1, w0⟩
  rintro n s3 ⟨i, σ3, H3, I3, st3, fr3, w3⟩
  rcases turn i n σ3 H3 w3 with ⟨stop, qn⟩ | ⟨go, N, hN, step⟩
  · refine wpAny_passesOwn hp (thn (T.done X rfl rfl rfl hc i pins s3 σ3 H3 X.xe I3 (stat fr3) st3 stop) fun r s4 ⟨hr, I4⟩ => ?_)
    subst hr
    exact wpAny_execs_nil ⟨σ3, H3, I4, qn⟩
  · refine wpAny_passesOwn hp (thn (T.item X rfl rfl rfl hc i pins s3 σ3 H3 X.xe I3 (stat fr3) st3 go) fun r s4 ⟨u, hr, h4⟩ => ?_)
    subst hr
    refine wpAny_passesOwn hp (thn h4 fun _ s5 ⟨x, H5, I5, r5, y5, st5, fr5⟩ => ?_)
    have I5' := I5.pinned (stat fr5) (T.obj _ _ st5)
    refine wpAny_passesOwn hp (thn (hg _ s5 σ3 H5 x u _ I5' r5 (step x H5 y5)) fun _ s6 ⟨σ6, H6, I6, q6⟩ => ?_)
    refine wpAny_passesOwn hp (thn (hb _ s6 σ6 H6 _ I6 q6) fun f s7 q7 => ?_)
    have again : ∀ {σ7 : St} {H7 : Hp}, Inv X (pins ++ pinsAt fp s5.heap) σ7 H7 s7 → N σ7 H7 → ∃ m, m < n ∧ ∃ i σ' H', Inv X pins σ' H' s7 ∧ tn i s7.heap ∧ (∀ b ∈ fp, H' b = none) ∧ W i m σ' H' := fun {σ7 H7} I7 n7 => by
      obtain ⟨m', hm, w7⟩ := hN σ7 H7 n7
      refine ⟨m', hm, i + 1, σ7, H7, I7.unpinned, T.keep _ _ _ st5 fun b hb o e => (I7.pin (b, o) (List.mem_append_right _ (List.mem_append_right _ (mem_pinsAt hb e)))).1, fun b hb => ?_, w7⟩
      obtain ⟨o, e, d⟩ := T.obj _ _ st5 b hb
      exact (I7.pin (b, o) (List.mem_append_right _ (List.mem_append_right _ (mem_pinsAt hb e)))).2.1
    cases f with
    | next => obtain ⟨σ7, H7, I7, n7⟩ := q7; exact again I7 n7
    | cont => obtain ⟨σ7, H7, I7, n7⟩ := q7; exact again I7 n7
    | brk => obtain ⟨σ7, H7, I7, q7⟩ := q7; exact ⟨σ7, H7, I7.unpinned, q7⟩
    | ret v => obtain ⟨x7, σ7, H7, I7, r7, q7⟩ := q7; exact ⟨x7, σ7, H7, I7.unpinned, r7, q7⟩
end

theorem for_tup {K : PySem.W.Frag} {a : Addr} {xs : List V} {g : TG} {tb : TS} {D : Ends} {σ : St} {H : Hp} (Pv : Nat → St → Hp → Prop) (h0 : Pv 0 σ H) (hl : ∀ i σ H, i ≤ xs.length → Pv i σ H → SqT K H a xs)
    (hs : ∀ i x σ H, xs[i]? = some x → Pv i σ H → g x σ H fun σ2 H2 => tb { D with nx := Pv (i + 1), ct := Pv (i + 1), bk := D.nx } σ2 H2) (hd : ∀ σ H, Pv xs.length σ H → D.nx σ H) :
    ∃ W : Nat → Nat → St → Hp → Prop, (∃ m, W 0 m σ H) ∧ ∀ i m σ H, W i m σ H →
      ((Itt K a).stop i H ∧ D.nx σ H) ∨ ((Itt K a).go i H ∧ ∃ N : St → Hp → Prop, (∀ σ' H', N σ' H' → ∃ m', m' < m ∧ W (i + 1) m' σ' H') ∧ ∀ x H', (Itt K a).yld i H x H' → g x σ H' fun σ2 H2 => tb { D with nx := N, ct := N, bk := D.nx } σ2 H2) := by
  refine ⟨fun i m σ H => m = xs.length - i ∧ i ≤ xs.length ∧ Pv i σ H, ⟨xs.length, by simp, Nat.zero_le _, h0⟩, ?_⟩
  rintro i m σ H ⟨rfl, hi, p⟩
  have q := hl i σ H hi p
  by_cases hlt : i < xs.length
  · refine .inr ⟨⟨xs, xs[i], q, by simp [hlt]⟩, Pv (i + 1), fun σ' H' p' => ⟨xs.length - (i + 1), by omega, rfl, hlt, p'⟩, fun x H' y => ?_⟩
    obtain ⟨e, y⟩ := y
    subst e
    exact hs i x σ _ (y xs q) p
  · have e : i = xs.length := by omega
    subst e
    exact .inl ⟨⟨xs, q, Nat.le_refl _⟩, hd σ H p⟩
theorem for_range {lo : Int} {n : Nat} {g : TG} {tb : TS} {D : Ends} {σ : St} {H : Hp} (Pv : Nat → St → Hp → Prop) (h0 : Pv 0 σ H)
    (hs : ∀ i σ H, i < n → Pv i σ H → g (.int (lo + i)) σ H fun σ2 H2 => tb { D with nx := Pv (i + 1), ct := Pv (i + 1), bk := D.nx } σ2 H2) (hd : ∀ σ H, Pv n σ H → D.nx σ H) :
    ∃ W : Nat → Nat → St → Hp → Prop, (∃ m, W 0 m σ H) ∧ ∀ i m σ H, W i m σ H →
      ((Itr lo n).stop i H ∧ D.nx σ H) ∨ ((Itr lo n).go i H ∧ ∃ N : St → Hp → Prop, (∀ σ' H', N σ' H' → ∃ m', m' < m ∧ W (i + 1) m' σ' H') ∧ ∀ x H', (Itr lo n).yld i H x H' → g x σ H' fun σ2 H2 => tb { D with nx := N, ct := N, bk := D.nx } σ2 H2) := by
  refine ⟨fun i m σ H => m = n - i ∧ i ≤ n ∧ Pv i σ H, ⟨n, by simp, Nat.zero_le _, h0⟩, ?_⟩
  rintro i m σ H ⟨rfl, hi, p⟩
  by_cases hlt : i < n
  · refine .inr ⟨hlt, Pv (i + 1), fun σ' H' p' => ⟨n - (i + 1), by omega, rfl, hlt, p'⟩, fun x H' y => ?_⟩
    obtain ⟨e, y⟩ := y
    subst e y
    exact hs i σ _ hlt p
  · have e : i = n := by omega
    subst e
    exact .inl ⟨Nat.le_refl _, hd σ H p⟩
end L2

namespace L2
open PySem PySem.Spec PyProof.Rows

abbrev R2 := V → V → Hp → VK → Prop
def OpR (X : Cx) (f : Value → Value → Sem Value) (r : R2) : Prop :=
  ∀ (pins : List (Addr × Obj)) (s : Shared) (σ : St) (H : Hp) (x y : V) (v u : Value) (Q : VK), Inv X pins σ H s → RelV x v → RelV y u → r x y H Q →
    wpAny (model X.prog X.w) X.A (f v u) (EP X pins σ Q) X.xe s
def CallR (X : Cx) (f : Value) (r : List V → Hp → VK → Prop) : Prop :=
  ∀ (pins : List (Addr × Obj)) (s : Shared) (σ : St) (H : Hp) (xs : List V) (us : List Value) (Q : VK), Inv X pins σ H s → Vals xs us → r xs H Q →
    wpAny (model X.prog X.w) X.A (call f us) (EP X pins σ Q) X.xe s
def tOp (r : R2) (ta tb : TE) : TE := fun σ H Q => ta σ H fun x H1 => tb σ H1 fun y H2 => r x y H2 Q
def rI (C : Int → Int → Prop) (g : Int → Int → V) : R2 := fun x y H Q => ∃ i j, x = .int i ∧ y = .int j ∧ C i j ∧ Q (g i j) H
def rI0 (g : Int → Int → V) : R2 := fun x y H Q => ∃ i j, x = .int i ∧ y = .int j ∧ Q (g i j) H
section
variable {X : Cx} {a b c : Expr} {ta tb tc : TE} {pos : Pos}

theorem binT (ha : PE X a ta) (hb : PE X b tb) {pins : List (Addr × Obj)} {s : Shared} {σ : St} {H : Hp} {R : V → V → Hp → Prop} (I : Inv X pins σ H s)
    (h : ta σ H fun x H1 => tb σ H1 fun y H2 => R x y H2) {Q : Value → Shared → Prop} {f : Value → Value → Sem Value}
    (hf : ∀ v u s2 x y H2, Inv X pins σ H2 s2 → RelV x v → RelV y u → R x y H2 → wpAny (model X.prog X.w) X.A (f v u) Q X.xe s2) :
    wpAny (model X.prog X.w) X.A (eval a X.env) (fun v s₁ => wpAny (model X.prog X.w) X.A (eval b X.env) (fun u s₂ => wpAny (model X.prog X.w) X.A (f v u) Q X.xe s₂) X.xe s₁) X.xe s := by
  refine thn (ha pins s σ H _ I h) fun v s1 ⟨x, H1, I1, r1, q1⟩ => ?_
  refine thn (hb pins s1 σ H1 _ I1 q1) fun u s2 ⟨y, H2, I2, r2, q2⟩ => ?_
  exact hf v u s2 x y H2 I2 r1 r2 q2

theorem pe_op {op : Operator} {r : R2} (ho : OpR X (binaryOp op) r) (ha : PE X a ta) (hb : PE X b tb) : PE X (.BinOp a op b pos) (tOp r ta tb) := by
  intro pins s σ H Q I h
  exact wpAny_BinOp (binT ha hb I h fun v u s2 x y H2 I2 rx ry q => ho pins s2 σ H2 x y v u Q I2 rx ry q)
theorem opI {f : Value → Value → Sem Value} {C : Int → Int → Prop} {g : Int → Int → Int}
    (rule : ∀ (i j : Int) (t u : Tok) (s : Shared) (Q : Value → Shared → Prop) (E : Value → Shared → Prop), C i j → Q (.int (g i j) s.toks) { s with toks := s.toks + 1 } → wpAny (model X.prog X.w) X.A (f (.int i t) (.int j u)) Q E s) :
    OpR X f (rI C fun i j => .int (g i j)) := by
  intro pins s σ H x y v u Q I rx ry h
  obtain ⟨i, j, rfl, rfl, hc, q⟩ := h
  obtain ⟨t, rfl⟩ := rx
  obtain ⟨t', rfl⟩ := ry
  exact rule i j t t' s _ _ hc ⟨.int (g i j), H, I.tok _, ⟨_, rfl⟩, q⟩
theorem opI0 {f : Value → Value → Sem Value} {g : Int → Int → Int}
    (rule : ∀ (i j : Int) (t u : Tok) (s : Shared) (Q : Value → Shared → Prop) (E : Value → Shared → Prop), Q (.int (g i j) s.toks) { s with toks := s.toks + 1 } → wpAny (model X.prog X.w) X.A (f (.int i t) (.int j u)) Q E s) :
    OpR X f (rI0 fun i j => .int (g i j)) := by
  intro pins s σ H x y v u Q I rx ry h
  obtain ⟨i, j, rfl, rfl, q⟩ := h
  obtain ⟨t, rfl⟩ := rx
  obtain ⟨t', rfl⟩ := ry
  exact rule i j t t' s _ _ ⟨.int (g i j), H, I.tok _, ⟨_, rfl⟩, q⟩
theorem opB0 {f : Value → Value → Sem Value} {g : Int → Int → Bool}
    (rule : ∀ (i j : Int) (t u : Tok) (s : Shared) (Q : Value → Shared → Prop) (E : Value → Shared → Prop), Q (.bool (g i j)) s → wpAny (model X.prog X.w) X.A (f (.int i t) (.int j u)) Q E s) :
    OpR X f (rI0 fun i j => .bl (g i j)) := by
  intro pins s σ H x y v u Q I rx ry h
  obtain ⟨i, j, rfl, rfl, q⟩ := h
  obtain ⟨t, rfl⟩ := rx
  obtain ⟨t', rfl⟩ := ry
  exact rule i j t t' s _ _ ⟨.bl (g i j), H, I, rfl, q⟩

def CMul (i j : Int) : Prop := (-(2 ^ 64) < i ∧ i < 2 ^ 64) ∨ (-(2 ^ 64) < j ∧ j < 2 ^ 64)
theorem CMul.ok {i j : Int} (h : CMul i j) : IntMulOk i j := by
  rcases h with ⟨h1, h2⟩ | ⟨h1, h2⟩
  · exact .of_left (intBits_le_64 h1 h2)
  · exact .of_right (intBits_le_64 h1 h2)
theorem op_add : OpR X (binaryOp .Add) (rI0 fun i j => .int (i + j)) := opI0 fun _ _ _ _ _ _ _ q => add_int q
theorem op_sub : OpR X (binaryOp .Sub) (rI0 fun i j => .int (i - j)) := opI0 fun _ _ _ _ _ _ _ q => sub_int q
theorem op_mul : OpR X (binaryOp .Mult) (rI CMul fun i j => .int (i * j)) := opI fun _ _ _ _ _ _ _ hc q => mul_int q hc.ok
end

def scal : V → V → Bool
  | .non, .non => true | .non, .int _ => true | .int _, .non => true | .non, .bl _ => true | .bl _, .non => true | .non, .str _ => true | .str _, .non => true
  | .int _, .int _ => true | .bl _, .bl _ => true | .str _, .str _ => true | .byt _, .byt _ => true
  | .int _, .str _ => true | .str _, .int _ => true | .bl _, .str _ => true | .str _, .bl _ => true
  | _, _ => false
def rEq : R2 := fun x y H Q => scal x y = true ∧ Q (.bl (decide (x = y))) H
def rNe : R2 := fun x y H Q => scal x y = true ∧ Q (.bl (!decide (x = y))) H

theorem dec_int {i j : Int} : decide (V.int i = V.int j) = (i == j) := by
  rw [Bool.eq_iff_iff]
  simp
theorem dec_bl {i j : Bool} : decide (V.bl i = V.bl j) = (i == j) := by
  rw [Bool.eq_iff_iff]
  simp
theorem dec_str {i j : Str} : decide (V.str i = V.str j) = (i == j) := by
  rw [Bool.eq_iff_iff]
  simp
theorem dec_byt {i j : Array UInt8} : decide (V.byt i = V.byt j) = (i.toList == j.toList) := by
  rw [Bool.eq_iff_iff]
  cases i
  cases j
  simp

section
variable {X : Cx} {a b c : Expr} {ta tb tc : TE} {pos : Pos}
theorem fin_bl {pins : List (Addr × Obj)} {σ : St} {H : Hp} {s : Shared} {Q : VK} {k k' : Bool} (I : Inv X pins σ H s) (q : Q (.bl k) H) (e : k = k') : EP X pins σ Q (.bool k') s := by
  subst e
  exact ⟨.bl k, H, I, rfl, q⟩
theorem op_eq : OpR X (compareOp .Eq) rEq := by
  intro pins s σ H x y v u Q I rx ry h
  obtain ⟨hs, q⟩ := h
  cases x with
  | non =>
    cases rx
    cases y with
    | non => cases ry; exact PySem.EqNone.eq_none_none (fin_bl I q (by simp))
    | bl j => cases ry; exact PySem.EqNone.eq_none_bool (fin_bl I q (by simp))
    | int j => obtain ⟨t', rfl⟩ := ry; exact PySem.EqNone.eq_none_int (fin_bl I q (by simp))
    | str j => obtain ⟨t', rfl⟩ := ry; exact PySem.EqNone.eq_none_str (fin_bl I q (by simp))
    | _ => exact absurd (show false = true from hs) Bool.false_ne_true
  | bl i =>
    cases rx
    cases y with
    | non => cases ry; exact PySem.EqNone.eq_bool_none (fin_bl I q (by simp))
    | bl j => cases ry; exact eq_bool (fin_bl I q dec_bl)
    | str j => obtain ⟨t', rfl⟩ := ry; exact PySem.EqMixed.eq_bool_str (fin_bl I q (by simp))
    | _ => exact absurd (show false = true from hs) Bool.false_ne_true
  | int i =>
    obtain ⟨t, rfl⟩ := rx
    cases y with
    | non => cases ry; exact PySem.EqNone.eq_int_none (fin_bl I q (by simp))
    | int j => obtain ⟨t', rfl⟩ := ry; exact eq_int (fin_bl I q dec_int)
    | str j => obtain ⟨t', rfl⟩ := ry; exact PySem.EqMixed.eq_int_str (fin_bl I q (by simp))
    | _ => exact absurd (show false = true from hs) Bool.false_ne_true
  | str i =>
    obtain ⟨t, rfl⟩ := rx
    cases y with
    | non => cases ry; exact PySem.EqNone.eq_str_none (fin_bl I q (by simp))
    | bl j => cases ry; exact PySem.EqMixed.eq_str_bool (fin_bl I q (by simp))
    | int j => obtain ⟨t', rfl⟩ := ry; exact PySem.EqMixed.eq_str_int (fin_bl I q (by simp))
    | str j => obtain ⟨t', rfl⟩ := ry; exact eq_str (fin_bl I q dec_str)
    | _ => exact absurd (show false = true from hs) Bool.false_ne_true
  | byt i =>
    obtain ⟨t, rfl⟩ := rx
    cases y with
    | byt j => obtain ⟨t', rfl⟩ := ry; exact PySem.W.eq_bytes (fin_bl I q dec_byt)
    | _ => exact absurd (show false = true from hs) Bool.false_ne_true
  | _ => cases y <;> exact absurd (show false = true from hs) Bool.false_ne_true
theorem op_ne : OpR X (compareOp .NotEq) rNe := by
  intro pins s σ H x y v u Q I rx ry h
  obtain ⟨hs, q⟩ := h
  cases x with
  | non =>
    cases rx
    cases y with
    | non => cases ry; exact PySem.EqNone.ne_none_none (fin_bl I q (by simp))
    | bl j => cases ry; exact PySem.EqNone.ne_none_bool (fin_bl I q (by simp))
    | int j => obtain ⟨t', rfl⟩ := ry; exact PySem.EqNone.ne_none_int (fin_bl I q (by simp))
    | str j => obtain ⟨t', rfl⟩ := ry; exact PySem.EqNone.ne_none_str (fin_bl I q (by simp))
    | _ => exact absurd (show false = true from hs) Bool.false_ne_true
  | bl i =>
    cases rx
    cases y with
    | non => cases ry; exact PySem.EqNone.ne_bool_none (fin_bl I q (by simp))
    | bl j => cases ry; exact ne_bool (fin_bl I q (congrArg not dec_bl))
    | str j => obtain ⟨t', rfl⟩ := ry; exact PySem.EqMixed.ne_bool_str (fin_bl I q (by simp))
    | _ => exact absurd (show false = true from hs) Bool.false_ne_true
  | int i =>
    obtain ⟨t, rfl⟩ := rx
    cases y with
    | non => cases ry; exact PySem.EqNone.ne_int_none (fin_bl I q (by simp))
    | int j => obtain ⟨t', rfl⟩ := ry; exact ne_int (fin_bl I q (congrArg not dec_int))
    | str j => obtain ⟨t', rfl⟩ := ry; exact PySem.EqMixed.ne_int_str (fin_bl I q (by simp))
    | _ => exact absurd (show false = true from hs) Bool.false_ne_true
  | str i =>
    obtain ⟨t, rfl⟩ := rx
    cases y with
    | non => cases ry; exact PySem.EqNone.ne_str_none (fin_bl I q (by simp))
    | bl j => cases ry; exact PySem.EqMixed.ne_str_bool (fin_bl I q (by simp))
    | int j => obtain ⟨t', rfl⟩ := ry; exact PySem.EqMixed.ne_str_int (fin_bl I q (by simp))
    | str j => obtain ⟨t', rfl⟩ := ry; exact ne_str (fin_bl I q (congrArg not dec_str))
    | _ => exact absurd (show false = true from hs) Bool.false_ne_true
  | byt i =>
    obtain ⟨t, rfl⟩ := rx
    cases y with
    | byt j => obtain ⟨t', rfl⟩ := ry; exact PySem.W.ne_bytes (fin_bl I q (congrArg not dec_byt))
    | _ => exact absurd (show false = true from hs) Bool.false_ne_true
  | _ => cases y <;> exact absurd (show false = true from hs) Bool.false_ne_true

theorem op_lt : OpR X (compareOp .Lt) (rI0 fun i j => .bl (decide (i < j))) := opB0 fun _ _ _ _ _ _ _ q => lt_int q
theorem op_gt : OpR X (compareOp .Gt) (rI0 fun i j => .bl (decide (j < i))) := opB0 fun _ _ _ _ _ _ _ q => gt_int q
theorem op_ge : OpR X (compareOp .GtE) (rI0 fun i j => .bl (decide (j ≤ i))) := opB0 fun _ _ _ _ _ _ _ q => ge_int q
theorem nomark (b : Expr) {op : CmpOp} (h : op ≠ .In := by decide) (h2 : op ≠ .NotIn := by decide) : behindInMarks op b = false := by
  have e1 : (op == CmpOp.In) = false := by cases op <;> first | rfl | exact absurd rfl h
  have e2 : (op == CmpOp.NotIn) = false := by cases op <;> first | rfl | exact absurd rfl h2
  cases b <;> simp [behindInMarks, e1, e2]
theorem pe_cmpR {op : CmpOp} {r : R2} (ho : OpR X (compareOp op) r) (ha : PE X a ta) (hb : PE X b tb) (hm : behindInMarks op b = false) : PE X (.Compare a [op] [b] pos) (tOp r ta tb) := by
  intro pins s σ H Q I h
  exact wpAny_Compare1 (binT ha hb I h fun v u s2 x y H2 I2 rx ry q => ho pins s2 σ H2 x y v u Q I2 rx ry q) hm
def tTest (t : TE) : TT := fun σ H Q => t σ H fun x H' => ∃ k, x = .bl k ∧ Q k H'
theorem pt_cmpR {op : CmpOp} {r : R2} (ho : OpR X (compareOp op) r) (ha : PE X a ta) (hb : PE X b tb) (hm : behindInMarks op b = false) : PT X (.Compare a [op] [b] pos) (tTest (tOp r ta tb)) := by
  intro pins s σ H Q I h
  refine wpAny_isTrue_Compare1 (thn (ha pins s σ H _ I h) fun v s1 ⟨x, H1, I1, r1, q1⟩ => thn (hb pins s1 σ H1 _ I1 q1) fun u s2 ⟨y, H2, I2, r2, q2⟩ =>
    thn (ho pins s2 σ H2 x y v u _ I2 r1 r2 q2) fun c s3 ⟨z, H3, I3, r3, k, e, q3⟩ => ?_) hm
  subst e
  cases r3
  exact wpAny_truthy_bool ⟨H3, I3, q3⟩
theorem line63 : (sizeLine : Nat) < 2 ^ 63 := by rw [sizeLine_eq]; decide
theorem vals1 {x : V} {us : List Value} (r : Vals [x] us) : ∃ u, us = [u] ∧ RelV x u := by
  cases r with
  | cons r1 r2 => cases r2; exact ⟨_, rfl, r1⟩
end
end L2

namespace L2
open PySem PySem.Spec PyProof.Rows

structure ObjM (h : Heap) (x dx C : Addr) (mA : Str → Option Value) : Prop where
  obj : h.get? x = some (PySem.W.instObj C dx)
  ns : h.Ns1 dx mA
  ne : dx ≠ x

theorem lookIn_ns {h : Heap} {dx : Addr} {mA : Str → Option Value} (n : h.Ns1 dx mA) : ∃ od, h.get? dx = some od ∧ ∀ name, PySem.W.lookIn name od = some (mA name) := by
  obtain ⟨o, es, ep, ho, hd, hk, _, hm⟩ := n
  refine ⟨o, ho, fun name => ?_⟩
  have e := hm name
  unfold nsFind findBy at e
  rw [← Array.find?_toList] at e
  unfold PySem.W.lookIn
  rw [hd]
  dsimp only
  split
  · rename_i y q
    rw [q] at e
    exact congrArg some e
  · rename_i q
    rw [q] at e
    have a : es.toList.any (·.refKey) = false := by
      rw [List.any_eq_false]
      intro y hy
      obtain ⟨z, t, hkey⟩ := hk y (Array.mem_toList_iff.mp hy)
      simp [DictEntry.refKey, hkey]
    have a' : ¬ es.toList.any (·.refKey) = true := by rw [a]; exact Bool.false_ne_true
    rw [if_neg a']
    exact congrArg some e

theorem ObjM.look {h : Heap} {x dx C : Addr} {mA : Str → Option Value} (I : ObjM h x dx C mA) : ∃ od, PySem.W.InstAt h x (PySem.W.instObj C dx) C (some od) ∧ ∀ name, PySem.W.lookIn name od = some (mA name) :=
  let ⟨od, ho, hl⟩ := lookIn_ns I.ns
  ⟨od, ⟨I.obj, rfl, rfl, ho⟩, hl⟩

section
variable {prog : Program} {w : World} {A : Around} {E : Value → Shared → Prop} {s : Shared} {K : PySem.W.Frag} {x dx C f : Addr} {mA : Str → Option Value} {name : Str} {v : Value}

theorem get_map {expr : Bool} {Q : Value → Shared → Prop} (X : K.In s.heap) (I : ObjM s.heap x dx C mA) (hg : PySem.W.plainGet K C name = true) (hh : PySem.W.hasDictIn K C = true)
    (ha : PySem.W.findIn K (.ref C) name = some none) (hv : mA name = some v) (hv' : PySem.W.handedIn v = true) (h : Q v { s with toks := s.toks + 1 }) :
    wpAny (model prog w) A (getAttr (.ref x) name expr) Q E s := by
  obtain ⟨od, J, hl⟩ := I.look
  exact PySem.W.get_value X J (PySem.W.plainGet_of hg).1 (PySem.W.findObj_own hh ha rfl (by rw [hl, hv])) hv' h

theorem get_meth {pl : Sem Bool} {Q : Value × List Value → Shared → Prop} (X : K.In s.heap) (I : ObjM s.heap x dx C mA) (hg : PySem.W.plainGet K C name = true)
    (hf : PySem.W.findIn K (.ref C) name = some (some (.ref f))) (ht : PySem.W.isFn K (.ref f) = true) (hv : mA name = none) (h : Q (.ref f, [.ref x]) s) :
    wpAny (model prog w) A (getMethod (.ref x) name pl) Q E s := by
  obtain ⟨od, J, hl⟩ := I.look
  exact PySem.W.method_fn X J (PySem.W.plainGet_of hg).1 (PySem.W.plainGet_of hg).2 hf (beq_iff_eq.mp ht) (by show (PySem.W.lookIn name od).map (·.isSome) = some false; rw [hl, hv]; rfl) h

theorem set_map {ns : List Str} {Q : Unit → Shared → Prop} (X : K.In s.heap) (I : ObjM s.heap x dx C mA)
    (hs : PySem.W.findIn K (.ref C) "__setattr__" = some (some (.builtin "object.__setattr__"))) (hp : PySem.W.plainOver K C = true) (ht : PySem.W.takerIn K C name = some none) (hh : PySem.W.hasDictIn K C = true)
    (hw : PySem.Within mA ns) (hsz : ns.length ≤ sizeLine)
    (h : ∀ h', ObjM h' x dx C (fun y => if y = name then some v else mA y) → Heap.SameBut dx s.heap h' → Q () { s with heap := h', toks := s.toks + 2 }) :
    wpAny (model prog w) A (setAttr (.ref x) name v) Q E s := by
  obtain ⟨od, J, hl⟩ := I.look
  refine PySem.W.set_plain X J hs (PySem.W.osa_open (s := { s with toks := s.toks + 1 }) (r := none) X J hp ht fun b => ?_)
  obtain ⟨cd, hc, hd'⟩ := PySem.W.any_some hh
  have hx : s.heap.get? x = some ⟨.ref C, some dx, .plain, #[]⟩ := I.obj
  refine wpAny_bind (wpAny_pure (wpAny_bind (wpAny_bind (wpAny_loadPart hx (wpAny_bind (PySem.W.Looks.here (s := { s with toks := s.toks + 1 }) (PySem.W.looks_clsIn X hc) ?_))))))
  rw [hd']
  refine wpAny_pure (a := some dx) (wpAny_bind (wpAny_pure (wpAny_bind ?_)))
  refine wpAny_nsSet1 (s := { s with toks := s.toks + 1 }) I.ns fun h' hn2 hs2 => ?_
  obtain ⟨oD, esD, epD, hoD, hdD, hcD⟩ := hn2.count (PySem.Within.cons name v hw)
  refine wpAny_bind (wpAny_lookBehind hoD (by rw [hdD]; exact pastItsLine_dict (Nat.le_trans hcD (by rw [List.length_cons]; omega))) ?_)
  exact wpAny_pure (h _ ⟨(hs2.2 _ (Ne.symm I.ne)).trans I.obj, hn2, I.ne⟩ hs2)

theorem make_map {R : Result → Shared → Prop} {vs : List Value} {kw : List (Str × Value)} (X : K.In s.heap) (hm : PySem.W.makesIn K C = true)
    (hi : PySem.W.findIn K (.ref C) "__init__" = some (some (.ref f))) (hf : PySem.W.typeIn K (.ref f) = some (.type "function"))
    (h : codeAny (model prog w) (A.under (.builtin "type.__call__" ⟨.ref C :: vs, kw⟩)) (.call (.ref f) ⟨.ref (s.heap.objs.size + 1) :: vs, kw⟩) (PySem.W.InitBack (s.heap.objs.size + 1) R)
      { s with heap := (s.heap.push PySem.W.emptyDict).push (PySem.W.instObj C s.heap.objs.size) }) :
    codeAny (model prog w) A (.call (.ref C) ⟨vs, kw⟩) R s := by
  obtain ⟨hh, g, d, t, os⟩ := s
  exact PySem.W.make_core (PySem.W.makes_of X hm) (PySem.W.looks_findIn X hi) (fun self => PySem.W.bind_fn X self hf) (.inl rfl) h
end

def putF (f : Str) (v : V) : List (Str × V) → List (Str × V)
  | [] => [(f, v)]
  | (g, x) :: r => if g = f then (g, v) :: r else (g, x) :: putF f v r
theorem lookup_putF (f g : Str) (v : V) : ∀ fs : List (Str × V), (putF f v fs).lookup g = if g = f then some v else fs.lookup g
  | [] => by
    show List.lookup g [(f, v)] = _
    by_cases h : g = f
    · have hb : (g == f) = true := beq_iff_eq.mpr h
      simp only [List.lookup, hb, if_pos h]
    · have hb : (g == f) = false := beq_eq_false_iff_ne.mpr h
      simp only [List.lookup, hb, if_neg h]
  | (k, x) :: r => by
    have ih := lookup_putF f g v r
    rw [show putF f v ((k, x) :: r) = (if k = f then (k, v) :: r else (k, x) :: putF f v r) from rfl]
    by_cases hk : k = f
    · rw [if_pos hk]
      by_cases h : g = k
      · have hb : (g == k) = true := beq_iff_eq.mpr h
        simp only [List.lookup, hb, if_pos (h.trans hk)]
      · have hb : (g == k) = false := beq_eq_false_iff_ne.mpr h
        simp only [List.lookup, hb, if_neg (fun e : g = f => h (e.trans hk.symm))]
    · rw [if_neg hk]
      by_cases h : g = k
      · have hb : (g == k) = true := beq_iff_eq.mpr h
        simp only [List.lookup, hb, if_neg (fun e : g = f => hk (h.symm.trans e))]
      · have hb : (g == k) = false := beq_eq_false_iff_ne.mpr h
        simp only [List.lookup, hb]
        exact ih
theorem keys_putF (f : Str) (v : V) : ∀ fs : List (Str × V), f ∈ (putF f v fs).map (·.1) ∧ ∀ g, g ∈ fs.map (·.1) → g ∈ (putF f v fs).map (·.1)
  | [] => ⟨by simp [putF], fun g h => by simp at h⟩
  | (k, x) :: r => by
    obtain ⟨i1, i2⟩ := keys_putF f v r
    rw [show putF f v ((k, x) :: r) = (if k = f then (k, v) :: r else (k, x) :: putF f v r) from rfl]
    by_cases hk : k = f
    · rw [if_pos hk]
      subst hk
      exact ⟨by simp, fun g h => by simpa using h⟩
    · rw [if_neg hk]
      refine ⟨?_, fun g h => ?_⟩
      · rw [List.map_cons]
        exact List.mem_cons_of_mem _ i1
      · rw [List.map_cons] at h ⊢
        rcases List.mem_cons.mp h with e | e
        · exact List.mem_cons.mpr (.inl e)
        · exact List.mem_cons_of_mem _ (i2 g e)
theorem length_putF (f : Str) (v : V) : ∀ fs : List (Str × V), (putF f v fs).length ≤ fs.length + 1
  | [] => by simp [putF]
  | (k, x) :: r => by
    have ih := length_putF f v r
    rw [show putF f v ((k, x) :: r) = (if k = f then (k, v) :: r else (k, x) :: putF f v r) from rfl]
    by_cases hk : k = f
    · rw [if_pos hk, List.length_cons, List.length_cons]; omega
    · rw [if_neg hk, List.length_cons, List.length_cons]; omega

theorem RelO.some_of {v : V} {o : Option Value} (r : RelO (some v) o) : ∃ u, o = some u ∧ RelV v u := by
  cases o with
  | none => exact (show False from r).elim
  | some u => exact ⟨u, rfl, r⟩
theorem RelO.none_of {o : Option Value} (r : RelO none o) : o = none := by
  cases o with
  | none => rfl
  | some u => exact (show False from r).elim
theorem handed_of {v : V} {u : Value} (r : RelV v u) : PySem.W.handedIn u = true := by
  cases v with
  | non => cases (show u = Value.none from r); rfl
  | bl b => cases (show u = Value.bool b from r); rfl
  | int i => obtain ⟨t, e⟩ := (show ∃ t, u = Value.int i t from r); cases e; rfl
  | str x => obtain ⟨t, e⟩ := (show ∃ t, u = Value.str x t from r); cases e; rfl
  | byt b => obtain ⟨t, e⟩ := (show ∃ t, u = Value.bytes b t from r); cases e; rfl
  | flt b => obtain ⟨t, e⟩ := (show ∃ t, u = Value.float b t from r); cases e; rfl
  | ref a => cases (show u = Value.ref a from r); rfl
  | ty n => cases (show u = Value.type n from r); rfl

section
variable {P : Program} {w : World} {H H' : Hp} {h h' : Heap} {a C dx : Addr} {fs fs' : List (Str × V)}
theorem ins_get (hok : HOk P w H h) (e : H a = some (.ins C dx fs)) : ∃ mA, ObjM h a dx C mA ∧ (∀ f, RelO (fs.lookup f) (mA f)) ∧ PySem.Within mA (fs.map (·.1)) ∧ fs.length ≤ 1000 ∧ H dx = some (.own a) := by
  obtain ⟨d, z, ne, ob, mA, n, r, q⟩ := (show ObjOk P w H h a (.ins C dx fs) from hok a _ e)
  exact ⟨mA, ⟨ob, n, ne⟩, r, q, z, d⟩
end

structure Cls (K : PySem.W.Frag) (C : Addr) : Prop where
  pg : PySem.W.plainGet K C Str.empty = true
  hd : PySem.W.hasDictIn K C = true
  po : PySem.W.plainOver K C = true
  sa : PySem.W.findIn K (.ref C) "__setattr__" = some (some (.builtin "object.__setattr__"))
theorem Cls.get {K : PySem.W.Frag} {C : Addr} (c : Cls K C) (f : Str) : PySem.W.plainGet K C f = true := c.pg
def NoAttr (K : PySem.W.Frag) (C : Addr) (f : Str) : Prop := PySem.W.findIn K (.ref C) f = some none
theorem NoAttr.taker {K : PySem.W.Frag} {C : Addr} {f : Str} (n : NoAttr K C f) : PySem.W.takerIn K C f = some none := by
  unfold PySem.W.takerIn
  rw [show PySem.W.findIn K (.ref C) f = some none from n]
  rfl
structure Con (K : PySem.W.Frag) (C : Addr) (f : Str) (v : V) (u : Value) : Prop where
  at_ : PySem.W.findIn K (.ref C) f = some (some u)
  rel : RelV v u
  get : PySem.W.specialIn K u "__get__" = some none
  cp : PySem.W.copiedNames.contains f = false
structure Meth (K : PySem.W.Frag) (C : Addr) (m : Str) (f : Addr) : Prop where
  at_ : PySem.W.findIn K (.ref C) m = some (some (.ref f))
  fn : PySem.W.isFn K (.ref f) = true
  kp : PySem.W.keepIn K (.ref f) = true

section
variable {X : Cx} {pins : List (Addr × Obj)} {σ : St} {H : Hp} {s : Shared} {a C dx : Addr} {fs : List (Str × V)} {f : Str} {v : V} {A : Around} {E : Value → Shared → Prop}

theorem getattr_ok {b : Bool} {Q : Value → Shared → Prop} (I : Inv X pins σ H s) (e : H a = some (.ins C dx fs)) (c : Cls X.K C) (n : NoAttr X.K C f) (l : fs.lookup f = some v)
    (h : ∀ u s', Inv X pins σ H s' → RelV v u → Q u s') : wpAny (model X.prog X.w) A (getAttr (.ref a) f b) Q E s := by
  obtain ⟨mA, O, r, _, _, _⟩ := ins_get I.hok e
  obtain ⟨u, hu, ru⟩ := RelO.some_of (v := v) (o := mA f) (by rw [← l]; exact r f)
  exact get_map I.kIn O (c.get f) c.hd n hu (handed_of ru) (h u _ (I.tok _) ru)

theorem getmeth_ok {m : Str} {g : Addr} {pl : Sem Bool} {Q : Value × List Value → Shared → Prop} (I : Inv X pins σ H s) (e : H a = some (.ins C dx fs)) (c : Cls X.K C) (k : Meth X.K C m g) (l : fs.lookup m = none)
    (h : Q (.ref g, [.ref a]) s) : wpAny (model X.prog X.w) A (getMethod (.ref a) m pl) Q E s := by
  obtain ⟨mA, O, r, _, _, _⟩ := ins_get I.hok e
  have hn : mA m = none := RelO.none_of (by rw [← l]; exact r m)
  exact get_meth I.kIn O (c.get m) k.at_ k.fn hn h

theorem setattr_ok {y : V} {u : Value} {Q : Unit → Shared → Prop} (I : Inv X pins σ H s) (e : H a = some (.ins C dx fs)) (c : Cls X.K C) (n : NoAttr X.K C f) (hl : fs.length < 1000) (ry : RelV y u)
    (h : ∀ s', Inv X pins σ (upd H a (.ins C dx (putF f y fs))) s' → Q () s') : wpAny (model X.prog X.w) A (setAttr (.ref a) f u) Q E s := by
  obtain ⟨mA, O, r, wi, _, ho⟩ := ins_get I.hok e
  have hz : (fs.map (·.1)).length ≤ sizeLine := by rw [List.length_map, sizeLine_eq]; omega
  refine set_map I.kIn O c.sa c.po n.taker c.hd wi hz fun h' O' sb => h _ ?_
  have hd : ∃ o, h'.get? dx = some o := let ⟨o, _, _, e', _⟩ := O'.ns; ⟨o, e'⟩
  refine I.write (x := a) (e := dx) (by rw [e]; exact True.intro) (.inr ho) (fun b q hb z => (sb.2 b hb).trans z) hd ?_
  refine ⟨by rw [upd_ne O.ne]; exact ho, ?_, O.ne, O'.obj, _, O'.ns, fun g => ?_, fun g hg => ?_⟩
  · have := length_putF f y fs; omega
  · show RelO ((putF f y fs).lookup g) (if g = f then some u else mA g)
    rw [lookup_putF]
    by_cases q : g = f
    · rw [if_pos q, if_pos q]; exact ry
    · rw [if_neg q, if_neg q]; exact r g
  · by_cases q : g = f
    · rw [q]; exact (keys_putF f y fs).1
    · refine (keys_putF f y fs).2 g (wi g fun z => hg ?_)
      show (if g = f then some u else mA g) = none
      rw [if_neg q]; exact z

theorem Inv.made (I : Inv X pins σ H s) : Inv X pins σ (upd (upd H s.heap.objs.size (.own (s.heap.objs.size + 1))) (s.heap.objs.size + 1) (.ins C s.heap.objs.size []))
    { s with heap := (s.heap.push PySem.W.emptyDict).push (PySem.W.instObj C s.heap.objs.size) } := by
  have e1 : (s.heap.push PySem.W.emptyDict).get? s.heap.objs.size = some PySem.W.emptyDict := Heap.get?_push_size s.heap rfl
  have e2 : ((s.heap.push PySem.W.emptyDict).push (PySem.W.instObj C s.heap.objs.size)).get? (s.heap.objs.size + 1) = some (PySem.W.instObj C s.heap.objs.size) := by
    have := Heap.get?_push_size (s.heap.push PySem.W.emptyDict) (o := PySem.W.instObj C s.heap.objs.size) rfl
    rwa [Heap.size_push] at this
  have e3 : (s.heap.push PySem.W.emptyDict).Ns s.heap.objs.size (fun _ => none) := ⟨PySem.W.emptyDict, #[], _, e1, rfl, (fun e he => absurd he (by simp)), fun _ => rfl⟩
  have I1 := I.laid (a := s.heap.objs.size) (o := .own (s.heap.objs.size + 1)) (h' := s.heap.push PySem.W.emptyDict) (t' := s.toks) (fun b u q => Heap.get?_push_of_some _ q) (Nat.le_refl _) ⟨_, e1⟩
  refine I1.laid (a := s.heap.objs.size + 1) (o := .ins C s.heap.objs.size []) (t' := s.toks) (fun b u q => Heap.get?_push_of_some _ q) (Nat.le_of_eq (Heap.size_push _ _)) ?_
  have ne : s.heap.objs.size ≠ s.heap.objs.size + 1 := Nat.ne_of_lt (Nat.lt_succ_self _)
  refine ⟨by rw [upd_ne ne, upd_same], Nat.zero_le _, ne, e2, fun _ => none, (Heap.Ns1.of_empty e3).at fun o q => Heap.get?_push_of_some _ q, fun _ => True.intro, fun y hy => absurd rfl hy⟩

theorem attr_of {prog : Program} {w : World} {env : Env} {e : Expr} {f : Str} {pos : Pos} {s : Shared} {Q : Value → Shared → Prop} (hb : attributeBase e f env (eval e env) = eval e env)
    (h : wpAny (model prog w) A (eval e env) (fun o s₁ => wpAny (model prog w) A (getAttr o f true) Q E s₁) E s) : wpAny (model prog w) A (eval (.Attribute e f pos) env) Q E s :=
  Attribute_any_ h (by rw [arm_eval_Attribute, hb])
end

def tFld (K : PySem.W.Frag) (ta : TE) (f : Str) : TE := fun σ H Q => ta σ H fun x H1 => ∃ a C dx fs v, x = .ref a ∧ H1 a = some (.ins C dx fs) ∧ Cls K C ∧ NoAttr K C f ∧ fs.lookup f = some v ∧ Q v H1
def sFld (K : PySem.W.Frag) (ta tv : TE) (f : Str) : TS := fun D σ H => tv σ H fun y H1 => ta σ H1 fun x H2 => ∃ a C dx fs, x = .ref a ∧ H2 a = some (.ins C dx fs) ∧ Cls K C ∧ NoAttr K C f ∧ fs.length < 1000 ∧
  D.nx σ (upd H2 a (.ins C dx (putF f y fs)))
section
variable {X : Cx} {o e value : Expr} {f : Str} {pos pos' tpos : Pos} {ta tv : TE}
theorem pe_fld (he : PE X e ta) (hb : attributeBase e f X.env (eval e X.env) = eval e X.env) : PE X (.Attribute e f pos) (tFld X.K ta f) := by
  intro pins s σ H Q I h
  refine attr_of hb (thn (he pins s σ H _ I h) fun u s1 ⟨x, H1, I1, rx, a, C, dx, fs, v, ex, ea, c, n, l, q⟩ => ?_)
  subst ex
  obtain rfl : u = Value.ref a := rx
  exact getattr_ok I1 ea c n l fun u' s2 I2 ru => ⟨v, H1, I2, ru, q⟩
theorem ps_fld (ha : PE X o ta) (hv : PE X value tv) (hs : swapsWith value (some (.Attribute o f pos')) pos.line X.env = pure false) : PS X (.Assign [.Attribute o f pos'] value pos) (sFld X.K ta tv f) := by
  intro pins s σ H D I h
  refine plainObj_wpAny_Assign_Attribute (thn (hv pins s σ H _ I h) fun u s1 ⟨y, H1, I1, ry, q⟩ => thn (ha pins s1 σ H1 _ I1 q) fun ov s2 ⟨x, H2, I2, rx, a, C, dx, fs, ex, ea, c, n, l, q2⟩ => ?_) hs
  subst ex
  obtain rfl : ov = Value.ref a := rx
  exact setattr_ok I2 ea c n l ry fun s3 I3 => ⟨σ, _, I3, q2⟩
end

section
variable {X : Cx} {pins : List (Addr × Obj)} {σ : St} {H : Hp} {s : Shared} {A : Around} {E : Value → Shared → Prop} {Q : Value → Shared → Prop} {c : Value} {b : Bool}
inductive TyOf (K : PySem.W.Frag) (H : Hp) : V → Value → Prop where
  | non : TyOf K H .non (.type "NoneType")
  | bl (x : Bool) : TyOf K H (.bl x) (.type "bool")
  | int (i : Int) : TyOf K H (.int i) (.type "int")
  | str (x : Str) : TyOf K H (.str x) (.type "str")
  | flt (x : UInt64) : TyOf K H (.flt x) (.type "float")
  | lst {a : Addr} {xs : List V} (e : H a = some (.lst xs)) : TyOf K H (.ref a) (.type "list")
  | frz {a : Addr} {o : Obj} {xs : List V} (e : H a = some (.frz o (.lst xs))) : TyOf K H (.ref a) (.type "list")
  | tup {a : Addr} {xs : List V} (e : H a = some (.tup xs)) : TyOf K H (.ref a) (.type "tuple")
  | dK {a : Addr} {kvs : List (Key × V)} (e : H a = some (.dK kvs)) : TyOf K H (.ref a) (.type "dict")
  | dT {a : Addr} {kvs : List (List Key × V)} (e : H a = some (.dT kvs)) : TyOf K H (.ref a) (.type "dict")
  | ins {a C dx : Addr} {fs : List (Str × V)} (e : H a = some (.ins C dx fs)) (cl : Cls K C) (ha : PySem.W.findIn K (.ref C) "__class__" = some (some (.builtin "object.__class__")))
      (hn : PySem.W.specialIn K (.builtin "object.__class__") "__get__" = some (some (.builtin "getset_descriptor.__get__"))) (htk : PySem.W.takesIn K (.builtin "object.__class__") = some true)
      (hm : PySem.W.mroIn K C (.type "object") = some true) : TyOf K H (.ref a) (.ref C)
end
end L2

namespace L2
open PySem PySem.Spec PyProof.Rows

structure Room (k : Nat) (A : Around) : Prop where
  hd : A.handled = none
  dp : A.depth + 3 * k + 5 < recursionLimit
  un : A.units + 16 * k + 200 < cLine
theorem Room.mono {j k : Nat} {A : Around} (r : Room k A) (h : j ≤ k) : Room j A := ⟨r.hd, by have := r.dp; omega, by have := r.un; omega⟩
theorem Room.deeper {k : Nat} {A : Around} (r : Room (k + 1) A) (env : Env) : Room k (A.deeper env) :=
  ⟨r.hd, by have := r.dp; show A.depth + 1 + 3 * k + 5 < _; omega, by have := r.un; show A.units + 3 + 16 * k + 200 < _; omega⟩
theorem make_depth {A : Around} {C : Addr} {us : List Value} {kw : List (Str × Value)} : (A.under (.builtin "type.__call__" ⟨.ref C :: us, kw⟩)).depth = A.depth + 1 := by
  first | rfl | simp [Around.under, Code.weight, Code.isCreation, Code.isGuard, Code.isCaller, Code.frames, Code.isFrame, guardIds]
theorem make_units {A : Around} {C : Addr} {us : List Value} {kw : List (Str × Value)} : (A.under (.builtin "type.__call__" ⟨.ref C :: us, kw⟩)).units = A.units + 1 := by
  first | rfl | simp [Around.under, Code.cUnits, Code.frames, Code.isFrame]
theorem Room.make {k : Nat} {A : Around} (r : Room (k + 1) A) (C : Addr) (us : List Value) (kw : List (Str × Value)) : Room k (A.under (.builtin "type.__call__" ⟨.ref C :: us, kw⟩)) :=
  ⟨r.hd, by have := r.dp; rw [make_depth]; omega, by have := r.un; rw [make_units]; omega⟩
theorem Room.depth {k : Nat} {A : Around} (r : Room k A) : A.depth < recursionLimit := by have := r.dp; omega
def tNil : TA := fun _ H Q => Q [] H
def tCons (ta : TE) (tr : TA) : TA := fun σ H Q => ta σ H fun x H1 => tr σ H1 fun xs H2 => Q (x :: xs) H2
section
variable {X : Cx} {e : Expr} {es : List Expr} {te : TE} {t : TA} {pos : Pos}
theorem pa_nil : PA X [] tNil := fun _ _ _ _ H Q I h => Calls.spliced_nil ⟨[], H, I, .nil, h⟩
theorem pa_cons (ha : PE X e te) (hr : PA X es t) (hs : starEach (e :: es) X.env = (false, eval e X.env) :: starEach es X.env := by rfl) : PA X (e :: es) (tCons te t) := by
  intro pos pins s σ H Q I h
  rw [hs]
  show wpAny _ _ (spliced ((false, eval e X.env) :: backTo pos (starEach es X.env))) _ _ s
  refine Calls.spliced_cons (thn (ha pins s σ H _ I h) fun u s1 ⟨x, H1, I1, r1, q1⟩ => ?_)
  exact thn (hr pos pins s1 σ H1 _ I1 q1) fun us s2 ⟨xs, H2, I2, r2, q2⟩ => ⟨x :: xs, H2, I2, .cons r1 r2, q2⟩

def tTup (t : TA) : TE := fun σ H Q => t σ H fun xs H1 => xs.length ≤ sizeLine ∧ ∀ p, H1 p = none → Q (.ref p) (upd H1 p (.tup xs))
def tLst (t : TA) : TE := fun σ H Q => t σ H fun xs H1 => xs.length ≤ sizeLine ∧ ∀ p, H1 p = none → Q (.ref p) (upd H1 p (.lst xs))
theorem pe_tup {x1} (h : PA X es t) : PE X (.Tuple es x1 pos) (tTup t) := by
  intro pins s σ H Q I hq
  refine wpAny_Tuple_spliced (thn (h pos pins s σ H _ I hq) fun us s1 ⟨xs, H1, I1, r, z, q⟩ => ⟨by rw [← r.length]; exact z, ?_⟩)
  have hf : H1 s1.heap.objs.size = none := I1.hok.fresh (Nat.le_refl _)
  refine ⟨.ref s1.heap.objs.size, upd H1 s1.heap.objs.size (.tup xs), I1.laid (t' := s1.toks) (fun b u e => Heap.get?_push_of_some _ e) (Nat.le_refl _) ?_, rfl, q _ hf⟩
  exact ⟨z, us, r, ⟨_, Heap.get?_push_size _ rfl, rfl, _, rfl⟩⟩
theorem pe_lst (h : PA X es t) : PE X (.List es pos) (tLst t) := by
  intro pins s σ H Q I hq
  refine wpAny_List_spliced (thn (h pos pins s σ H _ I hq) fun us s1 ⟨xs, H1, I1, r, z, q⟩ => ⟨by rw [← r.length]; exact z, ?_⟩)
  have hf : H1 s1.heap.objs.size = none := I1.hok.fresh (Nat.le_refl _)
  refine ⟨.ref s1.heap.objs.size, upd H1 s1.heap.objs.size (.lst xs), I1.laid (t' := s1.toks) (fun b u e => Heap.get?_push_of_some _ e) (Nat.le_refl _) ?_, rfl, q _ hf⟩
  exact ⟨z, us, 0, r, Heap.get?_push_size _ rfl⟩
end

abbrev Sp := List V → Hp → VK → XK → Prop
abbrev CXT := List Env → Hp → Shared → XK → Value → Shared → Prop

structure Env0 (P : Program) (w : World) (K : PySem.W.Frag) (mg : Str → Option Value) (base : Heap) (A : Around) (outer : List Env) (s : Shared) (H : Hp) : Prop where
  frames : A.frames = some outer
  mod : Mod K mg base
  bs : ∀ b o, base.get? b = some o → s.heap.get? b = some o ∧ H b = none
  bsz : base.objs.size ≤ s.heap.objs.size
  funs : s.heap.FunFrames base outer
  frf : ∀ b ∈ frs outer, H b = none
  hok : HOk P w H s.heap
  bare : AllBare s.gens
def CE (outer : List Env) (P : Program) (w : World) (H : Hp) (s : Shared) (Q : VK) (u : Value) (s' : Shared) : Prop :=
  ∃ v H', s'.os = s.os ∧ AllBare s'.gens ∧ Un (frs outer) [] H H' s.heap s'.heap ∧ HOk P w H' s'.heap ∧ RelV v u ∧ Q v H'
def CR (CX : CXT) (outer : List Env) (P : Program) (w : World) (H : Hp) (s : Shared) (Q : VK) (E : XK) (r : Result) (s' : Shared) : Prop :=
  match r with
  | .ok (.ret u) => CE outer P w H s Q u s'
  | .ok _ => False
  | .error e => CX outer H s E e s'
structure FnOk (P : Program) (w : World) (K : PySem.W.Frag) (mg : Str → Option Value) (base : Heap) (CX : CXT) (k : Nat) (f : Addr) (fd : FuncData) (ps : List Str) (sp : Sp) : Prop where
  len : ∀ vs H Q E, sp vs H Q E → vs.length = ps.length
  run : ∀ (A : Around) (outer : List Env) (s : Shared) (H : Hp) (args : Args) (us : List Value) (vs : List V) (Q : VK) (E : XK), Room k A → Env0 P w K mg base A outer s H → BindsTo s fd args (ps.zip us) → Vals vs us → sp vs H Q E →
    codeAny (model P w) A (.call (.ref f) args) (CR CX outer P w H s Q E) s
theorem Env0.make {P : Program} {w : World} {K : PySem.W.Frag} {mg : Str → Option Value} {base : Heap} {A : Around} {outer : List Env} {s : Shared} {H : Hp} (e : Env0 P w K mg base A outer s H) (C : Addr) (us : List Value) (kw : List (Str × Value)) :
    Env0 P w K mg base (A.under (.builtin "type.__call__" ⟨.ref C :: us, kw⟩)) outer s H := ⟨by first | exact e.frames | (simpa [Around.under, Code.envs, Code.isFrame, pushEnvs] using e.frames), e.mod, e.bs, e.bsz, e.funs, e.frf, e.hok, e.bare⟩
section
variable {X : Cx} {pins : List (Addr × Obj)} {σ : St} {H : Hp} {s s' : Shared}
theorem Inv.env0 (I : Inv X pins σ H s) : Env0 X.prog X.w X.K X.mg X.base X.A X.stack s H :=
  ⟨I.ok.frames, I.ok.mod, I.bs, Nat.le_trans I.ok.bsz I.sz, I.stack, I.stkFree, I.hok, I.bare⟩
theorem Inv.after {Q : VK} {u : Value} (I : Inv X pins σ H s) (h : CE X.stack X.prog X.w H s Q u s') : EP X pins σ Q u s' := by
  obtain ⟨v, H', os, bare, un, hok, r, q⟩ := h
  obtain ⟨hh, g, d, t, os'⟩ := s'
  obtain rfl : os' = s.os := os
  exact ⟨v, H', I.call (h' := hh) (g' := g) (d' := d) (t' := t) (ch := []) un hok bare (fun b z => absurd z (by simp)), r, q⟩
end

def tCall (sp : Sp) (dvs : List V) (E : XK) (t : TA) : TE := fun σ H Q => t σ H fun vs H1 => sp (vs ++ dvs) H1 Q E
def tMeth (C : Addr) (m : Str) (sp : Sp) (dvs : List V) (E : XK) (ta : TE) (t : TA) : TE := fun σ H Q => ta σ H fun x H1 => ∃ a dx fs, x = .ref a ∧ H1 a = some (.ins C dx fs) ∧ fs.lookup m = none ∧
  t σ H1 fun vs H2 => sp (x :: (vs ++ dvs)) H2 Q E
def tMake (C : Addr) (sp : Sp) (dvs : List V) (E : XK) (t : TA) : TE := fun σ H Q => t σ H fun vs H1 => ∀ x dx, H1 x = none → H1 dx = none → dx ≠ x →
  sp (.ref x :: (vs ++ dvs)) (upd (upd H1 dx (.own x)) x (.ins C dx [])) (fun v H2 => v = .non ∧ Q (.ref x) H2) E

def Binds (K : PySem.W.Frag) (fd : FuncData) (ps : List Str) (ds : List Value) : Prop :=
  ∀ (s : Shared) (us : List Value), K.In s.heap → (us ++ ds).length = ps.length → BindsTo s fd ⟨us, []⟩ (ps.zip (us ++ ds))
theorem Binds.all {K : PySem.W.Frag} {fd : FuncData} {ps : List Str} (h : ∀ us : List Value, us.length = ps.length → bindArgs fd ⟨us, []⟩ = pure (ps.zip us)) : Binds K fd ps [] := fun s us _ hl => by
  rw [List.append_nil] at hl ⊢
  exact .of_eq (h us hl)

def Passes (CX : CXT) (X : Cx) (E : XK) : Prop := ∀ (pins : List (Addr × Obj)) (σ : St) (H : Hp) (s : Shared) (e : Value) (s' : Shared), Inv X pins σ H s → CX X.stack H s E e s' → X.xe e s'

section
variable {X : Cx} {CX : CXT} {k : Nat} {f C : Addr} {fd : FuncData} {ps : List Str} {sp : Sp} {dvs : List V} {ds : List Value} {E : XK} {x m : Str} {p pos apos : Pos} {e o : Expr} {es : List Expr} {ta : TE} {t : TA}

theorem run_fn {pins : List (Addr × Obj)} {σ : St} {H : Hp} {s : Shared} {Q : VK} {us : List Value} {vs : List V} (F : FnOk X.prog X.w X.K X.mg X.base CX k f fd ps sp) (hr : Room k X.A) (hb : Binds X.K fd ps ds) (hd : Vals dvs ds) (hx : Passes CX X E)
    (I : Inv X pins σ H s) (r : Vals vs us) (h : sp (vs ++ dvs) H Q E) : wpAny (model X.prog X.w) X.A (call (.ref f) us) (EP X pins σ Q) X.xe s := by
  have r2 : Vals (vs ++ dvs) (us ++ ds) := r.append hd
  have hl : (us ++ ds).length = ps.length := by rw [← r2.length]; exact F.len _ _ _ _ h
  refine wpAny_call (codeAny_mono (F.run X.A X.stack s H ⟨us, []⟩ (us ++ ds) (vs ++ dvs) Q E hr I.env0 (hb s us I.kIn hl) r2 h) fun r s' hq => ?_)
  cases r with
  | error e => exact hx pins σ H s e s' I hq
  | ok fl =>
    cases fl with
    | ret u => exact I.after hq
    | next => exact False.elim hq
    | brk => exact False.elim hq
    | cont => exact False.elim hq

theorem pe_call (F : FnOk X.prog X.w X.K X.mg X.base CX k f fd ps sp) (hr : Room k X.A) (hg : Gl X x) (hm : X.mg x = some (.ref f)) (hk : PySem.W.keepIn X.K (.ref f) = true) (hb : Binds X.K fd ps ds) (hd : Vals dvs ds) (hx : Passes CX X E)
    (ha : PA X (e :: es) t) (hdb : (x == ("__debug__" : Str)) = false := by decide) (he : starEach (e :: es) X.env = (false, eval e X.env) :: starEach es X.env := by rfl) (hpl : (backTo pos (starEach es X.env)).any (·.1) = false := by rfl) :
    PE X (.Call (.Name x p) (e :: es) [] pos) (tCall sp dvs E t) := by
  intro pins s σ H Q I h
  refine wpAny_Call_Name_kw (ld_glob I hg hm ?_ hdb)
  refine PySem.W.callWith_K (h₀ := X.base) I.ok.mod.kin hk (thn (ha pos pins s σ H _ I h) fun us s1 ⟨vs, H1, I1, r, q⟩ => ⟨I1.kIn, ?_⟩) he hpl
  exact run_fn F hr hb hd hx I1 r q
theorem pe_call0 (F : FnOk X.prog X.w X.K X.mg X.base CX k f fd ps sp) (hr : Room k X.A) (hg : Gl X x) (hm : X.mg x = some (.ref f)) (hk : PySem.W.keepIn X.K (.ref f) = true) (hb : Binds X.K fd ps ds) (hd : Vals dvs ds) (hx : Passes CX X E)
    (hdb : (x == ("__debug__" : Str)) = false := by decide) : PE X (.Call (.Name x p) [] [] pos) (tCall sp dvs E tNil) := by
  intro pins s σ H Q I h
  refine wpAny_Call_Name_kw (ld_glob I hg hm ?_ hdb)
  exact PySem.W.callWith_K0 I.kIn hk (run_fn (us := []) F hr hb hd hx I .nil h)

theorem pe_meth {pl : Sem Bool} (he : PE X o ta) (c : Cls X.K C) (hm : Meth X.K C m f) (F : FnOk X.prog X.w X.K X.mg X.base CX k f fd ps sp) (hr : Room k X.A) (hb : Binds X.K fd ps ds) (hd : Vals dvs ds) (hx : Passes CX X E) (ha : PA X (e :: es) t)
    (hst : starEach (e :: es) X.env = (false, eval e X.env) :: starEach es X.env := by rfl) (hpl : (backTo pos (starEach es X.env)).any (·.1) = false := by rfl)
    (ht : eval (.Call (.Attribute o m apos) (e :: es) [] pos) X.env = (do
      let ov ← eval o X.env
      standAt apos.atName
      let (f, first) ← holding [ov] (getMethod ov m pl)
      callWith pos f first (backTo pos (starEach (e :: es) X.env)) (backToKw pos (keywordEach [] X.env))) := by rfl) :
    PE X (.Call (.Attribute o m apos) (e :: es) [] pos) (tMeth C m sp dvs E ta t) := by
  intro pins s σ H Q I h
  refine PySem.W.methodCall_KW (pl := pl) (thn (he pins s σ H _ I h) fun u s1 ⟨x, H1, I1, rx, a, dx, fs, ex, ea, l, q⟩ => ?_) ht
  subst ex
  obtain rfl : u = Value.ref a := rx
  refine getmeth_ok I1 ea c hm l ?_
  refine PySem.W.callWith_K (first := [.ref a]) (h₀ := X.base) I.ok.mod.kin hm.kp (thn (ha pos pins s1 σ H1 _ I1 q) fun us s2 ⟨vs, H2, I2, r, q2⟩ => ⟨I2.kIn, ?_⟩) hst hpl
  exact run_fn (us := .ref a :: us) (vs := .ref a :: vs) F hr hb hd hx I2 (.cons rfl r) q2
theorem pe_meth0 {pl : Sem Bool} (he : PE X o ta) (c : Cls X.K C) (hm : Meth X.K C m f) (F : FnOk X.prog X.w X.K X.mg X.base CX k f fd ps sp) (hr : Room k X.A) (hb : Binds X.K fd ps ds) (hd : Vals dvs ds) (hx : Passes CX X E)
    (ht : eval (.Call (.Attribute o m apos) [] [] pos) X.env = (do
      let ov ← eval o X.env
      standAt apos.atName
      let (f, first) ← holding [ov] (getMethod ov m pl)
      callWith pos f first (backTo pos (starEach [] X.env)) (backToKw pos (keywordEach [] X.env))) := by rfl) :
    PE X (.Call (.Attribute o m apos) [] [] pos) (tMeth C m sp dvs E ta tNil) := by
  intro pins s σ H Q I h
  refine PySem.W.methodCall_KW (pl := pl) (thn (he pins s σ H _ I h) fun u s1 ⟨x, H1, I1, rx, a, dx, fs, ex, ea, l, q⟩ => ?_) ht
  subst ex
  obtain rfl : u = Value.ref a := rx
  refine getmeth_ok I1 ea c hm l ?_
  exact PySem.W.callWith_K0 (first := [.ref a]) I1.kIn hm.kp (run_fn (us := [.ref a]) (vs := [.ref a]) F hr hb hd hx I1 (.cons rfl .nil) q)

structure Mk (K : PySem.W.Frag) (C f : Addr) : Prop where
  makes : PySem.W.makesIn K C = true
  init : PySem.W.findIn K (.ref C) "__init__" = some (some (.ref f))
  fn : PySem.W.isFn K (.ref f) = true
  kp : PySem.W.keepIn K (.ref C) = true

theorem run_make {pins : List (Addr × Obj)} {σ : St} {H : Hp} {s : Shared} {Q : VK} {us : List Value} {vs : List V} (M : Mk X.K C f) (F : FnOk X.prog X.w X.K X.mg X.base CX k f fd ps sp) (hr : Room (k + 1) X.A) (hb : Binds X.K fd ps ds) (hd : Vals dvs ds)
    (hx : Passes CX X E) (I : Inv X pins σ H s) (r : Vals vs us)
    (h : ∀ x dx, H x = none → H dx = none → dx ≠ x → sp (.ref x :: (vs ++ dvs)) (upd (upd H dx (.own x)) x (.ins C dx [])) (fun v H2 => v = .non ∧ Q (.ref x) H2) E) :
    wpAny (model X.prog X.w) X.A (call (.ref C) us) (EP X pins σ Q) X.xe s := by
  have hq := h (s.heap.objs.size + 1) s.heap.objs.size (I.hok.fresh (Nat.le_succ _)) (I.hok.fresh (Nat.le_refl _)) (Nat.ne_of_lt (Nat.lt_succ_self _))
  have I2 := Inv.made (C := C) I
  have r2 : Vals (V.ref (s.heap.objs.size + 1) :: (vs ++ dvs)) (Value.ref (s.heap.objs.size + 1) :: (us ++ ds)) := .cons rfl (r.append hd)
  have hl : (Value.ref (s.heap.objs.size + 1) :: us ++ ds).length = ps.length := by
    have e := r2.length
    rw [F.len _ _ _ _ hq] at e
    exact e.symm
  refine wpAny_call (make_map (f := f) I.kIn M.makes M.init (beq_iff_eq.mp M.fn) (codeAny_mono (F.run _ X.stack _ _ ⟨Value.ref (s.heap.objs.size + 1) :: us, []⟩ (Value.ref (s.heap.objs.size + 1) :: (us ++ ds)) _ _ E (hr.make C us [])
    (I2.env0.make C us []) (hb _ (Value.ref (s.heap.objs.size + 1) :: us) I2.kIn hl) r2 hq) fun r s' hq' => ?_))
  cases r with
  | error e => exact hx pins σ _ _ e s' I2 hq'
  | ok fl =>
    cases fl with
    | ret u =>
      obtain ⟨v, H', I3, rv, ev, q3⟩ := I2.after hq'
      subst ev
      exact ⟨rv, ⟨V.ref (s.heap.objs.size + 1), H', I3, rfl, q3⟩⟩
    | next => exact False.elim hq'
    | brk => exact False.elim hq'
    | cont => exact False.elim hq'
theorem pe_make (M : Mk X.K C f) (F : FnOk X.prog X.w X.K X.mg X.base CX k f fd ps sp) (hr : Room (k + 1) X.A) (hg : Gl X x) (hm : X.mg x = some (.ref C)) (hb : Binds X.K fd ps ds) (hd : Vals dvs ds) (hx : Passes CX X E)
    (ha : PA X (e :: es) t) (hdb : (x == ("__debug__" : Str)) = false := by decide) (he : starEach (e :: es) X.env = (false, eval e X.env) :: starEach es X.env := by rfl) (hpl : (backTo pos (starEach es X.env)).any (·.1) = false := by rfl) :
    PE X (.Call (.Name x p) (e :: es) [] pos) (tMake C sp dvs E t) := by
  intro pins s σ H Q I h
  refine wpAny_Call_Name_kw (ld_glob I hg hm ?_ hdb)
  refine PySem.W.callWith_K (h₀ := X.base) I.ok.mod.kin M.kp (thn (ha pos pins s σ H _ I h) fun us s1 ⟨vs, H1, I1, r, q⟩ => ⟨I1.kIn, ?_⟩) he hpl
  exact run_make M F hr hb hd hx I1 r q
end

section
variable {X : Cx} {CX : CXT} {k : Nat} {f C : Addr} {fd : FuncData} {ps ks : List Str} {sp : Sp} {E : XK} {x m : Str} {p pos apos kpos : Pos} {e o : Expr} {es : List Expr} {kws : List Keyword} {te ta : TE} {t tk : TA} {nm : Option Str}
structure KBinds (K : PySem.W.Frag) (fd : FuncData) (ps ks : List Str) (g : List Value → List Value → List Value) (gV : List V → List V → List V) : Prop where
  to : ∀ (s : Shared) (us ws : List Value), K.In s.heap → (g us ws).length = ps.length → BindsTo s fd ⟨us, ks.zip ws⟩ (ps.zip (g us ws))
  rel : ∀ {vs : List V} {us : List Value} {zs : List V} {ws : List Value}, Vals vs us → Vals zs ws → Vals (gV vs zs) (g us ws)
variable {g : List Value → List Value → List Value} {gV : List V → List V → List V}
end

structure FnScope (N P : List Str) (sc : Scope) : Prop where
  kind : sc.kind = .function
  co : sc.isCoroutine = false
  gen : sc.isGenerator = false
  nd : N.Nodup
  pre : N.take P.length = P
  par : ∀ x ∈ P, sc.names.lookup x = some .local ∨ sc.names.lookup x = some .cell
  nofree : ∀ y ∈ sc.names, y.2 ≠ .free

theorem bindL_out {kindOf : Str → Option NameKind} {x : Str} : ∀ {binds : List (Str × Value)} {m : Str → Option Value}, (∀ v, (x, v) ∉ binds) → bindL kindOf binds m x = m x
  | [], _, _ => rfl
  | (n, v) :: r, m, h => by
    unfold bindL
    rw [bindL_out fun w hw => h w (List.mem_cons_of_mem _ hw)]
    split
    · have : x ≠ n := by rintro rfl; exact h v List.mem_cons_self
      simp [this]
    · rfl
theorem bindC_out {kindOf : Str → Option NameKind} {x : Str} : ∀ {binds : List (Str × Value)} {m : Str → Option Value}, (∀ v, (x, v) ∉ binds) → bindC kindOf binds m x = m x
  | [], _, _ => rfl
  | (n, v) :: r, m, h => by
    unfold bindC
    rw [bindC_out fun w hw => h w (List.mem_cons_of_mem _ hw)]
    split
    · rfl
    · have : x ≠ n := by rintro rfl; exact h v List.mem_cons_self
      simp [this]
theorem bindL_get {kindOf : Str → Option NameKind} {x : Str} {v : Value} : ∀ {P : List Str} {vs : List Value} {i : Nat} {m : Str → Option Value}, P.Nodup → P[i]? = some x → vs[i]? = some v → kindOf x = some .local →
    bindL kindOf (P.zip vs) m x = some v
  | [], _, _, _, _, h, _, _ => by simp at h
  | _ :: _, [], _, _, _, _, h, _ => by simp at h
  | p :: P, w :: vs, 0, m, nd, h1, h2, hk => by
    simp at h1 h2; subst h1; subst h2
    show bindL kindOf ((p, w) :: P.zip vs) m p = _
    unfold bindL
    rw [bindL_out fun v hv => (List.nodup_cons.mp nd).1 (List.of_mem_zip hv).1, if_pos hk]
    simp
  | p :: P, w :: vs, i + 1, m, nd, h1, h2, hk => by
    show bindL kindOf ((p, w) :: P.zip vs) m x = _
    unfold bindL
    exact bindL_get (i := i) (List.nodup_cons.mp nd).2 (by simpa using h1) (by simpa using h2) hk
theorem bindC_get {kindOf : Str → Option NameKind} {x : Str} {v : Value} : ∀ {P : List Str} {vs : List Value} {i : Nat} {m : Str → Option Value}, P.Nodup → P[i]? = some x → vs[i]? = some v → kindOf x ≠ some .local →
    bindC kindOf (P.zip vs) m x = some v
  | [], _, _, _, _, h, _, _ => by simp at h
  | _ :: _, [], _, _, _, _, h, _ => by simp at h
  | p :: P, w :: vs, 0, m, nd, h1, h2, hk => by
    simp at h1 h2; subst h1; subst h2
    show bindC kindOf ((p, w) :: P.zip vs) m p = _
    unfold bindC
    rw [bindC_out fun v hv => (List.nodup_cons.mp nd).1 (List.of_mem_zip hv).1, if_neg hk]
    simp
  | p :: P, w :: vs, i + 1, m, nd, h1, h2, hk => by
    show bindC kindOf ((p, w) :: P.zip vs) m x = _
    unfold bindC
    exact bindC_get (i := i) (List.nodup_cons.mp nd).2 (by simpa using h1) (by simpa using h2) hk

def start (N : List Str) (vs : List V) : St := vs.map some ++ List.replicate (N.length - vs.length) none

def cxOf (CX : CXT) (P : Program) (w : World) (K : PySem.W.Frag) (mg : Str → Option Value) (base : Heap) (N : List Str) (qual : Str) (scope : Scope) (f : Addr) (cd : Value) (A : Around) (outer : List Env) (s : Shared) (H : Hp) (E : XK) : Cx where
  prog := P
  w := w
  K := K
  mg := mg
  base := base
  A := A.deeper (envOfC qual scope s.heap.objs.size f cd)
  N := N
  s_0 := s
  H_0 := H
  env := envOfC qual scope s.heap.objs.size f cd
  outer := outer
  stack := envOfC qual scope s.heap.objs.size f cd :: outer
  ex := []
  calm := true
  fn := fun _ => true
  pn := []
  xe := fun e s' => wpAny (model P w) (A.deeper (envOfC qual scope s.heap.objs.size f cd)) (leaving (envOfC qual scope s.heap.objs.size f cd) e) (fun _ s'' => CX outer H s E e s'') (fun e' s'' => CX outer H s E e' s'') s'

theorem cell_has {sc : Scope} {n : Nat} {x : Str} (h : sc.names.lookup x = some .cell) : ∃ c, (cellsFrom n sc.names []).lookup x = some c := by
  have q := PySem.W.cellsFrom_some sc.names n [] (.inl h)
  exact Option.isSome_iff_exists.mp q

theorem inv_start {CX : CXT} {P : Program} {w : World} {K : PySem.W.Frag} {mg : Str → Option Value} {base : Heap} {N ps : List Str} {qual : Str} {scope : Scope} {f : Addr} {cd : Value} {A : Around} {outer : List Env} {s s1 : Shared} {H : Hp} {E : XK} {us : List Value} {vs : List V}
    (S : FnScope N ps scope) (hd : A.handled = none) (e0 : Env0 P w K mg base A outer s H) (hl : vs.length = ps.length) (r : Vals vs us)
    (x : InCallC s s.heap.objs.size (bindL (envOfC qual scope s.heap.objs.size f cd).kindOf (ps.zip us) fun _ => none) (cellsFrom (s.heap.objs.size + 1) scope.names []) (bindC (envOfC qual scope s.heap.objs.size f cd).kindOf (ps.zip us) fun _ => none) s1) :
    Inv (cxOf CX P w K mg base N qual scope f cd A outer s H E) [] (start N vs) H s1 := by
  have hpl : ps.length ≤ N.length := by have := congrArg List.length S.pre; rw [List.length_take] at this; omega
  obtain ⟨h1, tk, rfl, hk⟩ := x.done
  have noA : ∀ b : Addr, b ∉ (cxOf CX P w K mg base N qual scope f cd A outer s H E).ex := fun b z => absurd (show b ∈ ([] : List Addr) from z) (by simp)
  refine ⟨⟨e0.mod, S.kind, rfl, rfl, Nat.le_refl _, fun y z c h1 h2 => ?_, fun y hy => ?_, fun y c _ h => ?_, fun _ => hd, Around.frames_deeper e0.frames, .inr ⟨rfl, rfl⟩, fun b z => absurd z (noA b), e0.bs, e0.bsz, fun b _ _ => noA b, fun b z => absurd z (noA b), e0.funs, e0.frf⟩,
    rfl, e0.bare, Un.kept hk, ⟨_, x.toInCall.ns, fun i y v h1 h2 h3 => ?_⟩, fun y c h => ⟨_, x.cell y c h⟩, e0.hok.fresh (Nat.le_refl _), fun y c h => ?_, fun p hp => absurd (show p ∈ ([] : List (Addr × Obj)) from hp) (by simp), e0.hok.kept hk, ?_⟩
  · exact name_of_addr x.apart (PySem.mem_of_lookup h1) (PySem.mem_of_lookup h2)
  · have hy : scope.names.lookup y = some .cell ∨ scope.names.lookup y = some .free := hy
    rcases hy with hy | hy
    · exact cell_has hy
    · exact absurd rfl (S.nofree _ (PySem.mem_of_lookup hy))
  · exact Nat.le_of_lt (x.above y c (PySem.mem_of_lookup h))
  · have hi : i < vs.length := by
      unfold start at h2
      by_cases hi : i < vs.length
      · exact hi
      · rw [List.getElem?_append_right (by simpa using hi)] at h2
        rw [List.getElem?_replicate] at h2
        split at h2 <;> cases h2
    have ha : vs[i]? = some v := by
      unfold start at h2
      rw [List.getElem?_append_left (by simpa using hi), List.getElem?_map] at h2
      cases e : vs[i]? with
      | none => rw [e] at h2; cases h2
      | some a => rw [e] at h2; cases h2; rfl
    obtain ⟨u, hu, rv⟩ := r.get ha
    have hp : ps[i]? = some y := by
      rw [← S.pre, List.getElem?_take_of_lt (by omega)]; exact h1
    have ndP : ps.Nodup := by rw [← S.pre]; exact S.nd.sublist (List.take_sublist _ _)
    refine ⟨u, rv, ?_⟩
    rcases S.par y (List.mem_of_getElem? hp) with k | k
    · exact .inl ⟨k, bindL_get ndP hp hu k⟩
    · obtain ⟨c, e⟩ := cell_has (n := s.heap.objs.size + 1) k
      refine .inr ⟨.inl k, c, e, ?_⟩
      have q := x.cell y c e
      rw [bindC_get ndP hp hu (by show scope.names.lookup y ≠ _; rw [k]; decide)] at q
      exact q
  · exact e0.hok.fresh (Nat.le_of_lt (x.above y c (PySem.mem_of_lookup h)))
  · unfold start
    show _ = N.length
    rw [List.length_append, List.length_map, List.length_replicate]
    omega

theorem fn_of {CX : CXT} {P : Program} {w : World} {K : PySem.W.Frag} {mg : Str → Option Value} {base : Heap} {k : Nat} {f : Addr} {name qual : Str} {params : Arguments} {body : List Stmt} {scope : Scope} {dV kV doc pm cdv ct oc : Value} {an od : Option Addr}
    {osl : Array (Option Value)} {N ps : List Str} {sp : Sp} (lk : K.lookup f = some ⟨oc, od, .func (PySem.W.fnOf name qual params body scope dV kV doc pm an cdv ct), osl⟩) (hcd : PySem.W.codeIn K cdv qual = true) (S : FnScope N ps scope)
    (len : ∀ vs H Q E, sp vs H Q E → vs.length = ps.length)
    (hbody : ∀ (A : Around) (outer : List Env) (s : Shared) (H : Hp) (vs : List V) (Q : VK) (E : XK), Room k (A.deeper (envOfC qual scope s.heap.objs.size f cdv)) → sp vs H Q E →
      ∃ t, PSs (cxOf CX P w K mg base N qual scope f cdv A outer s H E) body t ∧ t { nx := fun _ H' => Q .non H', rt := Q } (start N vs) H) :
    FnOk P w K mg base CX (k + 1) f (PySem.W.fnOf name qual params body scope dV kV doc pm an cdv ct) ps sp := by
  refine ⟨len, fun A outer s H args us vs Q E hr e0 hb r hsp => ?_⟩
  have hl := len _ _ _ _ hsp
  have KX : K.In s.heap := e0.mod.kin.keeps fun b o e => (e0.bs b o e).1
  have lim : s.heap.NoLimit := e0.mod.nolimit.keeps fun b o e => (e0.bs b o e).1
  have hkind : ∀ y ∈ ps.zip us, scope.names.lookup y.1 = some .local ∨ (scope.names.lookup y.1 = some .cell ∧ ((cellsFrom (s.heap.objs.size + 1) scope.names []).lookup y.1).isSome = true) := fun ⟨n, v⟩ hy => by
    rcases S.par n (List.of_mem_zip hy).1 with q | q
    · exact .inl q
    · exact .inr ⟨q, PySem.W.cellsFrom_some _ _ _ (.inl q)⟩
  refine codeAny_call_function hr.depth (KX _ _ lk) rfl S.co S.gen rfl (PySem.W.codeRec_of KX hcd) (hb _ _ _ _ ?_)
  refine wpAny_newFunctionEnv_cells S.kind hkind fun env he s1 x => ?_
  subst he
  refine ⟨lim.keeps x.toInCall.keep, codeAny_func ?_⟩
  obtain ⟨t, ht, hq⟩ := hbody A outer s H vs Q E (hr.deeper _) hsp
  have I : Inv (cxOf CX P w K mg base N qual scope f cdv A outer s H E) [] (start N vs) H s1 := inv_start S hr.hd e0 hl r x
  refine wpAny_mono (ht [] s1 (start N vs) H _ I hq) (fun fl s' hs => ?_) fun e s' hs => hs
  have fin : ∀ {σ' : St} {H' : Hp} {v : V} {u : Value}, Inv (cxOf CX P w K mg base N qual scope f cdv A outer s H E) [] σ' H' s' → RelV v u → Q v H' → CE outer P w H s Q u s' :=
    fun {σ' H' v u} J rv q => ⟨v, H', J.os, J.bare, J.base, J.hok, rv, q⟩
  cases fl with
  | ret u =>
    obtain ⟨v, σ', H', J, rv, q⟩ := hs
    exact fin J rv q
  | next =>
    obtain ⟨σ', H', J, q⟩ := hs
    exact fin (v := V.non) (u := Value.none) J rfl q
  | brk =>
    obtain ⟨_, _, _, q⟩ := hs
    exact False.elim q
  | cont =>
    obtain ⟨_, _, _, q⟩ := hs
    exact False.elim q
end L2

namespace L2
open PySem PySem.Spec PyProof.Rows
section
variable {X : Cx} {x : Str} {p pos : Pos} {e : Expr} {es : List Expr} {t : TA} {id T : String} {r : List V → Hp → VK → Prop}

def tCB (r : List V → Hp → VK → Prop) (t : TA) : TE := fun σ H Q => t σ H fun vs H1 => r vs H1 Q
theorem pe_callB (hc : CallR X (.builtin id) r) (hg : Gl X x) (hm : X.mg x = none) (hv : bootBuiltins x = some (.builtin id)) (ha : PA X (e :: es) t) (hn : x ≠ "__name__" := by decide) (hdb : (x == ("__debug__" : Str)) = false := by decide)
    (he : starEach (e :: es) X.env = (false, eval e X.env) :: starEach es X.env := by rfl) (hpl : (backTo pos (starEach es X.env)).any (·.1) = false := by rfl) : PE X (.Call (.Name x p) (e :: es) [] pos) (tCB r t) := by
  intro pins s σ H Q I h
  refine wpAny_Call_Name_kw (ld_blt I hg hm hv ?_ hn hdb)
  exact PyProof.Rows.callWith_builtin1 (thn (ha pos pins s σ H _ I h) fun us s1 ⟨vs, H1, I1, r1, q1⟩ => hc pins s1 σ H1 vs us Q I1 r1 q1) he hpl
end
end L2

namespace HT
open PySem PyProof.Rows

section
open PySem.SeqAt
open PySem.AutoSeq1 (wpAny_loadPart')
open PySem.MeetsSeq PySem.MeetsSeq2 PySem.MeetsSeq3

end

section
variable {prog : Program} {w : World} {A : Around} {E : Value → Shared → Prop} {s : Shared}

end
end HT

namespace L2
open PySem PySem.Spec PyProof.Rows

abbrev TO := St → Hp → (Option Int → Hp → Prop) → Prop
section
variable {X : Cx} {e : Expr} {te : TE} {lo hi : Option Expr} {tl th : TO} {pos p2 : Pos}

end
end L2

namespace L2
open PySem PySem.Spec PyProof.Rows

def ixN (n : Nat) (i : Int) : Option Nat := if 0 ≤ i then (if i < n then some i.toNat else none) else if -(n : Int) ≤ i then some (i + n).toNat else none
def atI {α : Type} (xs : List α) (i : Int) : Option α := (ixN xs.length i).bind fun j => xs[j]?
theorem ixN_seq {n : Nat} {i : Int} {j : Nat} (h : ixN n i = some j) : seqIndex? i n = some j ∧ j < n ∧ -(n : Int) ≤ i ∧ i < n := by
  unfold ixN at h
  by_cases h0 : 0 ≤ i
  · rw [if_pos h0] at h
    by_cases h1 : i < n
    · rw [if_pos h1] at h
      have e : i.toNat = j := Option.some.inj h
      exact ⟨by rw [seqIndex_of h0 h1, e], by omega, by omega, h1⟩
    · rw [if_neg h1] at h; cases h
  · rw [if_neg h0] at h
    by_cases h1 : -(n : Int) ≤ i
    · rw [if_pos h1] at h
      have e : (i + n).toNat = j := Option.some.inj h
      exact ⟨by rw [seqIndex_neg (by omega) h1, e], by omega, h1, by omega⟩
    · rw [if_neg h1] at h; cases h
theorem atI_get {α : Type} {xs : List α} {i : Int} {v : α} (h : atI xs i = some v) : ∃ j, seqIndex? i xs.length = some j ∧ xs[j]? = some v ∧ j < xs.length ∧ -(xs.length : Int) ≤ i ∧ i < xs.length := by
  unfold atI at h
  cases e : ixN xs.length i with
  | none => rw [e] at h; cases h
  | some j =>
    rw [e] at h
    obtain ⟨h1, h2, h3, h4⟩ := ixN_seq e
    exact ⟨j, h1, h, h2, h3, h4⟩
theorem atI_nat {α : Type} {xs : List α} {j : Nat} {v : α} (h : xs[j]? = some v) : atI xs (j : Int) = some v := by
  have hj : j < xs.length := (List.getElem?_eq_some_iff.mp h).1
  have e : ixN xs.length (j : Int) = some j := by
    unfold ixN
    rw [if_pos (by omega), if_pos (by omega)]; simp
  unfold atI; rw [e]; exact h
def PlainIx (b : Expr) : Prop := ∀ o i, subscripted b false o i = operate [o, i] (getItem o i)
def IxR (X : Cx) (r : R2) : Prop :=
  ∀ (value slice : Expr) (pins : List (Addr × Obj)) (s : Shared) (σ : St) (H : Hp) (x y : V) (v u : Value) (Q : VK), Inv X pins σ H s → RelV x v → RelV y u → r x y H Q →
    subscripted slice false v u = operate [v, u] (getItem v u) → wpAny (model X.prog X.w) X.A (subscriptTail value slice v u) (EP X pins σ Q) X.xe s
def MtR (X : Cx) (id : String) (r : V → List V → Hp → VK → Prop) : Prop :=
  ∀ (pins : List (Addr × Obj)) (s : Shared) (σ : St) (H : Hp) (x : V) (xs : List V) (v : Value) (us : List Value) (Q : VK), Inv X pins σ H s → RelV x v → Vals xs us → r x xs H Q →
    wpAny (model X.prog X.w) X.A (call (.builtin id) (v :: us)) (EP X pins σ Q) X.xe s
section
variable {X : Cx} {a b : Expr} {ta tb : TE} {pos : Pos}
theorem pe_ix {r : R2} (hr : IxR X r) (ha : PE X a ta) (hb : PE X b tb) (hs : PlainIx b) : PE X (.Subscript a b pos) (tOp r ta tb) := by
  intro pins s σ H Q I h
  exact Subscript_ (binT ha hb I h fun v u s2 x y H2 I2 rx ry q => hr a b pins s2 σ H2 x y v u Q I2 rx ry q (hs _ _))

def rIxL (K : PySem.W.Frag) : R2 := fun x y H Q => ∃ p xs i v, x = .ref p ∧ y = .int i ∧ SqL K H p xs ∧ atI xs i = some v ∧ Q v H
def rIxT (K : PySem.W.Frag) : R2 := fun x y H Q => ∃ p xs i v, x = .ref p ∧ y = .int i ∧ SqT K H p xs ∧ atI xs i = some v ∧ Q v H
theorem ix_list : IxR X (rIxL X.K) := by
  intro value slice pins s σ H x y v u Q I rx ry h hs
  obtain ⟨p, xs, i, z, rfl, rfl, hq, he, q⟩ := h
  cases rx
  obtain ⟨t, rfl⟩ := ry
  obtain ⟨its, r, pl, hz⟩ := I.list hq
  obtain ⟨j, h1, h2, h3, h4, h5⟩ := atI_get he
  obtain ⟨w, ew, rw'⟩ := r.get h2
  have hl := r.length
  have hn := line63
  have fin : EP X pins σ Q w s := ⟨z, H, I, rw', q⟩
  by_cases h0 : 0 ≤ i
  · have hj : i.toNat = j := by
      rw [seqIndex_of h0 h5] at h1
      exact Option.some.inj h1
    exact item_listR pl.isList h0 (by omega) (by rw [hj]; simpa using ew) fin hs
  · have hj : (i + (its.toArray.size : Int)).toNat = j := by
      rw [seqIndex_neg (by omega) h4] at h1
      rw [List.size_toArray, ← hl]
      exact Option.some.inj h1
    exact subscriptTail_builtinR (x := w) pl.isList.typeIs slot_list_getitem.lookup
      (wpAny_getItem_list_neg (Q := fun r s' => r = w ∧ EP X pins σ Q r s') pl.isList (by omega) (by rw [List.size_toArray] <;> omega) (by omega) (by rw [hj]; simpa using ew) ⟨rfl, fin⟩) hs
theorem ix_tup : IxR X (rIxT X.K) := by
  intro value slice pins s σ H x y v u Q I rx ry h hs
  obtain ⟨p, xs, i, z, rfl, rfl, hq, he, q⟩ := h
  cases rx
  obtain ⟨t, rfl⟩ := ry
  obtain ⟨its, r, pl, hz⟩ := I.tuple hq
  obtain ⟨j, h1, h2, h3, h4, h5⟩ := atI_get he
  obtain ⟨w, ew, rw'⟩ := r.get h2
  have hl := r.length
  have hn := line63
  have fin : EP X pins σ Q w s := ⟨z, H, I, rw', q⟩
  exact subscriptTail_builtinR (x := w) pl.typeIs slot_tuple_getitem.lookup
    (getItem_tuple (j := j) (Q := fun r s' => r = w ∧ EP X pins σ Q r s') pl (by omega) (by omega) (by rw [List.size_toArray, ← hl]; exact h1) (by simpa using ew) ⟨rfl, fin⟩) hs
theorem call_len_seq : CallR X (.builtin "len") (fun xs H Q => ∃ p ys, xs = [.ref p] ∧ (SqL X.K H p ys ∨ SqT X.K H p ys) ∧ Q (.int ys.length) H) := by
  intro pins s σ H xs us Q I r h
  obtain ⟨p, ys, rfl, hq, q⟩ := h
  obtain ⟨u, rfl, rx⟩ := vals1 r
  cases rx
  have hn := line63
  rcases hq with hq | hq
  · obtain ⟨its, r', pl, hz⟩ := I.list hq
    have hlen := r'.length
    exact Calls.call_len_list pl.isList (by simp only [List.size_toArray] <;> omega) ⟨.int ys.length, H, I.tok _, ⟨s.toks + 1, by rw [List.size_toArray, hlen]⟩, q⟩
  · obtain ⟨its, r', pl, hz⟩ := I.tuple hq
    have hlen := r'.length
    exact len_tuple pl (by simp only [List.size_toArray] <;> omega) ⟨.int ys.length, H, I.tok _, ⟨s.toks + 1, by rw [List.size_toArray, hlen]⟩, q⟩
def tyV (K : PySem.W.Frag) (T : String) (x : V) (H : Hp) : Prop := match x with
  | .str _ => T = "str"
  | .int _ => T = "int"
  | .ref p => (T = "list" ∧ ∃ xs, SqL K H p xs) ∨ (T = "tuple" ∧ ∃ o, K.lookup p = some o ∧ o.cls = .type "tuple" ∧ o.dict = none) ∨
      (T = "dict" ∧ ((∃ kvs, H p = some (.dK kvs)) ∨ ∃ kvs, H p = some (.dT kvs))) ∨ (T = "set" ∧ ∃ S n, H p = some (.set S n))
  | _ => False
theorem tyV_is {pins : List (Addr × Obj)} {σ : St} {H : Hp} {s : Shared} {T : String} {x : V} {v : Value} (I : Inv X pins σ H s) (r : RelV x v) (ty : tyV X.K T x H) :
    s.TypeIs v T ∧ ∀ a, v = .ref a → ∃ ob, s.heap.get? a = some ob ∧ ob.dict = none := by
  cases x with
  | str z =>
    obtain ⟨t, rfl⟩ := r
    cases (show T = "str" from ty)
    exact ⟨typeIs_str s z t, fun _ e => nomatch e⟩
  | int i =>
    obtain ⟨t, rfl⟩ := r
    cases (show T = "int" from ty)
    exact ⟨typeIs_int s i t, fun _ e => nomatch e⟩
  | ref p =>
    cases r
    rcases ty with ⟨rfl, xs, hq⟩ | ⟨rfl, o, hk, hc, hd⟩ | ⟨rfl, hk⟩ | ⟨rfl, S, n, hk⟩
    · obtain ⟨its, _, pl, _⟩ := I.list hq
      refine ⟨pl.isList.typeIs, fun a e => ?_⟩
      cases e
      obtain ⟨o, n, e, c, hd, _⟩ := pl
      exact ⟨o, e, hd⟩
    · refine ⟨⟨o, I.kIn p o hk, hc⟩, fun a e => ?_⟩
      cases e
      exact ⟨o, I.kIn _ o hk, hd⟩
    · have z : ∃ o, s.heap.get? p = some o ∧ o.ExactDict := by
        rcases hk with ⟨kvs, hk⟩ | ⟨kvs, hk⟩
        · obtain ⟨_, _, _, _, o, _, _, e, ex, _⟩ := I.hok p _ hk
          exact ⟨o, e, ex⟩
        · obtain ⟨_, _, _, _, o, _, _, e, ex, _⟩ := I.hok p _ hk
          exact ⟨o, e, ex⟩
      obtain ⟨o, e, ex⟩ := z
      refine ⟨⟨o, e, ex.1⟩, fun a e2 => ?_⟩
      cases e2
      exact ⟨o, e, ex.2.1⟩
    · obtain ⟨o, _, _, _, e, ex, _⟩ := I.hok p _ hk
      refine ⟨⟨o, e, ex.1⟩, fun a e2 => ?_⟩
      cases e2
      exact ⟨o, e, ex.2.1⟩
  | _ => exact False.elim ty
def tBM (K : PySem.W.Frag) (T : String) (r : V → List V → Hp → VK → Prop) (to : TE) (t : TA) : TE := fun σ H Q => to σ H fun x H1 => tyV K T x H1 ∧ t σ H1 fun xs H2 => r x xs H2 Q
variable {o e : Expr} {es : List Expr} {to : TE} {t : TA} {name : Str} {apos cpos : Pos} {T id : String} {r : V → List V → Hp → VK → Prop}
theorem pe_bm (pa : PlainAttrs T) (slot : Slot T name id) (hty : typeOf (.builtin id) = pure (.type "method_descriptor")) (hm : MtR X id r) (ho : PE X o to) (ha : PA X (e :: es) t)
    (hbase : attributeBase o name X.env (eval o X.env) = eval o X.env := by rfl)
    (hfew : ((backTo cpos (starEach (e :: es) X.env)).all (fun x => !x.1) && (backToKw cpos (keywordEach [] X.env)).all (fun x => x.1.isSome)
      && decide ((e :: es).length + ([] : List Keyword).length + (if ([] : List Keyword).isEmpty then 0 else 1) < 30)) = true := by rfl)
    (hline : (apos.endLine == cpos.line) = true := by rfl) (hs : starEach (e :: es) X.env = (false, eval e X.env) :: starEach es X.env := by rfl) (hplain : (backTo cpos (starEach es X.env)).any (·.1) = false := by rfl) :
    PE X (.Call (.Attribute o name apos) (e :: es) [] cpos) (tBM X.K T r to t) := by
  intro pins s σ H Q I h
  refine wpAny_Call_method_late hbase hfew hline rfl (thn (ho pins s σ H _ I h) fun v s1 ⟨x, H1, I1, r1, ty, q1⟩ => ?_)
  obtain ⟨h1, h2⟩ := tyV_is I1 r1 ty
  refine ⟨T, id, pa, slot, hty, h1, h2, ?_⟩
  have hA := ha cpos pins s1 σ H1 _ I1 q1
  rw [hs] at hA ⊢
  refine Calls.callWith_builtin (by show (false || (backTo cpos (starEach es X.env)).any (·.1)) = false; rw [hplain] <;> rfl) (Calls.evalArgs_plain ?_)
  exact thn hA fun us s2 ⟨vs, H2, I2, r2, q2⟩ => hm pins s2 σ H2 x vs v us Q I2 r1 r2 q2
/- xs.append(e), list.index on a module's tuple .. are MtR facts of 06m -/
end
end L2

namespace L2
open PySem PySem.Spec PyProof.Rows

def MtM (X : Cx) (id : String) (r : V → List V → Hp → VK → Prop) : Prop :=
  ∀ (pins : List (Addr × Obj)) (s : Shared) (σ : St) (H : Hp) (x : V) (xs : List V) (v : Value) (us : List Value) (Q : VK), Inv X pins σ H s → RelV x v → Vals xs us → r x xs H Q →
    wpAny (model X.prog X.w) X.A (call (.builtin id) (v :: us)) (EP X pins σ Q) X.xe s

theorem Vals.one : ∀ {x : V} {us : List Value}, Vals [x] us → ∃ u, us = [u] ∧ RelV x u
  | _, _, .cons r .nil => ⟨_, rfl, r⟩
theorem Vals.rep {xs : List V} {us : List Value} (h : Vals xs us) : ∀ k : Nat, Vals (List.replicate k xs).flatten (List.replicate k us).flatten
  | 0 => .nil
  | k + 1 => by
    rw [List.replicate_succ, List.replicate_succ, List.flatten_cons, List.flatten_cons]
    exact Vals.append h (Vals.rep h k)
theorem foldl_rep (its : List Value) : ∀ (k : Nat) (acc : List Value),
    List.foldl (fun x1 x2 => x1 ++ x2) acc.toArray (List.replicate k its.toArray) = (acc ++ (List.replicate k its).flatten).toArray
  | 0, acc => by simp
  | k + 1, acc => by
    have e : acc.toArray ++ its.toArray = (acc ++ its).toArray := by simp
    have e2 : (acc ++ its) ++ (List.replicate k its).flatten = acc ++ (List.replicate (k + 1) its).flatten := by
      rw [List.replicate_succ, List.flatten_cons, List.append_assoc]
    rw [← e2, ← foldl_rep its k (acc ++ its), ← e, List.replicate_succ, List.foldl_cons]

section
variable {X : Cx} {pins : List (Addr × Obj)} {σ : St} {H : Hp} {s : Shared} {l b : Addr} {xs ys zs : List V}

theorem Inv.lset {its its' : List Value} {n : Nat} {f : Array Value → Array Value} {t' : Nat} (I : Inv X pins σ H s) (hH : H l = some (.lst xs))
    (e : s.heap.get? l = some { cls := .type "list", data := .seq its.toArray n }) (hf : f its.toArray = its'.toArray) (hv : Vals ys its') (hz : ys.length ≤ sizeLine) :
    Inv X pins σ (upd H l (.lst ys)) { s with heap := s.heap.update l (Obj.mapSeq f), toks := t' } := by
  have q := PySem.IsL.update e f
  rw [hf] at q
  refine I.write (x := l) (e := l) (by rw [hH]; exact trivial) (.inl rfl) (fun b' u hb hu => (Heap.get?_update_other s.heap (Obj.mapSeq f) (Ne.symm hb)).trans hu) ⟨_, q⟩ ?_
  exact ⟨hz, its', _, hv, q⟩
theorem Inv.lnew {its : List Value} {t' : Nat} (I : Inv X pins σ H s) (hv : Vals ys its) (hz : ys.length ≤ sizeLine) :
    Inv X pins σ (upd H s.heap.objs.size (.lst ys)) { s with heap := s.heap.push { cls := .type "list", data := .seq its.toArray }, toks := t' } :=
  I.laid (fun _ _ q => Heap.get?_push_of_some _ q) (Nat.le_refl _) ⟨hz, its, 0, hv, Heap.get?_push_size _ rfl⟩
theorem Inv.fresh (I : Inv X pins σ H s) : H s.heap.objs.size = none := I.hok.fresh (Nat.le_refl _)
theorem Inv.lstM (I : Inv X pins σ H s) (hH : H l = some (.lst xs)) : xs.length ≤ sizeLine ∧ ∃ (its : List Value) (n : Nat), Vals xs its ∧ xs.length = its.length ∧ s.heap.get? l = some { cls := .type "list", data := .seq its.toArray n } := by
  obtain ⟨z, its, n, r, e⟩ := I.hok l _ hH
  exact ⟨z, its, n, r, r.length, e⟩

theorem notLongL {n : Nat} (h : n ≤ sizeLine) : Builtin.List.listTooLong n = false := by
  unfold Builtin.List.listTooLong
  exact decide_eq_false (by omega)
end

section
variable {X : Cx}

def rAppend : V → List V → Hp → VK → Prop := fun x vs H Q => ∃ l xs y, x = .ref l ∧ vs = [y] ∧ H l = some (.lst xs) ∧ xs.length < sizeLine ∧ Q .non (upd H l (.lst (xs ++ [y])))
theorem mt_append : MtM X "list.append" rAppend := by
  intro pins s σ H x vs v us Q I rx rv h
  obtain ⟨l, xs, y, rfl, rfl, hH, hz, q⟩ := h
  cases rx
  obtain ⟨u, rfl, ru⟩ := rv.one
  obtain ⟨z, its, n, r, hl, e⟩ := I.lstM hH
  refine call_meets F.slot_list_append ⟨_, e, rfl⟩ F.entry_list_append (F.args_list_append_2 _ _) (PySem.list_append l its.toArray n u (by rw [List.size_toArray]; omega)) ⟨e, ?_⟩
  refine ⟨.non, _, I.lset (its' := its ++ [u]) hH e (by simp) (r.append (.cons ru .nil)) ?_, rfl, q⟩
  rw [List.length_append, List.length_singleton]
  omega

def rExtend : V → List V → Hp → VK → Prop := fun x vs H Q => ∃ l b xs zs, x = .ref l ∧ vs = [.ref b] ∧ H l = some (.lst xs) ∧ H b = some (.lst zs) ∧ xs.length + zs.length ≤ sizeLine ∧ Q .non (upd H l (.lst (xs ++ zs)))
theorem mt_extend : MtM X "list.extend" rExtend := by
  intro pins s σ H x vs v us Q I rx rv h
  obtain ⟨l, b, xs, zs, rfl, rfl, hH, hB, hz, q⟩ := h
  cases rx
  obtain ⟨u, rfl, ru⟩ := rv.one
  cases ru
  obtain ⟨z, its, n, r, hl, e⟩ := I.lstM hH
  obtain ⟨z2, its2, n2, r2, hl2, e2⟩ := I.lstM hB
  have hsz : its.toArray.size + its2.toArray.size ≤ sizeLine := by rw [List.size_toArray, List.size_toArray]; omega
  have hlong : ¬ (!its.toArray.isEmpty && Builtin.List.listTooLong (its.toArray.size + its2.toArray.size)) = true := by
    rw [notLongL hsz, Bool.and_false]
    exact Bool.false_ne_true
  refine call_meets F.slot_list_extend ⟨_, e, rfl⟩ F.entry_list_extend (F.args_list_extend_2 _ _)
    (AutoSeq1.list_extend_list_list_0 l its.toArray n b its2.toArray n2 hlong (by rw [List.size_toArray]; omega) (by omega)) ⟨e, e2, ?_⟩
  refine ⟨.non, _, I.lset (its' := its ++ its2) hH e (by simp) (r.append r2) ?_, rfl, q⟩
  rw [List.length_append]
  omega

def rRep : R2 := fun x y H Q => ∃ l k xs, x = .ref l ∧ y = .int k ∧ H l = some (.lst xs) ∧ -(2 ^ 63) ≤ k ∧ k < 2 ^ 63 ∧ xs.length * k.toNat ≤ sizeLine ∧
  ∀ p, H p = none → Q (.ref p) (upd H p (.lst (List.replicate k.toNat xs).flatten))
theorem len_rep {α : Type} (xs : List α) (k : Nat) : (List.replicate k xs).flatten.length = k * xs.length := by
  induction k with
  | zero => simp
  | succ k ih => rw [List.replicate_succ, List.flatten_cons, List.length_append, ih, Nat.succ_mul, Nat.add_comm]
theorem op_rep : OpR X (binaryOp .Mult) rRep := by
  intro pins s σ H x y v u Q I rx ry h
  obtain ⟨l, k, xs, rfl, rfl, hH, h1, h2, hz, q⟩ := h
  cases rx
  obtain ⟨t, rfl⟩ := ry
  obtain ⟨z, its, n, r, hl, e⟩ := I.lstM hH
  have hlen : its.toArray.size * k.toNat ≤ sizeLine := by rw [List.size_toArray, ← hl]; exact hz
  have hcap : ¬ its.toArray.size * k.toNat > (2 ^ 63 - 1) / 8 := by
    have : (sizeLine : Nat) ≤ (2 ^ 63 - 1) / 8 := by decide
    omega
  have hfit : ¬ (!Builtin.List.listFitsIndex k) = true := by
    rw [fitsIndex_both h1 h2]
    exact Bool.false_ne_true
  have hlong : ¬ Builtin.List.listTooLong (its.toArray.size * k.toNat) = true := by
    rw [notLongL hlen]
    exact Bool.false_ne_true
  have hnew : List.foldl (fun x1 x2 => x1 ++ x2) #[] (List.replicate (if its.toArray.isEmpty = true then 0 else k.toNat) its.toArray) = (List.replicate k.toNat its).flatten.toArray := by
    have f0 : ∀ m : Nat, List.foldl (fun x1 x2 => x1 ++ x2) #[] (List.replicate m its.toArray) = (List.replicate m its).flatten.toArray := fun m => by
      have := foldl_rep its m []
      rw [List.nil_append] at this
      exact this
    rw [f0]
    cases its with
    | nil => simp
    | cons a r' => rw [if_neg (by simp)]
  refine wpAny_binaryOp_repeat_ref (T := "list") (U := "int") (by decide) ⟨_, e, rfl⟩ (fun s' => typeIs_int s' k t) noFill_list_mul F.fills_int_mul F.slot_int_rmul repeat_list F.slot_int_index.lookup
    (call_meets F.slot_int_rmul (typeIs_int s k t) F.entry_int_rmul (F.args_int_rmul_2 _ _) (int___rmul___int_list k t l its.toArray n)
      ⟨e, rfl, ⟨_, e, rfl⟩, call_meets F.slot_list_mul ⟨_, e, rfl⟩ F.entry_list_mul (F.args_list_mul_2 _ _) (AutoListH.list___mul___list_int_3 l its.toArray n k t hfit hcap hlong) ⟨e, ?_⟩⟩)
  rw [hnew]
  exact ⟨.ref _, _, I.lnew (t' := s.toks) (r.rep k.toNat) (by rw [len_rep, Nat.mul_comm]; exact hz), rfl, q _ I.fresh⟩

end

section
variable {prog : Program} {w : World} {A : Around} {E : Value → Shared → Prop} {s : Shared}
set_option maxRecDepth 100000 in
end

section
variable {X : Cx}
end
end L2

namespace L2
open PySem PySem.Spec PyProof.Rows

section
variable {prog : Program} {w : World} {A : Around} {E : Value → Shared → Prop} {s : Shared} {l : Addr} {its : List Value} {ns : List Int} {Q : Value → Shared → Prop}
end

section
variable {X : Cx}
end

section
variable {X : Cx}
end

section
variable {X : Cx}
end

section
variable {X : Cx}
end

mutual
inductive Dp (K : PySem.W.Frag) (H : Hp) : V → PyData → Prop
  | non : Dp K H .non .none
  | bl (b : Bool) : Dp K H (.bl b) (.bool b)
  | int (i : Int) : Dp K H (.int i) (.int i)
  | str (x : Str) : Dp K H (.str x) (.str x)
  | lst {a : Addr} {xs : List V} {ds : List PyData} : SqL K H a xs → DpAll K H xs ds → Dp K H (.ref a) (.list ds)
  | tup {a : Addr} {xs : List V} {ds : List PyData} : SqT K H a xs → DpAll K H xs ds → Dp K H (.ref a) (.tuple ds)
inductive DpAll (K : PySem.W.Frag) (H : Hp) : List V → List PyData → Prop
  | nil : DpAll K H [] []
  | cons {v : V} {vs : List V} {d : PyData} {ds : List PyData} : Dp K H v d → DpAll K H vs ds → DpAll K H (v :: vs) (d :: ds)
end
section
variable {X : Cx} {pins : List (Addr × Obj)} {σ : St} {H : Hp} {s : Shared}
mutual
theorem Dp.reads (I : Inv X pins σ H s) : ∀ (d : PyData) (v : V) (u : Value), Dp X.K H v d → RelV v u → ∃ as, Reads s.heap u d as
  | .none, _, _, h, r => by
    cases h
    cases r
    exact ⟨_, Reads.none⟩
  | .bool b, _, _, h, r => by
    cases h
    cases r
    exact ⟨_, Reads.bool b⟩
  | .int i, _, _, h, r => by
    cases h
    obtain ⟨t, rfl⟩ := r
    exact ⟨_, Reads.int i t⟩
  | .str x, _, _, h, r => by
    cases h
    obtain ⟨t, rfl⟩ := r
    exact ⟨_, Reads.str x t⟩
  | .list ds, _, _, h, r => by
    cases h with
    | lst hs ha =>
      cases r
      obtain ⟨its, rv, ⟨o, n, ho, hc, _, hd⟩, _⟩ := I.list hs
      obtain ⟨as, hr⟩ := Dp.readsAll I ds _ its ha rv
      exact ⟨_, Reads.list ho hc hd hr⟩
  | .tuple ds, _, _, h, r => by
    cases h with
    | tup hs ha =>
      cases r
      obtain ⟨its, rv, ⟨o, ho, hc, n, hd⟩, _⟩ := I.tuple hs
      obtain ⟨as, hr⟩ := Dp.readsAll I ds _ its ha rv
      exact ⟨_, Reads.tuple ho hc hd hr⟩
  | .dict _, _, _, h, _ => by cases h
theorem Dp.readsAll (I : Inv X pins σ H s) : ∀ (ds : List PyData) (vs : List V) (us : List Value), DpAll X.K H vs ds → Vals vs us → ∃ as, ReadsAll s.heap us ds as
  | [], _, _, h, r => by
    cases h
    cases r
    exact ⟨_, ReadsAll.nil⟩
  | d :: ds, _, _, h, r => by
    cases h with
    | cons h1 h2 =>
      cases r with
      | cons r1 r2 =>
        obtain ⟨as, q1⟩ := Dp.reads I d _ _ h1 r1
        obtain ⟨bs, q2⟩ := Dp.readsAll I ds _ _ h2 r2
        exact ⟨_, ReadsAll.cons q1 q2⟩
end
end
section
variable {X : Cx}
end
end L2

namespace L2
open PySem PySem.Spec PyProof.Rows
abbrev CellAt (h : Heap) (c : Addr) (v : Option Value) : Prop := h.IsCell c v
def relS (scope sc : Scope) : Scope :=
  { scope with names := scope.names.map fun (n, k) => if (k == .free && sc.kind == .function && sc.names.lookup n == some .cell) then (n, .cell) else (n, k) }

def cloFrom (cells : List (Str × Addr)) : List (Str × NameKind) → List (Str × Addr) → List (Str × Addr)
  | [], acc => acc
  | (n, k) :: r, acc => if k == .free then cloFrom cells r ((n, (cells.lookup n).getD 0) :: acc) else cloFrom cells r acc

theorem closure_loop (env : Env) (f : Str × NameKind → List (Str × Addr) → Sem (ForInStep (List (Str × Addr))))
    (hf : ∀ n k c, f (n, k) c = if k == .free then (do let a ← cellOf env n; pure (.yield ((n, a) :: c))) else pure (.yield c)) :
    ∀ (names : List (Str × NameKind)) (acc : List (Str × Addr)), (∀ y ∈ names, y.2 = .free → ∃ c, env.cells.lookup y.1 = some c) → forIn names acc f = pure (cloFrom env.cells names acc)
  | [], acc, _ => by rw [List.forIn_nil]; rfl
  | (n, k) :: r, acc, h => by
    rw [List.forIn_cons, hf]
    have ih := fun acc => closure_loop env f hf r acc fun y hy => h y (List.mem_cons_of_mem _ hy)
    unfold cloFrom
    by_cases hk : (k == NameKind.free) = true
    · rw [if_pos hk, if_pos hk]
      obtain ⟨c, hc⟩ := h (n, k) List.mem_cons_self (by simpa using hk)
      have e : cellOf env n = pure c := by unfold cellOf; rw [hc]
      rw [e]
      have e2 : (env.cells.lookup n).getD 0 = c := by rw [hc]; rfl
      rw [e2]
      exact ih _
    · rw [if_neg hk, if_neg hk]
      exact ih _
theorem closure_ok {scope : Scope} {env : Env} (h : ∀ y ∈ scope.names, y.2 = .free → ∃ c, env.cells.lookup y.1 = some c) : closureFor scope env = pure (cloFrom env.cells scope.names []) := by
  simp only [closureFor]
  rw [closure_loop env _ (fun n k c => rfl) scope.names [] h]
  rfl

theorem mem_lookup {α : Type} : ∀ {l : List (Str × α)} {n : Str} {c : α}, (n, c) ∈ l → ∃ c', l.lookup n = some c'
  | (k, v) :: r, n, c, h => by
    rw [List.lookup_cons]
    cases hb : n == k with
    | true => exact ⟨_, rfl⟩
    | false =>
      rcases List.mem_cons.mp h with e | h
      · cases e; simp at hb
      · exact mem_lookup h

theorem cloFrom_mem {cells : List (Str × Addr)} : ∀ {names : List (Str × NameKind)} {acc : List (Str × Addr)} {n : Str} {c : Addr}, (n, c) ∈ cloFrom cells names acc → (n, c) ∈ acc ∨ ((n, .free) ∈ names ∧ c = (cells.lookup n).getD 0)
  | [], _, _, _, h => .inl h
  | (m, k) :: r, acc, n, c, h => by
    unfold cloFrom at h
    split at h
    · rename_i hk
      have hk : k = .free := by simpa using hk
      rcases cloFrom_mem h with h | ⟨h1, h2⟩
      · rcases List.mem_cons.mp h with e | h
        · cases e; exact .inr ⟨hk ▸ List.mem_cons_self, rfl⟩
        · exact .inl h
      · exact .inr ⟨List.mem_cons_of_mem _ h1, h2⟩
    · rcases cloFrom_mem h with h | ⟨h1, h2⟩
      · exact .inl h
      · exact .inr ⟨List.mem_cons_of_mem _ h1, h2⟩
theorem cloFrom_acc {cells : List (Str × Addr)} : ∀ {names : List (Str × NameKind)} {acc : List (Str × Addr)} {p : Str × Addr}, p ∈ acc → p ∈ cloFrom cells names acc
  | [], _, _, h => h
  | (m, k) :: r, acc, p, h => by
    unfold cloFrom
    split
    · exact cloFrom_acc (List.mem_cons_of_mem _ h)
    · exact cloFrom_acc h
theorem cloFrom_has {cells : List (Str × Addr)} : ∀ {names : List (Str × NameKind)} {acc : List (Str × Addr)} {n : Str}, (n, .free) ∈ names → (n, (cells.lookup n).getD 0) ∈ cloFrom cells names acc
  | (m, k) :: r, acc, n, h => by
    unfold cloFrom
    rcases List.mem_cons.mp h with e | h
    · cases e
      exact cloFrom_acc List.mem_cons_self
    · split
      · exact cloFrom_has h
      · exact cloFrom_has h

theorem cells_mem : ∀ {names : List (Str × NameKind)} {h : Heap} {acc : List (Str × Addr)} {x : Str} {c : Addr}, (x, c) ∈ cellsFrom h.objs.size names acc →
    (x, c) ∈ acc ∨ ((x, .cell) ∈ names ∧ h.objs.size ≤ c ∧ CellAt (pushCells h names) c none)
  | [], _, _, _, _, h => .inl h
  | (n, k) :: r, h, acc, x, c, hm => by
    unfold cellsFrom at hm
    unfold pushCells
    split at hm
    · rename_i hk
      rw [if_pos hk]
      have hk : k = .cell := by simpa using hk
      rw [← Heap.size_push h { cls := .type "cell", data := .cell none }] at hm
      rcases cells_mem hm with hm | ⟨h1, h2, h3⟩
      · rcases List.mem_cons.mp hm with e | hm
        · cases e
          exact .inr ⟨hk ▸ List.mem_cons_self, Nat.le_refl _, _, pushCells_keeps r _ _ _ (Heap.get?_push_size _ rfl), rfl⟩
        · exact .inl hm
      · rw [Heap.size_push] at h2
        exact .inr ⟨List.mem_cons_of_mem _ h1, Nat.le_of_succ_le h2, h3⟩
    · rename_i hk
      rw [if_neg hk]
      rcases cells_mem hm with hm | ⟨h1, h2, h3⟩
      · exact .inl hm
      · exact .inr ⟨List.mem_cons_of_mem _ h1, h2, h3⟩
theorem cells_acc : ∀ {names : List (Str × NameKind)} {n : Nat} {acc : List (Str × Addr)} {p : Str × Addr}, p ∈ acc → p ∈ cellsFrom n names acc
  | [], _, _, _, h => h
  | (m, k) :: r, n, acc, p, h => by
    unfold cellsFrom
    split
    · exact cells_acc (List.mem_cons_of_mem _ h)
    · exact cells_acc h
theorem cells_has : ∀ {names : List (Str × NameKind)} {n : Nat} {acc : List (Str × Addr)} {x : Str}, (x, .cell) ∈ names → ∃ c, (x, c) ∈ cellsFrom n names acc
  | (m, k) :: r, n, acc, x, h => by
    unfold cellsFrom
    rcases List.mem_cons.mp h with e | h
    · cases e
      exact ⟨n, cells_acc List.mem_cons_self⟩
    · split
      · exact cells_has h
      · exact cells_has h
theorem cells_inj : ∀ {names : List (Str × NameKind)} {h : Heap} {acc : List (Str × Addr)} {x y : Str} {c : Addr}, (∀ p ∈ acc, p.2 < h.objs.size) → (∀ x y c, (x, c) ∈ acc → (y, c) ∈ acc → x = y) →
    (x, c) ∈ cellsFrom h.objs.size names acc → (y, c) ∈ cellsFrom h.objs.size names acc → x = y
  | [], _, _, _, _, _, _, hi, h1, h2 => hi _ _ _ h1 h2
  | (n, k) :: r, h, acc, x, y, c, hl, hi, h1, h2 => by
    unfold cellsFrom at h1 h2
    split at h1
    · rename_i hk
      rw [if_pos hk] at h2
      rw [← Heap.size_push h { cls := .type "cell", data := .cell none }] at h1 h2
      refine cells_inj (h := h.push _) (fun p hp => ?_) (fun x y c a b => ?_) h1 h2
      · rw [Heap.size_push]
        rcases List.mem_cons.mp hp with rfl | hp
        · exact Nat.lt_succ_self _
        · exact Nat.lt_succ_of_lt (hl p hp)
      · rcases List.mem_cons.mp a with e | a <;> rcases List.mem_cons.mp b with e' | b
        · cases e; cases e'; rfl
        · cases e; exact absurd (hl _ b) (Nat.lt_irrefl _)
        · cases e'; exact absurd (hl _ a) (Nat.lt_irrefl _)
        · exact hi _ _ _ a b
    · rename_i hk
      rw [if_neg hk] at h2
      exact cells_inj hl hi h1 h2

theorem newEnv_comp {M : Model} {A : Around} {E : Value → Shared → Prop} {s : Shared} {scope : Scope} {globals : Addr} {closure : List (Str × Addr)} {qual : Str} {func : Option Addr} {code : Value} {around : Env} {builtins : Addr} {Q : Env → Shared → Prop}
    (h : Q (newEnv scope s.heap.objs.size globals (cellsFrom (s.heap.objs.size + 1) scope.names closure) qual func code (some around) builtins)
      { s with heap := pushCells (s.heap.push { cls := .type "dict", data := .dict #[] }) scope.names }) :
    wpAny M A (newFunctionEnv scope globals closure [] qual func code (some around) builtins) Q E s := by
  simp only [newFunctionEnv, Option.isSome_some, if_true]
  refine wpAny_bind (wpAny_alloc ?_)
  refine wpAny_bind (wpAny_layCells _ (fun n k c => rfl) scope.names closure _ _ ?_)
  rw [show ({ s with heap := s.heap.push { cls := .type "dict", data := .dict #[] } } : Shared).heap.objs.size = s.heap.objs.size + 1 from Heap.size_push ..]
  rw [List.forIn_nil]
  exact wpAny_bind (wpAny_pure (wpAny_pure h))

theorem lookup_relS {sc : Scope} : ∀ {names : List (Str × NameKind)} {x : Str} {k : NameKind},
    (names.map fun (n, k) => if (k == NameKind.free && sc.kind == .function && sc.names.lookup n == some .cell) then (n, NameKind.cell) else (n, k)).lookup x = some k →
    ∃ k', names.lookup x = some k' ∧ (k = k' ∨ (k' = .free ∧ k = .cell))
  | [], _, _, h => by simp at h
  | (n, k₀) :: r, x, k, h => by
    have ih := @lookup_relS sc r x k
    have h' : List.lookup x ((if (k₀ == NameKind.free && sc.kind == .function && sc.names.lookup n == some .cell) = true then (n, NameKind.cell) else (n, k₀)) :: (r.map _)) = some k := h
    cases hx : x == n with
    | true =>
      simp only [List.lookup_cons, hx]
      by_cases hc : (k₀ == NameKind.free && sc.kind == .function && sc.names.lookup n == some .cell) = true
      · rw [if_pos hc] at h'
        simp only [List.lookup_cons, hx] at h'
        cases h'
        simp only [Bool.and_eq_true, beq_iff_eq] at hc
        exact ⟨k₀, rfl, .inr ⟨hc.1.1, rfl⟩⟩
      · rw [if_neg hc] at h'
        simp only [List.lookup_cons, hx] at h'
        cases h'
        exact ⟨_, rfl, .inl rfl⟩
    | false =>
      simp only [List.lookup_cons, hx]
      by_cases hc : (k₀ == NameKind.free && sc.kind == .function && sc.names.lookup n == some .cell) = true
      · rw [if_pos hc] at h'
        simp only [List.lookup_cons, hx] at h'
        exact ih h'
      · rw [if_neg hc] at h'
        simp only [List.lookup_cons, hx] at h'
        exact ih h'
structure BlkOk (N : List Str) (sc scope : Scope) (own : List (Str × Nat)) : Prop where
  kind : scope.kind = .function
  uniq : ∀ y ∈ scope.names, scope.names.lookup y.1 = some y.2
  ix : ∀ p ∈ own, N[p.2]? = some p.1
  free : ∀ y ∈ scope.names, y.2 = .free → sc.names.lookup y.1 = some .cell ∨ sc.names.lookup y.1 = some .free
  own : ∀ y ∈ scope.names, y.2 = .local ∨ y.2 = .cell → y.1 ∈ own.map (·.1) ∨ y.1 ∉ N
def wipe (σ : St) : List Nat → St
  | [] => σ
  | v :: vs => (wipe σ vs).set v none
theorem wipe_length (σ : St) : ∀ vs : List Nat, (wipe σ vs).length = σ.length
  | [] => rfl
  | v :: vs => by unfold wipe; rw [List.length_set, wipe_length σ vs]
theorem wipe_some {σ : St} {i : Nat} {x : V} : ∀ {vs : List Nat}, (wipe σ vs)[i]? = some (some x) → σ[i]? = some (some x) ∧ i ∉ vs
  | [], h => ⟨h, by simp⟩
  | v :: vs, h => by
    unfold wipe at h
    by_cases hi : v = i
    · subst hi
      by_cases hv : v < (wipe σ vs).length
      · rw [List.getElem?_set_self hv] at h; cases h
      · rw [List.getElem?_eq_none (by simpa using hv)] at h; cases h
    · rw [List.getElem?_set_ne hi] at h
      obtain ⟨h1, h2⟩ := wipe_some h
      exact ⟨h1, by simp only [List.mem_cons, not_or]; exact ⟨fun e => hi e.symm, h2⟩⟩

abbrev Cx.blk (X : Cx) (s : Shared) (H : Hp) (scope : Scope) (cenv : Env) (fp : List Addr) : Cx := { X with s_0 := s, H_0 := H, env := cenv, outer := X.stack, ex := fp, fn := fun x => scope.names.lookup x == some .cell, pn := [], xe := fun _ _ => False }
section
variable {X : Cx} {pins : List (Addr × Obj)} {σ : St} {H : Hp} {s : Shared}
theorem block_start {scope : Scope} {own : List (Str × Nat)} {fp : List Addr} (I : Inv X pins σ H s) (ok : BlkOk X.N X.env.scope scope own) (hN : X.N.Nodup) (hfp : ∀ b ∈ fp, FpOk X pins H b ∧ b < s.heap.objs.size) :
    Inv (X.blk s H scope (compEnvC scope (cellsFrom (s.heap.objs.size + 1) scope.names (cloFrom X.env.cells scope.names [])) s.heap.objs.size X.env) fp) [] (wipe σ (own.map (·.2))) H { s with heap := pushCells (s.heap.push { cls := .type "dict", data := .dict #[] }) scope.names } := by
  have hfree : ∀ y ∈ scope.names, y.2 = .free → ∃ c, X.env.cells.lookup y.1 = some c := fun y hy e => by
    rcases ok.free y hy e with k | k
    · exact I.ok.has _ (.inl k)
    · exact I.ok.has _ (.inr k)
  generalize hcenv : compEnvC scope (cellsFrom (s.heap.objs.size + 1) scope.names (cloFrom X.env.cells scope.names [])) s.heap.objs.size X.env = cenv
  have kp : ∀ b o, s.heap.get? b = some o → (pushCells (s.heap.push { cls := .type "dict", data := .dict #[] }) scope.names).get? b = some o := fun b o e => pushCells_keeps _ _ _ _ (Heap.get?_push_of_some _ e)
  have hL : cenv.locals = s.heap.objs.size := by rw [← hcenv]; rfl
  have hcl : cenv.cells = cellsFrom (s.heap.objs.size + 1) scope.names (cloFrom X.env.cells scope.names []) := by rw [← hcenv]; rfl
  have hsc : cenv.scope = relS scope X.env.scope := by rw [← hcenv]; rfl
  rw [← Heap.size_push s.heap { cls := .type "dict", data := .dict #[] }] at hcl
  have cm : ∀ {y c}, (y, c) ∈ cloFrom X.env.cells scope.names [] → X.env.cells.lookup y = some c ∧ c < s.heap.objs.size := fun {y c} hm => by
    rcases cloFrom_mem hm with hm | ⟨h1, rfl⟩
    · cases hm
    · obtain ⟨c, hc⟩ := hfree _ h1 rfl
      rw [hc]
      obtain ⟨w, z⟩ := I.cell _ _ hc
      exact ⟨rfl, z.lt⟩
  have mem : ∀ {y c}, cenv.cells.lookup y = some c → (X.env.cells.lookup y = some c ∧ c < s.heap.objs.size) ∨ (s.heap.objs.size + 1 ≤ c ∧ CellAt (pushCells (s.heap.push { cls := .type "dict", data := .dict #[] }) scope.names) c none) := fun {y c} e => by
    rw [hcl] at e
    rcases cells_mem (PySem.mem_of_lookup e) with hm | ⟨_, h2, h3⟩
    · exact .inl (cm hm)
    · rw [Heap.size_push] at h2; exact .inr ⟨h2, h3⟩
  have look : ∀ {y}, scope.names.lookup y = some .free → ∃ c, cenv.cells.lookup y = some c ∧ X.env.cells.lookup y = some c := fun {y} hl => by
    have hy : (y, NameKind.free) ∈ scope.names := PySem.mem_of_lookup hl
    obtain ⟨c', e'⟩ := mem_lookup (cells_acc (names := scope.names) (n := (s.heap.push { cls := .type "dict", data := .dict #[] }).objs.size) (cloFrom_has (cells := X.env.cells) (acc := []) hy))
    rw [← hcl] at e'
    refine ⟨c', e', ?_⟩
    rw [hcl] at e'
    rcases cells_mem (PySem.mem_of_lookup e') with hm | ⟨h1, _, _⟩
    · exact (cm hm).1
    · have := ok.uniq _ h1
      rw [hl] at this; cases this
  have okB : (X.blk s H scope cenv fp).Ok := by
    refine ⟨I.ok.mod, by show cenv.scope.kind = _; rw [hsc]; exact ok.kind, by show cenv.globals = _; rw [← hcenv]; exact I.ok.glob, by show cenv.builtins = _; rw [← hcenv]; exact I.ok.blt, by show s.heap.objs.size ≤ cenv.locals; rw [hL]; exact Nat.le_refl _,
      fun y z c e1 e2 => ?_, fun y hy => ?_, fun y c z e => ?_, I.ok.hd, I.ok.frames, .inl rfl, fun b hb => ⟨?_, fun y c e z => ?_⟩, I.bs, Nat.le_trans I.ok.bsz I.sz, fun b o e hb => ?_, fun b hb z => ?_, I.stack, I.stkFree⟩
    · have e1 : cenv.cells.lookup y = some c := e1
      have e2 : cenv.cells.lookup z = some c := e2
      rw [hcl] at e1 e2
      refine cells_inj (fun p hp => ?_) (fun y z c a b => I.ok.inj y z c (cm a).1 (cm b).1) (PySem.mem_of_lookup e1) (PySem.mem_of_lookup e2)
      rw [Heap.size_push]
      exact Nat.lt_succ_of_lt (cm (y := p.1) (c := p.2) hp).2
    · show ∃ c, cenv.cells.lookup y = some c
      have key : ∀ k, cenv.kindOf y = some k → (k = .cell ∨ k = .free) → ∃ c, cenv.cells.lookup y = some c := fun k hk hk' => by
        unfold Env.kindOf at hk
        rw [hsc] at hk
        obtain ⟨k', e, r⟩ := lookup_relS hk
        have : k' = .cell ∨ k' = .free := by
          rcases r with rfl | ⟨rfl, _⟩
          · exact hk'
          · exact .inr rfl
        rcases this with rfl | rfl
        · obtain ⟨c, hm⟩ := cells_has (n := (s.heap.push { cls := .type "dict", data := .dict #[] }).objs.size) (acc := cloFrom X.env.cells scope.names []) (PySem.mem_of_lookup e)
          obtain ⟨c', e'⟩ := mem_lookup hm
          exact ⟨c', by rw [hcl]; exact e'⟩
        · obtain ⟨c, h1, _⟩ := look e
          exact ⟨c, h1⟩
      rcases hy with hy | hy
      · exact key _ hy (.inl rfl)
      · exact key _ hy (.inr rfl)
    · have z : (scope.names.lookup y == some NameKind.cell) = true := z
      have z : scope.names.lookup y = some .cell := by simpa using z
      have e : cenv.cells.lookup y = some c := e
      rw [hcl] at e
      rcases cells_mem (PySem.mem_of_lookup e) with hm | ⟨_, h2, _⟩
      · rcases cloFrom_mem hm with hm | ⟨h1, _⟩
        · cases hm
        · have q := ok.uniq _ h1
          rw [z] at q; cases q
      · rw [Heap.size_push] at h2
        exact Nat.le_of_succ_le h2
    · show b ≠ cenv.locals
      rw [hL]; exact Nat.ne_of_lt (hfp b hb).2
    · have e : cenv.cells.lookup y = some c := e
      rcases mem e with ⟨h1, _⟩ | ⟨h1, _⟩
      · exact (hfp b hb).1.2.2.2.2.1 y c h1 z
      · have h2 : s.heap.objs.size + 1 ≤ b := by rw [← z]; exact h1
        exact absurd (Nat.lt_of_lt_of_le (hfp b hb).2 (Nat.le_of_succ_le h2)) (Nat.lt_irrefl _)
    · rcases (hfp b hb).1.2.2.2.1 with z | z
      · exact I.ok.noex b o e z
      · exact absurd (Nat.lt_of_lt_of_le (Heap.lt_size e) (Nat.le_trans I.ok.bsz z)) (Nat.lt_irrefl _)
    · rcases List.mem_cons.mp (I.stkSub b z) with z | z
      · exact (hfp b hb).1.2.1 z
      · exact (hfp b hb).1.2.2.1 z
  refine ⟨okB, rfl, I.bare, Un.kept kp, ⟨fun _ => none, ?_, fun i y av e1 e2 e3 => ?_⟩, fun y c e => ?_, ?_, fun y c e => ?_, fun p hp => ?_, I.hok.kept kp, by rw [wipe_length]; exact I.len⟩
  · show Heap.Ns _ cenv.locals _
    rw [hL]
    exact Heap.Ns.keeps (Heap.Ns.new ..) fun b o e => pushCells_keeps _ _ _ _ e
  · obtain ⟨e2, hne⟩ := wipe_some e2
    have hfr : scope.names.lookup y = some .free ∧ (cenv.kindOf y = some .cell ∨ cenv.kindOf y = some .free) := by
      have key : ∀ k, cenv.scope.names.lookup y = some k → k = .local ∨ k = .cell ∨ k = .free → scope.names.lookup y = some .free ∧ (cenv.kindOf y = some .cell ∨ cenv.kindOf y = some .free) := fun k hk hk' => by
        have hk0 := hk
        rw [hsc] at hk
        obtain ⟨k', e, r⟩ := lookup_relS hk
        have no : ¬ (k' = .local ∨ k' = .cell) := fun hh => by
          rcases ok.own _ (PySem.mem_of_lookup e) hh with e' | e'
          · obtain ⟨p, hp, hpy⟩ := List.mem_map.mp e'
            have e3 := ok.ix p hp
            have : p.1 = y := hpy
            rw [this] at e3
            exact hne (List.mem_map.mpr ⟨p, hp, nodup_ix hN e3 e1⟩)
          · exact e' (List.mem_of_getElem? e1)
        rcases r with rfl | ⟨rfl, rfl⟩
        · rcases hk' with rfl | rfl | rfl
          · exact absurd (.inl rfl) no
          · exact absurd (.inr rfl) no
          · exact ⟨e, .inr hk0⟩
        · exact ⟨e, .inl hk0⟩
      have e3 : Vis cenv.scope y := e3
      rcases e3 with e3 | e3 | e3
      · exact key _ e3 (.inl rfl)
      · exact key _ e3 (.inr (.inl rfl))
      · exact key _ e3 (.inr (.inr rfl))
    obtain ⟨m, hn, hl⟩ := I.loc
    have hvis : Vis X.env.scope y := (ok.free _ (PySem.mem_of_lookup hfr.1) rfl).elim (fun k => .inr (.inl k)) (fun k => .inr (.inr k))
    obtain ⟨w, r, q⟩ := hl i y av e1 e2 hvis
    refine ⟨w, r, .inr ⟨hfr.2, ?_⟩⟩
    obtain ⟨c, h1, h2⟩ := look hfr.1
    rcases q with ⟨k, _⟩ | ⟨_, c', e', z⟩
    · have k : X.env.scope.names.lookup y = some .local := k
      rcases ok.free _ (PySem.mem_of_lookup hfr.1) rfl with k' | k' <;> rw [show X.env.scope.names.lookup y = _ from k'] at k <;> cases k
    · rw [h2] at e'; cases e'
      exact ⟨c, h1, z.keeps kp⟩
  · have e : cenv.cells.lookup y = some c := e
    rcases mem e with ⟨h1, _⟩ | ⟨_, z⟩
    · obtain ⟨w, z⟩ := I.cell y c h1
      exact ⟨w, z.keeps kp⟩
    · exact ⟨_, z⟩
  · show H cenv.locals = none
    rw [hL]; exact I.hok.fresh (Nat.le_refl _)
  · have e : cenv.cells.lookup y = some c := e
    rcases mem e with ⟨h1, _⟩ | ⟨h1, _⟩
    · exact I.freeC y c h1
    · exact I.hok.fresh (Nat.le_of_succ_le h1)
  · exact absurd (show p ∈ ([] : List (Addr × Obj)) ++ [] from hp) (by simp)

theorem app_ok {E : Value → Shared → Prop} {D : Addr} {xs : List V} {y : V} {v : Value} {Q : Value → Shared → Prop} (I : Inv X pins σ H s) (hD : H D = some (.lst xs)) (hz : xs.length < sizeLine) (r : RelV y v)
    (h : ∀ s', Inv X pins σ (upd H D (.lst (xs ++ [y]))) s' → Q .none s') : wpAny (model X.prog X.w) X.A (call (.builtin "list.append") [.ref D, v]) Q E s := by
  obtain ⟨hz', its, n, ri, e⟩ := I.hok D _ hD
  have hl := ri.length
  refine append_at (hsz := by rw [List.size_toArray]; omega) e fun h' sb ho' => ?_
  refine h { s with heap := h' } (I.write (t' := s.toks) (by rw [hD]; trivial) (.inl rfl) (fun b u hb q => (sb.2 b hb).trans q) ⟨_, ho'⟩ ⟨by rw [List.length_append]; exact hz, its ++ [v], n + 1, ri.append (.cons r .nil), ?_⟩)
  rw [ho']
  simp

def PTs (X : Cx) (ifs : List Expr) (t : TT) : Prop :=
  ∀ (pins : List (Addr × Obj)) (s : Shared) (σ : St) (H : Hp) (Q : Bool → Hp → Prop), Inv X pins σ H s → t σ H Q →
    wpAny (model X.prog X.w) X.A (forIn ifs true fun c r => if r = true then do let ok ← isTrue c X.env (eval c X.env); pure (ForInStep.yield ok) else pure (ForInStep.yield r)) (TP X pins σ Q) X.xe s
theorem pts_one {c : Expr} {t : TT} (h : PT X c t) : PTs X [c] t := fun pins s σ H Q I hw => wpAny_tests_one (h pins s σ H Q I hw)
end

theorem thnF {α : Type} {t : Sem α} {Q Q' : α → Shared → Prop} {M : Model} {A : Around} {E : Value → Shared → Prop} {s : Shared} (h : wpAny M A t Q (fun _ _ => False) s) (hQ : ∀ a s, Q a s → Q' a s) : wpAny M A t Q' E s := wpAny_mono h hQ fun _ _ z => False.elim z

theorem compLoop_any {prog : Program} {w : World} {A : Around} {R : Result → Shared → Prop} {s : Shared} {elt target iter : Expr} {ifs : List Expr} {scope : Scope} {pos : Pos} {it acc : Value} {env : Env} (I : Nat → Shared → Prop)
    (turn : ∀ n s, I n s → wpAny (model prog w) A (pyNext it) (fun r s₁ => match r with
      | none => R (.ok .next) s₁
      | some v => wpAny (model prog w) A (letOwnedTupleGo target it v) (fun _ s₁' => wpAny (model prog w) A (assign target env v) (fun _ s₂ =>
          wpAny (model prog w) A (forIn ifs true fun c r => if r = true then do let ok ← isTrue c env (eval c env); pure (ForInStep.yield ok) else pure (ForInStep.yield r)) (fun ok s₃ =>
            if ok = true then wpAny (model prog w) A (eval elt env) (fun x s₄ =>
              wpAny (model prog w) A (call (.builtin "list.append") [acc, x]) (fun _ s₅ => ∃ m, m < n ∧ I m s₅) (notedBy (model prog w) A env fun e s' => R (.error e) s') s₄) (notedBy (model prog w) A env fun e s' => R (.error e) s') s₃
            else ∃ m, m < n ∧ I m s₃) (notedBy (model prog w) A env fun e s' => R (.error e) s') s₂) (notedBy (model prog w) A env fun e s' => R (.error e) s') s₁') (notedBy (model prog w) A env fun e s' => R (.error e) s') s₁) (notedBy (model prog w) A env fun e s' => R (.error e) s') s)
    (n : Nat) (h : I n s) :
    codeAny (model prog w) A (.compLoop (.ListComp elt [⟨target, iter, ifs, 0⟩] scope pos) 0 it acc env) R s := by
  refine codeAny_loop rfl I (fun n s hI => ?_) n h
  show wpAny _ A ((compTurn (.ListComp elt [⟨target, iter, ifs, 0⟩] scope pos) 0 it acc env).onRaise (fun x => do noteFrame x env; theTreesLotGoes x)) _ _ s
  refine wpAny_noted ?_
  rw [compTurn_list]
  refine wpAny_bind (wpAny_standAt (wpAny_bind (wpAny_mono (turn n s hI) (fun r s₁ h₁ => ?_) fun _ _ h' => h')))
  cases r with
  | none => exact wpAny_pure h₁
  | some v =>
    refine wpAny_bind (wpAny_mono h₁ (fun _ s₁' h₁' => ?_) fun _ _ h' => h')
    refine wpAny_bind (wpAny_mono h₁' (fun _ s₂ h₂ => wpAny_bind (wpAny_mono h₂ (fun ok s₃ h₃ => ?_) fun _ _ h' => h')) fun _ _ h' => h')
    cases ok with
    | false => exact wpAny_pure ⟨rfl, h₃⟩
    | true =>
      exact wpAny_bind (wpAny_bind (wpAny_mono h₃ (fun x s₄ h₄ => wpAny_bind (wpAny_mono h₄ (fun _ s₅ h₅ => wpAny_pure (wpAny_pure ⟨rfl, h₅⟩)) fun _ _ h' => h')) fun _ _ h' => h'))

section
variable {X : Cx}
def tLc (wi : TI) (g : TG) (tt : TT) (te : TE) (vs : List Nat) : TE := fun σ H Q => wi σ H fun J H1 => ∀ D, H1 D = none → ∃ W : Nat → Nat → Hp → Prop, (∃ m, W 0 m (upd H1 D (.lst []))) ∧ ∀ i m H, W i m H →
  (J.stop i H ∧ Q (.ref D) H) ∨ (J.go i H ∧ ∃ Nx : Hp → Prop, (∀ H', Nx H' → ∃ m', m' < m ∧ W (i + 1) m' H') ∧ ∀ x H', J.yld i H x H' → g x (wipe σ vs) H' fun σ2 H2 => wipe σ2 vs = wipe σ vs ∧ tt σ2 H2 fun b H3 =>
    if b = true then te σ2 H3 fun y H4 => ∃ acc, H4 D = some (.lst acc) ∧ acc.length < sizeLine ∧ Nx (upd H4 D (.lst (acc ++ [y]))) else Nx H3)
theorem lc_core {pins : List (Addr × Obj)} {s : Shared} {σ : St} {H : Hp} {Q : VK} {elt tg iter : Expr} {ifs : List Expr} {scope : Scope} {own : List (Str × Nat)} {pos pos' : Pos} {wi : TI} {g : TG} {tt : TT} {te : TE} {use : Option (Value → Sem Unit)} {Qf : Value → Shared → Prop}
    (hc : X.calm = true) (hN : X.N.Nodup) (I : Inv X pins σ H s) (hi : PI X tg iter wi) (ok : BlkOk X.N X.env.scope scope own)
    (hg : ∀ (s : Shared) (H : Hp) (C : Addr) (cl : List (Str × Addr)) (fp : List Addr), PG (X.blk s H scope (compEnvC scope cl C X.env) fp) tg g) (ht : ∀ (s : Shared) (H : Hp) (C : Addr) (cl : List (Str × Addr)) (fp : List Addr), PTs (X.blk s H scope (compEnvC scope cl C X.env) fp) ifs tt)
    (he : ∀ (s : Shared) (H : Hp) (C : Addr) (cl : List (Str × Addr)) (fp : List Addr), PE (X.blk s H scope (compEnvC scope cl C X.env) fp) elt te) (hs : ∀ x, foldedSetIterable iter X.env x = pure x)
    (h : tLc wi g tt te (own.map (·.2)) σ H Q)
    (hRR : ∀ D C s' m H', Inv X pins σ H' s' → Q (.ref D) H' → s'.heap.Ns C m → FpOk X pins H' C → compPost (model X.prog X.w) X.A X.xe use Qf (.ref D) C (.ok .next) s') :
    wpAny (model X.prog X.w) X.A (comprehension (.ListComp elt [⟨tg, iter, ifs, 0⟩] scope pos) scope X.env pos' (newList []) false (eval iter X.env) use) Qf X.xe s := by
  have hfree : ∀ y ∈ scope.names, y.2 = .free → ∃ c, X.env.cells.lookup y.1 = some c := fun y hy e => by
    rcases ok.free y hy e with k | k
    · exact I.ok.has _ (.inl k)
    · exact I.ok.has _ (.inr k)
  refine wpAny_comprehension_free (use := use) rfl hs (closure_ok hfree) ok.kind (fun y hy e => by rw [ok.uniq y hy, e])
    (thn (hi pins s σ H _ I h) fun xv s1 hx => thn hx fun itv s2 h2 => ?_)
  obtain ⟨it, fp, tn, J, H2, e, I2, T, st2, f2, q⟩ := h2
  subst e
  refine wpAny_newObj_type (newEnv_comp ?_) (by show 0 ≤ sizeLine; decide)
  generalize hD : s2.heap.objs.size = D
  have hDn : H2 D = none := I2.hok.fresh (Nat.le_of_eq hD)
  obtain ⟨W, ⟨m0, w0⟩, turn⟩ := q D hDn
  -- the new list
  generalize hs3 : ({ s2 with heap := s2.heap.push { cls := .type "list", data := .seq ([] : List Value).toArray } } : Shared) = s3
  have I3 : Inv X pins σ (upd H2 D (.lst [])) s3 := by
    rw [← hs3]
    refine I2.laid (t' := s2.toks) (fun b o e => Heap.get?_push_of_some _ e) (Nat.le_of_eq hD) ⟨Nat.zero_le _, [], 0, .nil, ?_⟩
    rw [← hD]
    exact Heap.get?_push_size _ rfl
  have h3 : s3.heap = s2.heap.push { cls := .type "list", data := .seq ([] : List Value).toArray } := by rw [← hs3]
  have sz : ∀ b ∈ fp, b < s2.heap.objs.size := fun b hb => by
    obtain ⟨o, e, _⟩ := T.obj _ _ st2 b hb
    exact Heap.lt_size e
  have f3 : ∀ b ∈ fp, FpOk X pins (upd H2 D (.lst [])) b ∧ b < s3.heap.objs.size := fun b hb => by
    have hlt := sz b hb
    refine ⟨⟨?_, (f2 b hb).2⟩, by rw [h3, Heap.size_push]; exact Nat.lt_succ_of_lt hlt⟩
    rw [upd_ne (by rw [← hD]; exact Nat.ne_of_lt hlt)]
    exact (f2 b hb).1
  have st3 : tn 0 s3.heap := T.keep _ _ _ st2 fun b _ o e => by rw [h3]; exact Heap.get?_push_of_some _ e
  have I4 := block_start I3 ok hN f3
  have pg := hg s3 (upd H2 D (.lst [])) s3.heap.objs.size (cellsFrom (s3.heap.objs.size + 1) scope.names (cloFrom X.env.cells scope.names [])) fp
  have pt := ht s3 (upd H2 D (.lst [])) s3.heap.objs.size (cellsFrom (s3.heap.objs.size + 1) scope.names (cloFrom X.env.cells scope.names [])) fp
  have pe := he s3 (upd H2 D (.lst [])) s3.heap.objs.size (cellsFrom (s3.heap.objs.size + 1) scope.names (cloFrom X.env.cells scope.names [])) fp
  show codeAny _ _ (.compStart (.ListComp elt [⟨tg, iter, ifs, 0⟩] scope pos) 0 (.ref it) (.ref D) (compEnvC scope (cellsFrom (s3.heap.objs.size + 1) scope.names (cloFrom X.env.cells scope.names [])) s3.heap.objs.size X.env)) (compPost (model X.prog X.w) X.A X.xe use Qf (.ref D) s3.heap.objs.size) { s3 with heap := pushCells (s3.heap.push { cls := .type "dict", data := .dict #[] }) scope.names }
  have nfp : ∀ b ∈ fp, (upd H2 D (.lst [])) b = none := fun b hb => (f3 b hb).1.1
  generalize hce : compEnvC scope (cellsFrom (s3.heap.objs.size + 1) scope.names (cloFrom X.env.cells scope.names [])) s3.heap.objs.size X.env = ce at I4 pg pt pe ⊢
  have cL : ce.locals = s3.heap.objs.size := by subst hce; rfl
  generalize hH3 : upd H2 D (.lst []) = H3 at I3 I4 pg pt pe w0 nfp f3
  generalize hs4 : ({ s3 with heap := pushCells (s3.heap.push { cls := .type "dict", data := .dict #[] }) scope.names } : Shared) = s4 at I4 ⊢
  have st4 : tn 0 s4.heap := T.keep _ _ _ st3 fun b _ o e => by rw [← hs4]; exact pushCells_keeps _ _ _ _ (Heap.get?_push_of_some _ e)
  have stat : ∀ {σ' : St} {H' : Hp} {s' : Shared}, Inv (X.blk s3 H3 scope ce fp) [] σ' H' s' → (∀ b ∈ fp, H' b = none) → ∀ b ∈ fp, FpOk (X.blk s3 H3 scope ce fp) [] H' b := fun {σ' H' s'} I' hn b hb =>
    ⟨hn b hb, (I'.ok.exf b hb).1, I'.ok.exfs b hb, .inl hb, fun x c e => (I'.ok.exf b hb).2 x c e, fun p hp => absurd (show p ∈ ([] : List (Addr × Obj)) ++ [] from hp) (by simp)⟩
  have loop : codeAny (model X.prog X.w) X.A (.compLoop (.ListComp elt [⟨tg, iter, ifs, 0⟩] scope pos) 0 (.ref it) (.ref D) ce) (compPost (model X.prog X.w) X.A X.xe use Qf (.ref D) s3.heap.objs.size) s4 := by
    refine compLoop_any (fun n s' => ∃ i H', Inv (X.blk s3 H3 scope ce fp) [] (wipe σ (own.map (·.2))) H' s' ∧ tn i s'.heap ∧ (∀ b ∈ fp, H' b = none) ∧ W i n H') ?_ m0 ⟨0, H3, I4, st4, nfp, w0⟩
    rintro n s5 ⟨i, H5, I5, st5, n5, w5⟩
    rcases turn i n H5 w5 with ⟨stop, qq⟩ | ⟨go, Nx, hNx, step⟩
    · have td := T.done (X.blk s3 H3 scope ce fp) rfl rfl rfl hc i [] s5 _ H5 (fun _ _ => False) I5 (stat I5 n5) st5 stop
      refine thnF td fun r s6 ⟨hr, I6⟩ => ?_
      subst hr
      -- back in the def's context
      have I7 : Inv X pins σ H5 s6 := I3.call' (ch := fp) I6.os I6.base I6.hok I6.bare fun b hb => ⟨(f3 b hb).1.2.2.2.1, (f3 b hb).1.2.1, (f3 b hb).1.2.2.2.2.1, (f3 b hb).1.2.2.2.2.2⟩
      have nC : H5 s3.heap.objs.size = none := by
        have z : H5 ce.locals = none := I6.free
        rw [cL] at z
        exact z
      obtain ⟨m, hn, _⟩ := I6.loc
      have hn : s6.heap.Ns ce.locals m := hn
      rw [cL] at hn
      exact hRR D s3.heap.objs.size s6 m H5 I7 qq hn (I3.fpOk (Nat.le_refl _) nC)
    · have ti := T.item (X.blk s3 H3 scope ce fp) rfl rfl rfl hc i [] s5 _ H5 (fun _ _ => False) I5 (stat I5 n5) st5 go
      refine thnF ti fun r s6 ⟨u, hr, h6⟩ => ?_
      subst hr
      refine thnF h6 fun _ s7 ⟨x, H7, I7, r7, y7, st7, n7⟩ => ?_
      have I7' := I7.pinned (stat I7 n7) (T.obj _ _ st7)
      refine thnF (pg _ s7 _ H7 x u _ I7' r7 (step x H7 y7)) fun _ s8 ⟨σ8, H8, I8, hw8, q8⟩ => ?_
      refine thnF (pt _ s8 σ8 H8 _ I8 q8) fun b s9 ⟨H9, I9, q9⟩ => ?_
      -- the turn's end
      have fin : ∀ {s' : Shared} {H' : Hp}, Inv (X.blk s3 H3 scope ce fp) ([] ++ pinsAt fp s7.heap) σ8 H' s' → Nx H' → ∃ m, m < n ∧ ∃ i H', Inv (X.blk s3 H3 scope ce fp) [] (wipe σ (own.map (·.2))) H' s' ∧ tn i s'.heap ∧ (∀ b ∈ fp, H' b = none) ∧ W i m H' := fun {s' H'} I' nx => by
        obtain ⟨m', hm, w'⟩ := hNx H' nx
        have pin' : ∀ b ∈ fp, ∀ o, s7.heap.get? b = some o → s'.heap.get? b = some o ∧ H' b = none := fun b hb o e =>
          let z := I'.pin (b, o) (List.mem_append_right _ (List.mem_append_right _ (mem_pinsAt hb e)))
          ⟨z.1, z.2.1⟩
        have hl : (wipe σ (own.map (·.2))).length = σ8.length := by rw [← hw8, wipe_length]
        refine ⟨m', hm, i + 1, H', (I'.unpinned (pins := [])).weak hl (fun j v e => ?_), T.keep _ _ _ st7 fun b hb o e => (pin' b hb o e).1, fun b hb => ?_, w'⟩
        · rw [← hw8] at e
          exact (wipe_some e).1
        · obtain ⟨o, e, _⟩ := T.obj _ _ st7 b hb
          exact (pin' b hb o e).2
      cases b with
      | false =>
        simp only [Bool.false_eq_true, if_false] at q9 ⊢
        exact fin I9 q9
      | true =>
        simp only [if_true] at q9 ⊢
        refine thnF (pe _ s9 σ8 H9 _ I9 q9) fun z s10 ⟨yv, H10, I10, r10, acc, hD10, hz10, nx⟩ => ?_
        exact app_ok (X := X.blk s3 H3 scope ce fp) I10 hD10 hz10 r10 fun s11 I11 => fin I11 nx
  exact codeAny_compStart_list loop (T.self X.A 0 _ _ _ st4 loop)
theorem pe_lc {elt tg iter : Expr} {ifs : List Expr} {scope : Scope} {own : List (Str × Nat)} {pos : Pos} {wi : TI} {g : TG} {tt : TT} {te : TE} (hc : X.calm = true) (hN : X.N.Nodup) (hi : PI X tg iter wi) (ok : BlkOk X.N X.env.scope scope own)
    (hg : ∀ (s : Shared) (H : Hp) (C : Addr) (cl : List (Str × Addr)) (fp : List Addr), PG (X.blk s H scope (compEnvC scope cl C X.env) fp) tg g) (ht : ∀ (s : Shared) (H : Hp) (C : Addr) (cl : List (Str × Addr)) (fp : List Addr), PTs (X.blk s H scope (compEnvC scope cl C X.env) fp) ifs tt)
    (he : ∀ (s : Shared) (H : Hp) (C : Addr) (cl : List (Str × Addr)) (fp : List Addr), PE (X.blk s H scope (compEnvC scope cl C X.env) fp) elt te) (hs : ∀ x, foldedSetIterable iter X.env x = pure x := by intro _; rfl) :
    PE X (.ListComp elt [⟨tg, iter, ifs, 0⟩] scope pos) (tLc wi g tt te (own.map (·.2))) := by
  intro pins s σ H Q I h
  rw [eval_ListComp]
  refine lc_core hc hN I hi ok hg ht he hs h fun D C s' m H' I' q hn f => ⟨m, hn, fun h'' sb => ?_⟩
  obtain ⟨f0, f1, f2, f3, f4, f5⟩ := f
  exact ⟨.ref D, H', I'.turned (t' := s'.toks) (fun b o hb e => (sb.2 b hb).trans e) f0 f1 f3 f4 f5, rfl, q⟩
end

theorem lc_list {K : PySem.W.Frag} {a : Addr} {xs : List V} {g : TG} {tt : TT} {te : TE} {vs : List Nat} {σ : St} {H1 : Hp} {D : Addr} {Qd : Hp → Prop} (Pv : Nat → Hp → Prop) (h0 : Pv 0 (upd H1 D (.lst []))) (hl : ∀ i H, i ≤ xs.length → Pv i H → SqL K H a xs)
    (hs : ∀ i x H, xs[i]? = some x → Pv i H → g x (wipe σ vs) H fun σ2 H2 => wipe σ2 vs = wipe σ vs ∧ tt σ2 H2 fun b H3 =>
      if b = true then te σ2 H3 fun y H4 => ∃ acc, H4 D = some (.lst acc) ∧ acc.length < sizeLine ∧ Pv (i + 1) (upd H4 D (.lst (acc ++ [y]))) else Pv (i + 1) H3) (hd : ∀ H, Pv xs.length H → Qd H) :
    ∃ W : Nat → Nat → Hp → Prop, (∃ m, W 0 m (upd H1 D (.lst []))) ∧ ∀ i m H, W i m H →
      ((Itl K a).stop i H ∧ Qd H) ∨ ((Itl K a).go i H ∧ ∃ Nx : Hp → Prop, (∀ H', Nx H' → ∃ m', m' < m ∧ W (i + 1) m' H') ∧ ∀ x H', (Itl K a).yld i H x H' → g x (wipe σ vs) H' fun σ2 H2 => wipe σ2 vs = wipe σ vs ∧ tt σ2 H2 fun b H3 =>
        if b = true then te σ2 H3 fun y H4 => ∃ acc, H4 D = some (.lst acc) ∧ acc.length < sizeLine ∧ Nx (upd H4 D (.lst (acc ++ [y]))) else Nx H3) := by
  refine ⟨fun i m H => m = xs.length - i ∧ i ≤ xs.length ∧ Pv i H, ⟨xs.length, by simp, Nat.zero_le _, h0⟩, ?_⟩
  rintro i m H ⟨rfl, hi, p⟩
  have q := hl i H hi p
  by_cases hlt : i < xs.length
  · refine .inr ⟨⟨xs, xs[i], q, by simp [hlt]⟩, Pv (i + 1), fun H' p' => ⟨xs.length - (i + 1), by omega, rfl, hlt, p'⟩, fun x H' y => ?_⟩
    obtain ⟨e, y⟩ := y
    subst e
    exact hs i x _ (y xs q) p
  · have e : i = xs.length := by omega
    subst e
    exact .inl ⟨⟨xs, q, Nat.le_refl _⟩, hd H p⟩
def blkC (N : List Str) (sc scope : Scope) (own : List (Str × Nat)) : Bool :=
  (match scope.kind with | .function => true | _ => false) && (scope.names.all fun y => decide (scope.names.lookup y.1 = some y.2)) && (own.all fun p => decide (N[p.2]? = some p.1)) &&
    (scope.names.all fun y => match y.2 with
      | .free => (match sc.names.lookup y.1 with | some .cell => true | some .free => true | _ => false)
      | .local => decide (y.1 ∈ own.map (·.1)) || decide (y.1 ∉ N)
      | .cell => decide (y.1 ∈ own.map (·.1)) || decide (y.1 ∉ N)
      | _ => true)
theorem blkOk_by {N : List Str} {sc scope : Scope} {own : List (Str × Nat)} (h : blkC N sc scope own = true) : BlkOk N sc scope own := by
  unfold blkC at h
  simp only [Bool.and_eq_true, List.all_eq_true, decide_eq_true_eq] at h
  obtain ⟨⟨⟨h1, h2⟩, h3⟩, h4⟩ := h
  refine ⟨?_, h2, h3, fun y hy e => ?_, fun y hy e => ?_⟩
  · split at h1
    · assumption
    · cases h1
  · have q := h4 y hy
    simp only [e] at q
    split at q <;> first | exact .inl (by assumption) | exact .inr (by assumption) | cases q
  · have q := h4 y hy
    rcases e with e | e <;> (simp only [e, Bool.or_eq_true, decide_eq_true_eq] at q; exact q)
end L2

namespace L2
open PySem PySem.Spec PyProof.Rows

section
variable {prog : Program} {w : World} {A : Around} {R : Result → Shared → Prop} {s : Shared} {elt t0 i0 t1 i1 : Expr} {ifs0 ifs1 : List Expr} {scope : Scope} {pos : Pos} {it acc : Value} {env : Env}
end

section
variable {X : Cx}
end
end L2

namespace L2
open PySem PySem.Spec PyProof.Rows

section
variable {κ : Type} [DecidableEq κ]
end


section
variable {P : Program} {w : World} {H : Hp} {h : Heap} {a : Addr}
end

section
variable {X : Cx} {pins : List (Addr × Obj)} {σ : St} {H : Hp} {s : Shared} {a : Addr} {y v : V} {u r : Value} {o : Option V} {A : Around} {E : Value → Shared → Prop}

end

section
variable {X : Cx} {pins : List (Addr × Obj)} {σ : St} {H : Hp} {s : Shared} {a : Addr} {kvs : List (Key × V)} {k : Key} {u : Value} {A : Around} {E : Value → Shared → Prop}
end


section
variable {X : Cx} {o i e value : Expr} {pos pos' tpos : Pos} {td ty tv : TE}
end


section
variable {X : Cx} {pos : Pos}
end

structure M1 (X : Cx) (o : Expr) (m : Str) (apos : Pos) (e : Expr) (cpos : Pos) : Prop where
  base : attributeBase o m X.env (eval o X.env) = eval o X.env
  few : ((backTo cpos (starEach [e] X.env)).all (fun x => !x.1) && (backToKw cpos (keywordEach [] X.env)).all (fun x => x.1.isSome)
    && decide (([e] : List Expr).length + ([] : List Keyword).length + (if ([] : List Keyword).isEmpty then 0 else 1) < 30)) = true
  line : (apos.endLine == cpos.line) = true
  trees : backTo cpos (starEach [e] X.env) = [(false, eval e X.env)]
structure M2 (X : Cx) (o : Expr) (m : Str) (apos : Pos) (e f : Expr) (cpos : Pos) : Prop where
  base : attributeBase o m X.env (eval o X.env) = eval o X.env
  few : ((backTo cpos (starEach [e, f] X.env)).all (fun x => !x.1) && (backToKw cpos (keywordEach [] X.env)).all (fun x => x.1.isSome)
    && decide (([e, f] : List Expr).length + ([] : List Keyword).length + (if ([] : List Keyword).isEmpty then 0 else 1) < 30)) = true
  line : (apos.endLine == cpos.line) = true
  trees : backTo cpos (starEach [e, f] X.env) = [(false, eval e X.env), (false, eval f X.env)]

section
variable {X : Cx} {pins : List (Addr × Obj)} {σ : St} {H : Hp} {s : Shared} {a : Addr} {y d : V} {u r : Value} {o : Option V} {A : Around} {E : Value → Shared → Prop}
end

section
variable {X : Cx} {o e f : Expr} {apos cpos : Pos} {td ty tx : TE}
end

section
variable {X : Cx} {pins : List (Addr × Obj)} {σ : St} {H : Hp} {s : Shared} {a : Addr} {kvs : List (Key × V)} {A : Around} {E : Value → Shared → Prop}
end


section
variable {X : Cx} {pins : List (Addr × Obj)} {σ : St} {H : Hp} {s : Shared} {a : Addr} {y : V} {u : Value} {A : Around} {E : Value → Shared → Prop}
end
end L2

namespace L2
open PySem PySem.Spec PyProof.Rows

section
variable {prog : Program} {w : World} {A : Around} {E : Value → Shared → Prop}
end

section
variable {X : Cx}
end
end L2

namespace L2
open PySem PySem.Spec PyProof.Rows

section
variable {X : Cx} {pins : List (Addr × Obj)} {σ : St} {H : Hp} {s : Shared} {h' : Heap}
theorem Inv.turnedL {t' : Nat} {ch : List Addr} (I : Inv X pins σ H s) (k : ∀ b o, b ∉ ch → s.heap.get? b = some o → h'.get? b = some o) (hf : ∀ b ∈ ch, FpOk X pins H b) : Inv X pins σ H { s with heap := h', toks := t' } := by
  have nit : ∀ b u, H b = some u → b ∉ ch := fun b u e z => by
    have q := (hf b z).1
    rw [q] at e; cases e
  refine I.step (g' := s.gens) (d' := s.drawn) (ch := ch) (fun b hb => ⟨(hf b hb).2.2.2.1, (hf b hb).2.1, (hf b hb).2.2.2.2.1, (hf b hb).2.2.2.2.2⟩) (fun b o _ _ hc e _ => k b o hc e) (fun b o _ _ hc e _ => ⟨o.slots, k b o hc e⟩)
    (fun _ _ _ _ n => n) (fun b o hc e => ⟨o, k b o hc e⟩) (fun _ _ e => e) (fun _ _ _ e => e) (fun b ps e => ⟨#[], by rw [e]; simp⟩) (fun m hm => ?_) (fun b u e => ?_) I.bare
  · obtain ⟨o, es, ep, ho, r⟩ := hm
    exact ⟨o, es, ep, k _ o (fun z => (hf _ z).2.1 rfl) ho, r⟩
  · refine (I.hok b u e).stay (fun c v hc q => k c v ?_ q) (fun _ q => q) fun _ _ q => q
    rcases hc with z | z
    · rw [z]; exact nit b u e
    · exact nit c _ z
theorem Inv.turnedNew {t' : Nat} {ch : List Addr} {T : Addr} {ob : HO} (I : Inv X pins σ H s) (k : ∀ b o, b ∉ ch → s.heap.get? b = some o → h'.get? b = some o) (hf : ∀ b ∈ ch, FpOk X pins H b) (hT : s.heap.objs.size ≤ T)
    (new : ObjOk X.prog X.w (upd H T ob) h' T ob) : Inv X pins σ (upd H T ob) { s with heap := h', toks := t' } := by
  have hn : H T = none := I.hok.fresh hT
  have nit : ∀ b u, H b = some u → b ∉ ch := fun b u e z => by
    have q := (hf b z).1
    rw [q] at e; cases e
  refine I.step (g' := s.gens) (d' := s.drawn) (ch := ch) (fun b hb => ⟨(hf b hb).2.2.2.1, (hf b hb).2.1, (hf b hb).2.2.2.2.1, (hf b hb).2.2.2.2.2⟩) (fun b o _ _ hc e _ => k b o hc e) (fun b o _ _ hc e _ => ⟨o.slots, k b o hc e⟩)
    (fun b o _ e n => ?_) (fun b o hc e => ⟨o, k b o hc e⟩) (fun b xs e => ?_) (fun b o u e => ?_) (fun b ps e => ⟨#[], ?_⟩) (fun m hm => ?_) (fun b u e => ?_) I.bare
  · rw [upd_ne (Nat.ne_of_lt (Nat.lt_of_lt_of_le (Heap.lt_size e) hT))]; exact n
  · rw [upd_ne (ne_of_none e hn)]; exact e
  · rw [upd_ne (ne_of_none e hn)]; exact e
  · rw [upd_ne (ne_of_none e hn), e]; simp
  · obtain ⟨o, es, ep, ho, r⟩ := hm
    exact ⟨o, es, ep, k _ o (fun z => (hf _ z).2.1 rfl) ho, r⟩
  · by_cases hb : b = T
    · subst hb
      rw [upd_same] at e
      cases e
      exact new
    · rw [upd_ne hb] at e
      refine (I.hok b u e).stay (fun c v hc q => k c v ?_ q) (fun c q => by rw [upd_ne (ne_of_none q hn)]; exact q) fun c xs q => by rw [upd_ne (ne_of_none q hn)]; exact q
      rcases hc with z | z
      · rw [z]; exact nit b u e
      · exact nit c _ z

end
def tLock (t : TS) : TS := fun D σ H => ∃ d u, H d = some u ∧ Mut (some u) ∧ ∀ od, t ⟨fun σ' H' => H' d = some (.frz od u) ∧ D.nx σ' (upd H' d u), fun v H' => H' d = some (.frz od u) ∧ D.rt v (upd H' d u), fun σ' H' => H' d = some (.frz od u) ∧ D.bk σ' (upd H' d u), fun σ' H' => H' d = some (.frz od u) ∧ D.ct σ' (upd H' d u)⟩ σ (upd H d (.frz od u))
section
variable {X : Cx}
end

section
variable {X : Cx} {tg : Expr}
end
section
variable {X : Cx} {tg : Expr}
end

section
variable {prog : Program} {w : World} {A : Around} {E : Value → Shared → Prop} {s : Shared}
end

section
variable {X : Cx} {pins : List (Addr × Obj)} {σ : St} {H : Hp} {s : Shared} {d : Addr} {o : Obj}
end

section
variable {P : Program} {w : World} {K : PySem.W.Frag} {tg : Expr} {d : Addr} {o : Obj} {es : Array DictEntry} {ep : Nat}
end

section
variable {X : Cx} {tg e : Expr} {td : TE} {apos cpos : Pos}
end

theorem boot_zip5 : bootBuiltins "zip" = some (.type "zip") := by decide +kernel
end L2

section 
namespace Bits
open PySem PyProof.Rows

end Bits
end 

section 
namespace TL
open PySem PySem.Builtin PySem.Builtin.Str PySem.StrLaws

abbrev tl (x : Str) : List Nat := x.cps.toList
def pre (S l : List Nat) : Bool := l.take S.length == S
def spl (S : List Nat) : Nat → List Nat → List Nat → List (List Nat)
  | _, acc, [] => [acc]
  | 0, acc, c :: r => if pre S (c :: r) = true then acc :: spl S (S.length - 1) [] r else spl S 0 (acc ++ [c]) r
  | k + 1, acc, _ :: r => spl S k acc r
def par (S : List Nat) : List Nat → List Nat → Option (List Nat × List Nat)
  | _, [] => none
  | acc, c :: r => if pre S (c :: r) = true then some (acc, (c :: r).drop S.length) else par S (acc ++ [c]) r

end TL
end 

namespace L2
open PySem PySem.Spec PyProof.Rows

section
variable {X : Cx} {pins : List (Addr × Obj)} {σ : St} {H : Hp} {s : Shared} {Q : VK}
end

section
variable {X : Cx}

end

section
variable {X : Cx} {o e : Expr} {to te : TE}
end
end L2

namespace L2
open PySem PySem.Spec PyProof.Rows

section
variable {X : Cx}
end

end L2

namespace Att
open PySem PySem.W PySem.Calls PyProof.Rows

section
variable {prog : Program} {w : World} {A : Around} {E : Value → Shared → Prop} {s : Shared} {K : Frag}

def ledger (h : Heap) (L d : Addr) : List (Addr × Obj) := (List.range h.objs.size).filterMap fun a => if a = L ∨ a = d then none else (h.get? a).map fun o => (a, o)
end
end Att

namespace L2
open PySem PySem.Spec PyProof.Rows

end L2

namespace L2
open PySem PySem.Spec PyProof.Rows

end L2



namespace L2
open PySem PySem.Spec PyProof.Rows

def inClass (s : Stmt) (j : Nat) : Stmt := match s with
  | .ClassDef _ _ _ body _ _ _ _ _ _ _ => body.getD j (.Pass ⟨0, 0, 0, 0⟩)
  | _ => .Pass ⟨0, 0, 0, 0⟩
def defArgs (s : Stmt) : Arguments := match s with
  | .FunctionDef _ a _ _ _ _ _ _ _ _ => a
  | _ => { posonlyargs := [], args := [], vararg := none, kwonlyargs := [], kw_defaults := [], kwarg := none, defaults := [] }
def defBody (s : Stmt) : List Stmt := match s with
  | .FunctionDef _ _ b _ _ _ _ _ _ _ => b
  | _ => []
def defScope (s : Stmt) : Scope := match s with
  | .FunctionDef _ _ _ _ _ _ sc _ _ _ => sc
  | _ => { kind := .function, names := [], isGenerator := false, isCoroutine := false }

abbrev E0 : XK := fun _ _ _ => False
structure Fun (K : PySem.W.Frag) (x qual : Str) (st : Stmt) (f : Addr) (fd : FuncData) : Prop where
  ex : ∃ (oc : Value) (od : Option Addr) (kV doc pm : Value) (an : Option Addr) (cdv ct : Value) (osl : Array (Option Value)),
    fd = PySem.W.fnOf x qual (defArgs st) (defBody st) (defScope st) .none kV doc pm an cdv ct ∧ K.lookup f = some ⟨oc, od, .func fd, osl⟩ ∧ PySem.W.codeIn K cdv qual = true
  kp : PySem.W.keepIn K (.ref f) = true
section
variable {P : Program} {w : World} {K : PySem.W.Frag} {mg : Str → Option Value} {base : Heap}
theorem Fun.binds {x qual : Str} {st : Stmt} {f : Addr} {fd : FuncData} {ps : List Str} (F : Fun K x qual st f fd)
    (h : ∀ (kV doc pm : Value) (an : Option Addr) (cdv ct : Value) (us : List Value), us.length = ps.length → bindArgs (PySem.W.fnOf x qual (defArgs st) (defBody st) (defScope st) .none kV doc pm an cdv ct) ⟨us, []⟩ = pure (ps.zip us)) : Binds K fd ps [] := by
  obtain ⟨oc, od, kV, doc, pm, an, cdv, ct, osl, rfl, lk, hcd⟩ := F.ex
  exact .all (h kV doc pm an cdv ct)
theorem fun_mk {x qual : Str} {st : Stmt} {f : Addr} {oc : Value} {od an : Option Addr} {osl : Array (Option Value)} {kV doc pm cdv ct : Value} (l : K.lookup f = some ⟨oc, od, .func (PySem.W.fnOf x qual (defArgs st) (defBody st) (defScope st) .none kV doc pm an cdv ct), osl⟩)
    (c : PySem.W.codeIn K cdv qual = true) (k : PySem.W.keepIn K (.ref f) = true) : Fun K x qual st f (PySem.W.fnOf x qual (defArgs st) (defBody st) (defScope st) .none kV doc pm an cdv ct) := ⟨⟨oc, od, kV, doc, pm, an, cdv, ct, osl, rfl, l, c⟩, k⟩
end
section
variable {X : Cx}
theorem pv (i : Nat) {x : Str} {pos : Pos} (hN : X.N[i]? = some x := by rfl) (hv : Vis X.env.scope x := by first | exact Or.inl rfl | exact Or.inr (Or.inl rfl) | exact Or.inr (Or.inr rfl)) (hd : (x == ("__debug__" : Str)) = false := by decide)
    (hcd : (x == ("__classdict__" : Str)) = false := by decide) : PE X (.Name x pos) (tVar i) := pe_var hN hv hd hcd
end

def Same (H H' : Hp) : Prop := ∀ b o, H b = some o → H' b = some o
section
variable {κ : Type} [DecidableEq κ]
end
theorem at_of {xs : List V} {z : Int} {j : Nat} {v : V} (e : z = (j : Int)) (h : xs[j]? = some v) : atI xs z = some v := by
  rw [e]
  exact atI_nat h
end L2

end
section
set_option Elab.async false
set_option linter.all false
set_option maxRecDepth 100000
set_option maxHeartbeats 2000000
namespace L2
open PySem PySem.Spec PyProof.Rows
open PySem.W (WData Codec OpenSpec Well WellAll ReadsW ReadsAllW)
mutual
inductive Dw (K : PySem.W.Frag) (H : Hp) : V → WData → Prop
  | non : Dw K H .non .none
  | bl (b : Bool) : Dw K H (.bl b) (.bool b)
  | int (i : Int) : Dw K H (.int i) (.int i)
  | str (x : Str) : Dw K H (.str x) (.str x)
  | byt (b : Array UInt8) : Dw K H (.byt b) (.bytes b.toList)
  | lst {a : Addr} {xs : List V} {ds : List WData} : SqL K H a xs → DwAll K H xs ds → Dw K H (.ref a) (.list ds)
  | tup {a : Addr} {xs : List V} {ds : List WData} : SqT K H a xs → DwAll K H xs ds → Dw K H (.ref a) (.tuple ds)
inductive DwAll (K : PySem.W.Frag) (H : Hp) : List V → List WData → Prop
  | nil : DwAll K H [] []
  | cons {v : V} {vs : List V} {d : WData} {ds : List WData} : Dw K H v d → DwAll K H vs ds → DwAll K H (v :: vs) (d :: ds)
end
theorem dw_ints {K : PySem.W.Frag} {H : Hp} : ∀ ns : List Int, DwAll K H (ns.map V.int) (ns.map WData.int)
  | [] => .nil
  | n :: r => .cons (.int n) (dw_ints r)
theorem ints_dw {K : PySem.W.Frag} {H : Hp} : ∀ (ns : List Int) (xs : List V), DwAll K H xs (ns.map WData.int) → xs = ns.map V.int
  | [], xs, h => by
    cases h
    rfl
  | n :: r, xs, h => by
    cases h with
    | cons h1 h2 =>
      cases h1
      rw [ints_dw r _ h2] <;> rfl
section
variable {P : Program} {w : World} {K : PySem.W.Frag} {H : Hp} {h : Heap} {R : PySem.W.WRecords} {cl : Str → Option Addr}
theorem sqL_at {a : Addr} {xs : List V} (hok : HOk P w H h) (KX : K.In h) (q : SqL K H a xs) : ∃ (its : List Value) (o : Obj) (n : Nat), Vals xs its ∧ h.get? a = some o ∧ o.cls = .type "list" ∧ o.data = .seq its.toArray n := by
  rcases q with q | ⟨o, its, n, e, hc, _, hd, _, hv⟩
  · obtain ⟨_, its, n, hv, e⟩ := (show ObjOk P w H h a (.lst xs) from q.ok hok)
    exact ⟨its, _, n, hv, e, rfl, rfl⟩
  · exact ⟨its.toList, o, n, hv, KX _ _ e, hc, by simp [hd]⟩
theorem sqT_at {a : Addr} {xs : List V} (hok : HOk P w H h) (KX : K.In h) (q : SqT K H a xs) : ∃ (its : List Value) (o : Obj) (n : Nat), Vals xs its ∧ h.get? a = some o ∧ o.cls = .type "tuple" ∧ o.data = .seq its.toArray n := by
  rcases q with q | ⟨o, its, n, e, hc, hd, _, hv⟩
  · obtain ⟨_, its, hv, o, e, hc, n, hd⟩ := (show ObjOk P w H h a (.tup xs) from q.ok hok)
    exact ⟨its, o, n, hv, e, hc, hd⟩
  · exact ⟨its.toList, o, n, hv, KX _ _ e, hc, by simp [hd]⟩
mutual
theorem Dw.reads (hok : HOk P w H h) (KX : K.In h) : ∀ (d : WData) (v : V) (u : Value), Dw K H v d → RelV v u → ∃ as, ReadsW R cl h u d as
  | .none, _, _, x, r => by
    cases x
    cases r
    exact ⟨_, ReadsW.none⟩
  | .bool b, _, _, x, r => by
    cases x
    cases r
    exact ⟨_, ReadsW.bool b⟩
  | .int i, _, _, x, r => by
    cases x
    obtain ⟨t, rfl⟩ := r
    exact ⟨_, ReadsW.int i t⟩
  | .str s, _, _, x, r => by
    cases x
    obtain ⟨t, rfl⟩ := r
    exact ⟨_, ReadsW.str s t⟩
  | .bytes b, _, _, x, r => by
    cases x
    obtain ⟨t, rfl⟩ := r
    exact ⟨_, ReadsW.bytes _ t⟩
  | .list ds, _, _, x, r => by
    cases x with
    | lst hs ha =>
      cases r
      obtain ⟨its, o, n, rv, ho, hc, hd⟩ := sqL_at hok KX hs
      obtain ⟨as, hr⟩ := Dw.readsAll hok KX ds _ its ha rv
      exact ⟨_, ReadsW.list ho hc hd hr⟩
  | .tuple ds, _, _, x, r => by
    cases x with
    | tup hs ha =>
      cases r
      obtain ⟨its, o, n, rv, ho, hc, hd⟩ := sqT_at hok KX hs
      obtain ⟨as, hr⟩ := Dw.readsAll hok KX ds _ its ha rv
      exact ⟨_, ReadsW.tuple ho hc hd hr⟩
  | .float _, _, _, x, _ => by cases x
  | .dict _, _, _, x, _ => by cases x
  | .bytearray _, _, _, x, _ => by cases x
  | .set _, _, _, x, _ => by cases x
  | .frozenset _, _, _, x, _ => by cases x
  | .obj _ _, _, _, x, _ => by cases x
theorem Dw.readsAll (hok : HOk P w H h) (KX : K.In h) : ∀ (ds : List WData) (vs : List V) (us : List Value), DwAll K H vs ds → Vals vs us → ∃ as, ReadsAllW R cl h us ds as
  | [], _, _, x, r => by
    cases x
    cases r
    exact ⟨_, ReadsAllW.nil⟩
  | d :: ds, _, _, x, r => by
    cases x with
    | cons h1 h2 =>
      cases r with
      | cons r1 r2 =>
        obtain ⟨as, q1⟩ := Dw.reads hok KX d _ _ h1 r1
        obtain ⟨bs, q2⟩ := Dw.readsAll hok KX ds _ _ h2 r2
        exact ⟨_, ReadsAllW.cons q1 q2⟩
end
end
mutual
def plW : WData → Bool
  | .none => true
  | .bool _ => true
  | .int _ => true
  | .str _ => true
  | .bytes _ => true
  | .list xs => plWs xs
  | .tuple xs => plWs xs
  | _ => false
def plWs : List WData → Bool
  | [] => true
  | x :: r => plW x && plWs r
end
theorem plWs_map {α : Type} {f : α → WData} (h : ∀ a, plW (f a) = true) : ∀ l : List α, plWs (l.map f) = true
  | [] => rfl
  | x :: r => by
    show (plW (f x) && plWs (r.map f)) = true
    rw [h x, plWs_map h r] <;> rfl
theorem pl_enc : ∀ (c : Codec) (a : c.denote), plW (c.enc a) = true
  | .unit, _ => rfl
  | .bool, _ => rfl
  | .int _ _, _ => rfl
  | .nat _ _, _ => rfl
  | .u8, _ => rfl
  | .bytes _ _, _ => rfl
  | .text _ _ _ _, _ => rfl
  | .list _ _ c, a => plWs_map (fun x => pl_enc c x) a
  | .pair c d, a => by
    show (plW (c.enc a.1) && (plW (d.enc a.2) && true)) = true
    rw [pl_enc c a.1, pl_enc d a.2] <;> rfl
  | .triple c d e, a => by
    show (plW (c.enc a.1) && (plW (d.enc a.2.1) && (plW (e.enc a.2.2) && true))) = true
    rw [pl_enc c a.1, pl_enc d a.2.1, pl_enc e a.2.2] <;> rfl
  | .option c, none => rfl
  | .option c, some x => pl_enc c x
theorem pl_encAll : ∀ (cs : List Codec) (a : Codec.denoteAll cs), plWs (Codec.encAll cs a) = true
  | [], _ => rfl
  | c :: cs, a => by
    show (plW (c.enc a.1) && plWs (Codec.encAll cs a.2)) = true
    rw [pl_enc c a.1, pl_encAll cs a.2] <;> rfl
theorem weight_mem : ∀ {xs : List WData} {d : WData}, d ∈ xs → d.weight ≤ WData.weightAll xs
  | [], d, h => absurd h (by simp)
  | x :: r, d, h => by
    show d.weight ≤ x.weight + 1 + WData.weightAll r
    rcases List.mem_cons.mp h with e | m
    · rw [e]
      omega
    · have z := weight_mem m
      omega
def toV : Value → V
  | .none => .non
  | .bool b => .bl b
  | .int i _ => .int i
  | .str x _ => .str x
  | .bytes b _ => .byt b
  | .ref a => .ref a
  | _ => .non
def OkU (A : List Addr) : Value → Prop
  | .none => True
  | .bool _ => True
  | .int _ _ => True
  | .str _ _ => True
  | .bytes _ _ => True
  | .ref a => a ∈ A
  | _ => False
theorem OkU.mono {A B : List Addr} (h : ∀ a ∈ A, a ∈ B) : ∀ {u : Value}, OkU A u → OkU B u := fun {u} x => by
  cases u with
  | ref a => exact h a x
  | none => trivial
  | bool b => trivial
  | int i t => trivial
  | str s t => trivial
  | bytes b t => trivial
  | _ => exact False.elim x
theorem relV_toV {A : List Addr} {u : Value} (x : OkU A u) : RelV (toV u) u := by
  cases u with
  | ref a => rfl
  | none => rfl
  | bool b => rfl
  | int i t => exact ⟨t, rfl⟩
  | str s t => exact ⟨t, rfl⟩
  | bytes b t => exact ⟨t, rfl⟩
  | _ => exact False.elim x
theorem vals_toV {A : List Addr} : ∀ {vs : List Value}, (∀ u ∈ vs, OkU A u) → Vals (vs.map toV) vs
  | [], _ => .nil
  | u :: r, h => .cons (relV_toV (h u (List.mem_cons_self ..))) (vals_toV fun x hx => h x (List.mem_cons_of_mem _ hx))
def ArgOb (h : Heap) (A : List Addr) (a : Addr) : Prop := ∃ vs : List Value, vs.length ≤ sizeLine ∧ (∀ u ∈ vs, OkU A u) ∧
  (h.get? a = some { cls := .type "list", data := .seq vs.toArray } ∨ h.get? a = some { cls := .type "tuple", data := .seq vs.toArray })
theorem ArgOb.mono {h : Heap} {A B : List Addr} {a : Addr} (k : ∀ a ∈ A, a ∈ B) (x : ArgOb h A a) : ArgOb h B a := by
  obtain ⟨vs, h1, h2, h3⟩ := x
  exact ⟨vs, h1, fun u hu => (h2 u hu).mono k, h3⟩
theorem wellAll_len {P : Params} {h : Heap} : ∀ {vs : List Value} {ds : List WData}, WellAll P h vs ds → vs.length = ds.length
  | _, _, .nil => rfl
  | _, _, .cons _ b => by
    show _ + 1 = _ + 1
    rw [wellAll_len b]
theorem well_list {P : Params} {h : Heap} {v : Value} {ds : List WData} (x : Well P h v (.list ds)) : ∃ (a : Addr) (vs : List Value), v = .ref a ∧ h.get? a = some { cls := .type "list", data := .seq vs.toArray } ∧ WellAll P h vs ds := by
  cases x with
  | list ho hall => exact ⟨_, _, rfl, ho, hall⟩
theorem well_tuple {P : Params} {h : Heap} {v : Value} {ds : List WData} (x : Well P h v (.tuple ds)) : ∃ (a : Addr) (vs : List Value), v = .ref a ∧ h.get? a = some { cls := .type "tuple", data := .seq vs.toArray } ∧ WellAll P h vs ds := by
  cases x with
  | tuple ho hall => exact ⟨_, _, rfl, ho, hall⟩
theorem well_cons {P : Params} {h : Heap} {us : List Value} {d : WData} {ds : List WData} (x : WellAll P h us (d :: ds)) : ∃ (v : Value) (vs : List Value), us = v :: vs ∧ Well P h v d ∧ WellAll P h vs ds := by
  cases x with
  | cons a b => exact ⟨_, _, rfl, a, b⟩
theorem line_of {n : Nat} (h : n ≤ 1048576) : n ≤ sizeLine := Nat.le_trans h (by decide)
section
variable {P : Params} {h : Heap}
mutual
theorem area_one : ∀ (d : WData) (v : Value), Well P h v d → plW d = true → d.weight ≤ 1048576 → ∃ A : List Addr, OkU A v ∧ ∀ a ∈ A, ArgOb h A a
  | .none, _, x, _, _ => by
    cases x
    exact ⟨[], trivial, fun a m => absurd m (by simp)⟩
  | .bool b, _, x, _, _ => by
    cases x
    exact ⟨[], trivial, fun a m => absurd m (by simp)⟩
  | .int i, _, x, _, _ => by
    cases x
    exact ⟨[], trivial, fun a m => absurd m (by simp)⟩
  | .str s, _, x, _, _ => by
    cases x
    exact ⟨[], trivial, fun a m => absurd m (by simp)⟩
  | .bytes b, _, x, _, _ => by
    cases x
    exact ⟨[], trivial, fun a m => absurd m (by simp)⟩
  | .list ds, _, x, p, z => by
    obtain ⟨a, vs, rfl, ho, hall⟩ := well_list x
    have z2 : WData.weightAll ds ≤ 1048576 := z
    obtain ⟨A, h1, h2⟩ := area_all ds _ hall p fun d hd => Nat.le_trans (weight_mem hd) z2
    have k : ∀ b ∈ A, b ∈ a :: A := fun b hb => List.mem_cons_of_mem _ hb
    refine ⟨a :: A, List.mem_cons_self .., fun b hb => ?_⟩
    rcases List.mem_cons.mp hb with e | m
    · rw [e]
      exact ⟨vs, line_of (by rw [wellAll_len hall]; exact Nat.le_trans (PySem.W.length_le_weightAllW ds) z2), fun u hu => (h1 u hu).mono k, .inl ho⟩
    · exact (h2 b m).mono k
  | .tuple ds, _, x, p, z => by
    obtain ⟨a, vs, rfl, ho, hall⟩ := well_tuple x
    have z2 : WData.weightAll ds ≤ 1048576 := z
    obtain ⟨A, h1, h2⟩ := area_all ds _ hall p fun d hd => Nat.le_trans (weight_mem hd) z2
    have k : ∀ b ∈ A, b ∈ a :: A := fun b hb => List.mem_cons_of_mem _ hb
    refine ⟨a :: A, List.mem_cons_self .., fun b hb => ?_⟩
    rcases List.mem_cons.mp hb with e | m
    · rw [e]
      exact ⟨vs, line_of (by rw [wellAll_len hall]; exact Nat.le_trans (PySem.W.length_le_weightAllW ds) z2), fun u hu => (h1 u hu).mono k, .inr ho⟩
    · exact (h2 b m).mono k
  | .float _, _, _, p, _ => Bool.noConfusion (show false = true from p)
  | .dict _, _, _, p, _ => Bool.noConfusion (show false = true from p)
  | .bytearray _, _, _, p, _ => Bool.noConfusion (show false = true from p)
  | .set _, _, _, p, _ => Bool.noConfusion (show false = true from p)
  | .frozenset _, _, _, p, _ => Bool.noConfusion (show false = true from p)
  | .obj _ _, _, _, p, _ => Bool.noConfusion (show false = true from p)
theorem area_all : ∀ (ds : List WData) (vs : List Value), WellAll P h vs ds → plWs ds = true → (∀ d ∈ ds, d.weight ≤ 1048576) → ∃ A : List Addr, (∀ u ∈ vs, OkU A u) ∧ ∀ a ∈ A, ArgOb h A a
  | [], _, x, _, _ => by
    cases x
    exact ⟨[], fun u m => absurd m (by simp), fun a m => absurd m (by simp)⟩
  | d :: ds, _, x, p, z => by
    obtain ⟨v, vs, rfl, x1, x2⟩ := well_cons x
    have q : plW d = true ∧ plWs ds = true := Bool.and_eq_true_iff.mp p
    obtain ⟨A, a1, a2⟩ := area_one d v x1 q.1 (z d (List.mem_cons_self ..))
    obtain ⟨B, b1, b2⟩ := area_all ds vs x2 q.2 fun e he => z e (List.mem_cons_of_mem _ he)
    have kA : ∀ b ∈ A, b ∈ A ++ B := fun b hb => List.mem_append.mpr (.inl hb)
    have kB : ∀ b ∈ B, b ∈ A ++ B := fun b hb => List.mem_append.mpr (.inr hb)
    refine ⟨A ++ B, fun u hu => ?_, fun b hb => ?_⟩
    · rcases List.mem_cons.mp hu with e | m
      · rw [e]
        exact a1.mono kA
      · exact (b1 u m).mono kB
    · rcases List.mem_append.mp hb with m | m
      · exact (a2 b m).mono kA
      · exact (b2 b m).mono kB
end
end
def hoOf (o : Obj) : Option HO := match o.data with
  | .seq vs _ => if (o.cls == Value.type "list") = true then some (.frz o (.lst (vs.toList.map toV))) else some (.frz o (.tup (vs.toList.map toV)))
  | _ => none
def argH (K : PySem.W.Frag) (h : Heap) (A : List Addr) : Hp := fun b => if b ∈ A then (if (K.lookup b).isNone = true then (h.get? b).bind hoOf else none) else none
def OnlyF (H : Hp) : Prop := ∀ b, H b = none ∨ ∃ o u, H b = some (.frz o u)
theorem hoOf_lst (vs : List Value) : hoOf { cls := .type "list", data := .seq vs.toArray } = some (.frz { cls := .type "list", data := .seq vs.toArray } (.lst (vs.map toV))) := by
  show (if (Value.type "list" == Value.type "list") = true then some (HO.frz { cls := .type "list", data := .seq vs.toArray } (.lst (vs.toArray.toList.map toV))) else some (HO.frz { cls := .type "list", data := .seq vs.toArray } (.tup (vs.toArray.toList.map toV)))) = _
  rw [if_pos (beq_self_eq_true _)]
theorem hoOf_tup (vs : List Value) : hoOf { cls := .type "tuple", data := .seq vs.toArray } = some (.frz { cls := .type "tuple", data := .seq vs.toArray } (.tup (vs.map toV))) := by
  show (if (Value.type "tuple" == Value.type "list") = true then some (HO.frz { cls := .type "tuple", data := .seq vs.toArray } (.lst (vs.toArray.toList.map toV))) else some (HO.frz { cls := .type "tuple", data := .seq vs.toArray } (.tup (vs.toArray.toList.map toV)))) = _
  rw [if_neg (by decide)]
section
variable {P : Program} {w : World} {K : PySem.W.Frag} {h : Heap} {A : List Addr}
theorem argH_at {b : Addr} {o : Obj} (hb : b ∈ A) (hk : K.lookup b = none) (e : h.get? b = some o) : argH K h A b = hoOf o := by
  unfold argH
  rw [if_pos hb, hk, if_pos (show (none : Option Obj).isNone = true from rfl), e] <;> rfl
theorem of_argH {b : Addr} {u : HO} (q : argH K h A b = some u) : b ∈ A ∧ K.lookup b = none := by
  unfold argH at q
  by_cases hb : b ∈ A
  · rw [if_pos hb] at q
    cases hk : K.lookup b with
    | none => exact ⟨hb, rfl⟩
    | some o =>
      rw [hk, if_neg (by simp)] at q
      cases q
  · rw [if_neg hb] at q
    cases q
theorem argH_is (ar : ∀ a ∈ A, ArgOb h A a) {b : Addr} {u : HO} (q : argH K h A b = some u) : K.lookup b = none ∧ ∃ vs : List Value, vs.length ≤ sizeLine ∧ (∀ u ∈ vs, OkU A u) ∧
    ((h.get? b = some { cls := .type "list", data := .seq vs.toArray } ∧ u = .frz { cls := .type "list", data := .seq vs.toArray } (.lst (vs.map toV))) ∨
     (h.get? b = some { cls := .type "tuple", data := .seq vs.toArray } ∧ u = .frz { cls := .type "tuple", data := .seq vs.toArray } (.tup (vs.map toV)))) := by
  obtain ⟨hb, hk⟩ := of_argH q
  obtain ⟨vs, h1, h2, h3⟩ := ar b hb
  refine ⟨hk, vs, h1, h2, ?_⟩
  rcases h3 with e | e
  · rw [argH_at hb hk e, hoOf_lst] at q
    exact .inl ⟨e, (Option.some.inj q).symm⟩
  · rw [argH_at hb hk e, hoOf_tup] at q
    exact .inr ⟨e, (Option.some.inj q).symm⟩
theorem argH_only (ar : ∀ a ∈ A, ArgOb h A a) : OnlyF (argH K h A) := fun b => by
  cases q : argH K h A b with
  | none => exact .inl rfl
  | some u =>
    obtain ⟨_, vs, _, _, ⟨_, e⟩ | ⟨_, e⟩⟩ := argH_is ar q
    · exact .inr ⟨_, _, by rw [e]⟩
    · exact .inr ⟨_, _, by rw [e]⟩
theorem argH_ok (ar : ∀ a ∈ A, ArgOb h A a) : HOk P w (argH K h A) h := fun b u q => by
  obtain ⟨_, vs, h1, h2, ⟨e, rfl⟩ | ⟨e, rfl⟩⟩ := argH_is ar q
  · exact ⟨e, by rw [List.length_map]; exact h1, vs, _, vals_toV h2, e⟩
  · exact ⟨e, by rw [List.length_map]; exact h1, vs, vals_toV h2, _, e, rfl, _, rfl⟩
theorem seq_inj {c c' : Value} {vs us : List Value} (e : (some { cls := c, data := .seq vs.toArray } : Option Obj) = some { cls := c', data := .seq us.toArray }) : c = c' ∧ vs = us := by
  have e1 := Option.some.inj e
  have e2 : c = c' := congrArg Obj.cls e1
  have e3 : Data.seq vs.toArray = Data.seq us.toArray := congrArg Obj.data e1
  injection e3 with e4
  refine ⟨e2, ?_⟩
  have e5 := congrArg Array.toList e4
  simpa using e5
theorem argL (KX : K.In h) (ar : ∀ a ∈ A, ArgOb h A a) {a : Addr} {vs : List Value} (ha : a ∈ A) (e : h.get? a = some { cls := .type "list", data := .seq vs.toArray }) : (∀ u ∈ vs, OkU A u) ∧ SqL K (argH K h A) a (vs.map toV) := by
  obtain ⟨us, h1, h2, h3⟩ := ar a ha
  have hu : us = vs := by
    rcases h3 with q | q
    · rw [e] at q
      exact (seq_inj q).2.symm
    · rw [e] at q
      exact absurd (Value.type.inj (seq_inj q).1) (by decide)
  subst hu
  refine ⟨h2, ?_⟩
  cases hk : K.lookup a with
  | none => exact .inl (.inr ⟨_, by rw [argH_at ha hk e, hoOf_lst]⟩)
  | some o =>
    have e2 := KX a o hk
    rw [e] at e2
    obtain rfl := Option.some.inj e2
    exact .inr ⟨_, us.toArray, _, hk, rfl, rfl, rfl, by rw [List.size_toArray]; exact h1, by simpa using vals_toV h2⟩
theorem argT (KX : K.In h) (ar : ∀ a ∈ A, ArgOb h A a) {a : Addr} {vs : List Value} (ha : a ∈ A) (e : h.get? a = some { cls := .type "tuple", data := .seq vs.toArray }) : (∀ u ∈ vs, OkU A u) ∧ SqT K (argH K h A) a (vs.map toV) := by
  obtain ⟨us, h1, h2, h3⟩ := ar a ha
  have hu : us = vs := by
    rcases h3 with q | q
    · rw [e] at q
      exact absurd (Value.type.inj (seq_inj q).1) (by decide)
    · rw [e] at q
      exact (seq_inj q).2.symm
  subst hu
  refine ⟨h2, ?_⟩
  cases hk : K.lookup a with
  | none => exact .inl (.inr ⟨_, by rw [argH_at ha hk e, hoOf_tup]⟩)
  | some o =>
    have e2 := KX a o hk
    rw [e] at e2
    obtain rfl := Option.some.inj e2
    exact .inr ⟨_, us.toArray, _, hk, rfl, rfl, by rw [List.size_toArray]; exact h1, by simpa using vals_toV h2⟩
mutual
theorem dw_one {Pm : Params} (KX : K.In h) (ar : ∀ a ∈ A, ArgOb h A a) : ∀ (d : WData) (v : Value), Well Pm h v d → plW d = true → OkU A v → Dw K (argH K h A) (toV v) d
  | .none, _, x, _, _ => by
    cases x
    exact .non
  | .bool b, _, x, _, _ => by
    cases x
    exact .bl b
  | .int i, _, x, _, _ => by
    cases x
    exact .int i
  | .str s, _, x, _, _ => by
    cases x
    exact .str s
  | .bytes b, _, x, _, _ => by
    cases x
    have z := Dw.byt (K := K) (H := argH K h A) b.toArray
    exact z
  | .list ds, _, x, p, hu => by
    obtain ⟨a, vs, rfl, ho, hall⟩ := well_list x
    obtain ⟨h2, hs⟩ := argL KX ar hu ho
    exact .lst hs (dw_all KX ar ds _ hall p h2)
  | .tuple ds, _, x, p, hu => by
    obtain ⟨a, vs, rfl, ho, hall⟩ := well_tuple x
    obtain ⟨h2, hs⟩ := argT KX ar hu ho
    exact .tup hs (dw_all KX ar ds _ hall p h2)
  | .float _, _, _, p, _ => Bool.noConfusion (show false = true from p)
  | .dict _, _, _, p, _ => Bool.noConfusion (show false = true from p)
  | .bytearray _, _, _, p, _ => Bool.noConfusion (show false = true from p)
  | .set _, _, _, p, _ => Bool.noConfusion (show false = true from p)
  | .frozenset _, _, _, p, _ => Bool.noConfusion (show false = true from p)
  | .obj _ _, _, _, p, _ => Bool.noConfusion (show false = true from p)
theorem dw_all {Pm : Params} (KX : K.In h) (ar : ∀ a ∈ A, ArgOb h A a) : ∀ (ds : List WData) (vs : List Value), WellAll Pm h vs ds → plWs ds = true → (∀ u ∈ vs, OkU A u) → DwAll K (argH K h A) (vs.map toV) ds
  | [], _, x, _, _ => by
    cases x
    exact .nil
  | d :: ds, _, x, p, hu => by
    obtain ⟨v, vs, rfl, x1, x2⟩ := well_cons x
    have q : plW d = true ∧ plWs ds = true := Bool.and_eq_true_iff.mp p
    exact .cons (dw_one KX ar d v x1 q.1 (hu _ (List.mem_cons_self ..))) (dw_all KX ar ds vs x2 q.2 fun u m => hu u (List.mem_cons_of_mem _ m))
end
end
theorem spec_call {P : Program} {w : World} {K : PySem.W.Frag} {mg mb : Str → Option Value} {CX : CXT} {k : Nat} {fa : Addr} {fd : FuncData} {ps : List Str} {sp : Sp} {s₁ : Shared} {vals : List Value} {ds : List WData} {R : PySem.W.WRecords} {cl : Str → Option Addr} {d0 : WData}
    (KX : K.In s₁.heap) (hns : s₁.heap.Ns mainGlobals mg) (hb : s₁.heap.Ns builtinsNs mb) (hbb : ∀ x : Str, x ≠ "__name__" → mb x = bootBuiltins x) (hlim : s₁.heap.NoLimit) (hg : s₁.gens = #[])
    (hwl : WellAll w.params s₁.heap vals ds) (hpl : plWs ds = true) (hwt : ∀ d ∈ ds, d.weight ≤ 1048576) (hr : Room k callerA)
    (F : ∀ base : Heap, K.In base → base.Ns mainGlobals mg → FnOk P w K mg base CX k fa fd ps sp) (hbind : ∀ (s : Shared) (us : List Value), us.length = ps.length → BindsTo s fd ⟨us, []⟩ (ps.zip us)) (hlen : ds.length = ps.length)
    (hsp : ∀ (H : Hp) (xs : List V), OnlyF H → DwAll K H xs ds → sp xs H (fun v H' => Dw K H' v d0) fun _ _ _ => False)
    (hCX : ∀ H e s', CX [] H s₁ (fun _ _ _ => False) e s' → False) :
    codeAny (model P w) callerA (.call (.ref fa) ⟨vals, []⟩) (fun r s' => ∃ u as, r = .ok (.ret u) ∧ ReadsW R cl s'.heap u d0 as ∧ OldK s₁.heap s'.heap ∧ s'.os = s₁.os ∧ AllBare s'.gens) s₁ := by
  obtain ⟨A, ho, ar⟩ := area_all ds vals hwl hpl hwt
  have hO : OnlyF (argH K s₁.heap A) := argH_only ar
  have hok : HOk P w (argH K s₁.heap A) s₁.heap := argH_ok ar
  have hS := dw_all KX ar ds vals hwl hpl ho
  have hV := vals_toV ho
  have hK : ∀ b u, argH K s₁.heap A b = some u → K.lookup b = none := fun b u q => (argH_is ar q).1
  have noA : ∀ {b : Addr} {o : Obj} {es : Array DictEntry} {ep : Nat}, s₁.heap.get? b = some o → o.data = .dict es ep → argH K s₁.heap A b = none := fun {b o es ep} e d => by
    cases q : argH K s₁.heap A b with
    | none => rfl
    | some u =>
      obtain ⟨_, vs, _, _, ⟨e2, _⟩ | ⟨e2, _⟩⟩ := argH_is ar q
      · rw [e2] at e
        cases e
        have d' : Data.seq vs.toArray _ = Data.dict es ep := d
        cases d'
      · rw [e2] at e
        cases e
        have d' : Data.seq vs.toArray _ = Data.dict es ep := d
        cases d'
  generalize argH K s₁.heap A = H at hO hok hS hK noA
  have base_of : ∀ {b : Addr} {o : Obj}, s₁.heap.get? b = some o → H b = none → (hidT s₁.heap H).get? b = some o := fun e n => hidT_get e n
  have nsK : ∀ {b : Addr} {m : Str → Option Value}, s₁.heap.Ns b m → (hidT s₁.heap H).Ns b m := fun {b m} ⟨o, es, ep, e, d, r⟩ => ⟨o, es, ep, base_of e (noA e d), d, r⟩
  have nK : ∀ b o, K.lookup b = some o → H b = none := fun b o e => by
    cases q : H b with
    | none => rfl
    | some u =>
      rw [hK b u q] at e
      cases e
  have hKb : K.In (hidT s₁.heap H) := fun b o e => base_of (KX b o e) (nK b o e)
  have hM : Mod K mg (hidT s₁.heap H) := ⟨hKb, nsK hns, ⟨mb, nsK hb, hbb⟩, let ⟨mc, h1, h2⟩ := hlim; ⟨mc, nsK h1, h2⟩⟩
  have e0 : Env0 P w K mg (hidT s₁.heap H) callerA [] s₁ H := ⟨rfl, hM, fun b o e => of_hidT e, Nat.le_of_eq (hidT_size _ _), trivial, fun b hb => absurd (show b ∈ ([] : List Addr) from hb) (by simp), hok, .of_eq hg⟩
  have hl : vals.length = ps.length := by rw [wellAll_len hwl]; exact hlen
  refine codeAny_mono ((F _ hKb (nsK hns)).run callerA [] s₁ H ⟨vals, []⟩ vals (vals.map toV) _ _ hr e0 (hbind s₁ vals hl) hV (hsp H _ hO hS)) fun r s' x => ?_
  cases r with
  | error e => exact (hCX H e s' x).elim
  | ok fl =>
    cases fl with
    | next => exact False.elim x
    | brk => exact False.elim x
    | cont => exact False.elim x
    | ret u =>
      obtain ⟨v, H', os, bare, un, hok', r', q⟩ := x
      have kept : ∀ b o, s₁.heap.get? b = some o → s'.heap.get? b = some o := fun b o e => by
        cases q2 : H b with
        | none => exact un.keep b o e q2 (by intro z; exact absurd (show b ∈ ([] : List Addr) from z) (by simp)) (by simp)
        | some u2 =>
          rcases hO b with z | ⟨ob, u3, z⟩
          · rw [q2] at z
            cases z
          · have z2 := un.frzs b ob _ z
            obtain ⟨e1, _⟩ := hok b _ z
            obtain ⟨e2, _⟩ := hok' b _ z2
            rw [e] at e1
            cases e1
            exact e2
      have KX' : K.In s'.heap := fun b o e => kept b o (KX b o e)
      obtain ⟨as, hrd⟩ := Dw.reads (R := R) (cl := cl) hok' KX' d0 v u q r'
      exact ⟨u, as, rfl, hrd, OldK.of_keep kept, os, bare⟩
theorem layable_weight {ds : List WData} (h : WData.layableAll ds = true) : ∀ d ∈ ds, d.weight ≤ 1048576 := fun d hd =>
  (PySem.W.layableW_iff.mp (List.all_eq_true.mp h d hd)).2.2
theorem encAll_len : ∀ (cs : List Codec) (a : Codec.denoteAll cs), (Codec.encAll cs a).length = cs.length
  | [], _ => rfl
  | c :: cs, a => by
    show (Codec.encAll cs a.2).length + 1 = cs.length + 1
    rw [encAll_len cs a.2]
theorem walk_spec {r : OpenSpec} {k : Nat} {q : Program} {loose : List Str} {XP : (Str → Option Value) → Heap → Prop} {YP : World → Heap → Prop} {d : DefRec} {K : Params → PySem.W.Frag} {CX : World → CXT} {ps : List Str} {sp : World → Sp}
    (hwell : r.wellSaid = true) (hdf : d.params.defaults = []) (hlen : r.args.length = ps.length) (hr : Room k callerA)
    (hY : ∀ (w : World) (h : Heap), YP w h → (K w.params).In h)
    (F : ∀ (w : World) (mg : Str → Option Value) (fa : Addr) (h : Heap), YP w h → (K w.params).In h → h.Ns mainGlobals mg → mg d.name = some (.ref fa) →
      ∃ fd : FuncData, (∀ (s : Shared) (us : List Value), us.length = ps.length → BindsTo s fd ⟨us, []⟩ (ps.zip us)) ∧
        ∀ base : Heap, (K w.params).In base → base.Ns mainGlobals mg → FnOk r.prog w (K w.params) mg base (CX w) k fa fd ps (sp w))
    (hsp : ∀ (w : World) (H : Hp) (xs : List V) (a : Codec.denoteAll r.args), OnlyF H → Codec.withinAll r.args a = true → Codec.app r.args r.asked a = true → DwAll (K w.params) H xs (Codec.encAll r.args a) →
      sp w xs H (fun v H' => Dw (K w.params) H' v (r.ret.enc (Codec.app r.args r.f a))) fun _ _ _ => False)
    (hCX : ∀ (w : World) (H : Hp) (s : Shared) (e : Value) (s' : Shared), CX w [] H s (fun _ _ _ => False) e s' → False) :
    PySem.W.WalkOS q loose XP YP r d [] (fun f vs => PySem.call f vs) := by
  intro w s_0 s₁ mg mb G Y fa o pm cd doc dV kV ho hd hcd hD hmg hg args vals as hpre hlay hrd hwl hlo
  obtain ⟨a, e1, e2⟩ := PySem.W.os_pre_some hpre
  obtain ⟨e3, hwi⟩ := Codec.encAll_of_decAll r.args args a e1
  subst e3
  have KX := hY w _ Y
  obtain ⟨fd, hb, hF⟩ := F w mg fa _ Y KX G.T.g hmg
  refine PySem.W.enter_call (codeAny_mono (spec_call (R := []) (cl := classAt s_0.heap) (d0 := r.ret.enc (Codec.app r.args r.f a)) KX G.T.g G.T.b G.T.builtins G.T.nolimit hg hwl (pl_encAll _ _) (layable_weight hlay) hr hF hb (by rw [encAll_len]; exact hlen)
    (fun H xs hO hS => hsp w H xs a hO hwi e2 hS) fun H e s' => hCX w H s₁ e s') fun r' s' hq => ?_)
  obtain ⟨u, as', rfl, h1, h2, h3, h4⟩ := hq
  exact ⟨.inl ⟨u, _, as', rfl, fun _ => rfl, h1, (OpenSpec.post_iff hwell hwi _ _).mpr rfl, fun z => Bool.noConfusion (show false = true from z)⟩, h2, h3, h4⟩
end L2

namespace L2
open PySem PySem.Spec PyProof.Rows
open PySem.W (WData Codec OpenSpec Well WellAll ReadsW ReadsAllW)
theorem walk_specX {r : OpenSpec} {k : Nat} {q : Program} {loose : List Str} {XP : (Str → Option Value) → Heap → Prop} {YP : World → Heap → Prop} {d : DefRec} {K : Params → PySem.W.Frag} {CX : World → CXT} {ps : List Str} {sp : PySem.W.Frag → Sp}
    (hwell : r.wellSaid = true) (hdf : d.params.defaults = []) (hlen : r.args.length = ps.length) (hr : Room k callerA)
    (hY : ∀ (w : World) (h : Heap), YP w h → (K w.params).In h)
    (F : ∀ (w : World) (mg : Str → Option Value) (fa : Addr) (h : Heap), YP w h → (K w.params).In h → h.Ns mainGlobals mg → mg d.name = some (.ref fa) →
      ∃ fd : FuncData, (∀ (s : Shared) (us : List Value), us.length = ps.length → BindsTo s fd ⟨us, []⟩ (ps.zip us)) ∧
        ∀ base : Heap, (K w.params).In base → base.Ns mainGlobals mg → FnOk r.prog w (K w.params) mg base (CX w) k fa fd ps (sp (K w.params)))
    (hsp : ∀ (K : PySem.W.Frag) (H : Hp) (xs : List V) (a : Codec.denoteAll r.args), OnlyF H → Codec.withinAll r.args a = true → Codec.app r.args r.asked a = true → DwAll K H xs (Codec.encAll r.args a) →
      sp K xs H (fun v H' => Dw K H' v (r.ret.enc (Codec.app r.args r.f a))) fun _ _ _ => False)
    (hCX : ∀ (w : World) (H : Hp) (s : Shared) (e : Value) (s' : Shared), CX w [] H s (fun _ _ _ => False) e s' → False) :
    PySem.W.WalkOS q loose XP YP r d [] (fun f vs => PySem.call f vs) :=
  walk_spec (K := K) (CX := CX) (sp := fun w => sp (K w.params)) hwell hdf hlen hr hY F (fun w H xs a h1 h2 h3 h4 => hsp (K w.params) H xs a h1 h2 h3 h4) fun w H s e s' => hCX w H s e s'
end L2

end
section
set_option Elab.async false
set_option linter.all false
set_option maxRecDepth 100000
namespace Xc
open PySem

def HeadOk (h : Heap) (x : Addr) (head : Value) : Prop :=
  head = .none ∨ ∃ T oT ts, head = .ref T ∧ T ≠ x ∧ h.get? T = some oT ∧ oT.data = .fields ts ∧ ts[3]? = some Value.none

section
variable {M : Model} {A : Around} {E : Value → Shared → Prop} {s : Shared}

theorem xnew {base : Heap} {env : Env} {outer : List Env} {L x : Addr} {oe : Obj} {vs : Array Value} {head : Value} {hn : Bool} {Q : Unit → Shared → Prop}
    (hfr : A.frames = some (env :: outer)) (hl : s.heap.FunFrames base (env :: outer)) (hf : env.frame = some L)
    (he : s.heap.get? x = some oe) (hd : oe.data = .fields vs) (hz : 1 < vs.size)
    (hQ : ∀ (h' : Heap) (T' : Addr) (oT : Obj) (ts : Array Value), s.heap.get? T' = none → T' ≠ x → s.heap.objs.size ≤ T' → h'.get? x = some (oe.mapFields (·.setIfInBounds 1 (.ref T'))) →
      h'.get? T' = some oT → oT.data = .fields ts → ts[3]? = some (rawInt L) →
      (∀ b o, b ≠ x → b ∉ (env :: outer).filterMap (·.frame) → s.heap.get? b = some o → h'.get? b = some o) →
      (∀ b o, b ∈ (env :: outer).filterMap (·.frame) → s.heap.get? b = some o → ∃ sl, h'.get? b = some { o with slots := sl }) → Q () { s with heap := h' }) :
    wpAny M A (do let a ← frameOf env; let pl ← entryPlaceOf L hn; let b ← EntryCells.newEntry head a .none (rawInt L) .none pl; setField (.ref x) 1 b) Q E s := by
  have nx : x ∉ (env :: outer).filterMap (·.frame) := fun hm => by
    obtain ⟨_, o, ho, nf⟩ := hl.mem hm
    exact nf vs (by rw [he] at ho; cases ho; exact hd)
  refine wpAny_bind (wpAny_frameOf_fun hfr hl hf fun h1 k1 => wpAny_bind (wpAny_entryPlaceOf fun pl hpl => ?_))
  have e1 : h1.get? x = some oe := (k1.2.1 x nx).trans he
  unfold EntryCells.newEntry newFields
  refine wpAny_bind (wpAny_newObj_type ?_ (hpl.sizeOk5 _ _ _ _ _))
  generalize hob : ({ cls := .type "traceback", dict := none, data := .fields ([head, .ref L, .none, rawInt L, .none] ++ (if pl.isEmpty then List.replicate 6 Value.none else pl)).toArray } : Obj) = ob
  have e2 : (h1.push ob).get? x = some oe := Heap.get?_push_of_some _ e1
  refine wpAny_setField e2 hd hz ?_
  have nT : h1.objs.size ≠ x := Nat.ne_of_gt (Heap.lt_size e1)
  have sz : h1.objs.size = s.heap.objs.size := k1.1
  have dd := Obj.data_mapFields hd (·.setIfInBounds 1 (Value.ref h1.objs.size))
  have hobf : ob.isFreed = false := by rw [← hob]; rfl
  have eT : ((h1.push ob).update x (Obj.mapFields (·.setIfInBounds 1 (Value.ref h1.objs.size)))).get? h1.objs.size = some ob :=
    (Heap.get?_update_other _ _ (Ne.symm nT)).trans (Heap.get?_push_size h1 hobf)
  refine hQ _ h1.objs.size ob ([head, .ref L, .none, rawInt L, .none] ++ (if pl.isEmpty then List.replicate 6 Value.none else pl)).toArray ?_ nT (Nat.le_of_eq sz.symm) ?_ eT (by rw [← hob]) (by simp) ?_ ?_
  · exact Heap.get?_none_of_le (Nat.le_of_eq sz.symm)
  · exact Heap.get?_update_self _ e2 (Obj.isFreed_of_fields dd)
  · intro b o hb hnf ho
    rw [Heap.get?_update_other _ _ (Ne.symm hb)]
    exact Heap.get?_push_of_some _ ((k1.2.1 b hnf).trans ho)
  · intro b o hbf ho
    obtain ⟨sl, hs⟩ := k1.2.2 b o ho
    have hb : b ≠ x := fun q => nx (q ▸ hbf)
    exact ⟨sl, by rw [Heap.get?_update_other _ _ (Ne.symm hb)]; exact Heap.get?_push_of_some _ hs⟩

theorem xnote {base : Heap} {env : Env} {outer : List Env} {L x : Addr} {oe : Obj} {vs : Array Value} {head : Value} {Q : Unit → Shared → Prop}
    (hfr : A.frames = some (env :: outer)) (hl : s.heap.FunFrames base (env :: outer)) (hf : env.frame = some L)
    (he : s.heap.get? x = some oe) (hd : oe.data = .fields vs) (h1 : vs[1]? = some head) (hh : HeadOk s.heap x head)
    (hQ : ∀ (h' : Heap) (T' : Addr) (oT : Obj) (ts : Array Value), s.heap.get? T' = none → T' ≠ x → s.heap.objs.size ≤ T' → h'.get? x = some (oe.mapFields (·.setIfInBounds 1 (.ref T'))) →
      h'.get? T' = some oT → oT.data = .fields ts → ts[3]? = some (rawInt L) →
      (∀ b o, b ≠ x → b ∉ (env :: outer).filterMap (·.frame) → s.heap.get? b = some o → h'.get? b = some o) →
      (∀ b o, b ∈ (env :: outer).filterMap (·.frame) → s.heap.get? b = some o → ∃ sl, h'.get? b = some { o with slots := sl }) →
      (∀ b o, s.heap.get? b = some o → ∃ o', h'.get? b = some o') → Q () { s with heap := h' }) :
    wpAny M A (noteFrame (.ref x) env) Q E s := by
  have hz : 1 < vs.size := (Array.getElem?_eq_some_iff.mp h1).1
  unfold noteFrame
  simp only [hf]
  refine wpAny_bind (wpAny_field he hd h1 ?_)
  rcases hh with rfl | ⟨T, oT, ts, rfl, hTx, hT, hTd, hT3⟩
  · rw [if_neg (by decide)]
    refine xnew hfr hl hf he hd hz fun h' T' oT ts a1 a2 a3 a4 a5 a6 a7 a8 a9 => hQ h' T' oT ts a1 a2 a3 a4 a5 a6 a7 a8 a9 fun b o e => ?_
    by_cases hb : b = x
    · subst hb; exact ⟨_, a4⟩
    · by_cases hm : b ∈ (env :: outer).filterMap (·.frame)
      · obtain ⟨sl, q⟩ := a9 b o hm e; exact ⟨_, q⟩
      · exact ⟨o, a8 b o hb hm e⟩
  · rw [if_pos (show (Value.ref T != Value.none) = true from by simp)]
    refine wpAny_bind (wpAny_field hT hTd hT3 ?_)
    rw [if_neg (show ¬ ((Value.none == rawInt L) = true) from by simp [rawInt])]
    refine wpAny_bind (wpAny_setField hT hTd (Array.getElem?_eq_some_iff.mp hT3).1 ?_)
    rw [Heap.update_setField_same s.heap T oT ts 3 Value.none hT hTd hT3]
    refine xnew hfr hl hf he hd hz fun h' T' oT' ts' a1 a2 a3 a4 a5 a6 a7 a8 a9 => hQ h' T' oT' ts' a1 a2 a3 a4 a5 a6 a7 a8 a9 fun b o e => ?_
    by_cases hb : b = x
    · subst hb; exact ⟨_, a4⟩
    · by_cases hm : b ∈ (env :: outer).filterMap (·.frame)
      · obtain ⟨sl, q⟩ := a9 b o hm e; exact ⟨_, q⟩
      · exact ⟨o, a8 b o hb hm e⟩
theorem xland {x T : Addr} {oe oT : Obj} {vs ts : Array Value} {fl : Value} {Q : Unit → Shared → Prop} (he : s.heap.get? x = some oe) (hd : oe.data = .fields vs) (h1 : vs[1]? = some (.ref T)) (hT : s.heap.get? T = some oT) (hTd : oT.data = .fields ts) (h3 : ts[3]? = some fl)
    (hQ : ∀ (h' : Heap) (oT' : Obj) (ts' : Array Value), h'.get? T = some oT' → oT'.data = .fields ts' → ts'[3]? = some .none → (∀ b, b ≠ T → h'.get? b = s.heap.get? b) → Q () { s with heap := h' }) :
    wpAny M A (setFlight (.ref x) none) Q E s := by
  have hz : 3 < ts.size := (Array.getElem?_eq_some_iff.mp h3).1
  unfold setFlight
  refine wpAny_bind (wpAny_field he hd h1 ?_)
  rw [if_pos (show (Value.ref T != Value.none) = true from by simp)]
  refine wpAny_setField hT hTd hz (hQ _ _ _ (Heap.get?_update_self _ hT (Obj.isFreed_of_fields (Obj.data_mapFields hTd _))) (Obj.data_mapFields hTd _) (by simp [hz]) fun b hb => Heap.get?_update_other _ _ (Ne.symm hb))
end
end Xc
namespace Xc
open PySem
open Builtin Builtin.ObjectAttr
abbrev bmV : List Value := [.type "ValueError", .type "Exception", .type "BaseException", .type "object"]
abbrev xobj (C : Addr) (dict : Option Addr) (t : Addr) : Obj := { cls := .ref C, dict := dict, data := .fields #[.ref t, .none, .none, .none, .bool false, .none] }
section
variable {prog : Program} {w : World} {A : Around} {E : Value → Shared → Prop} {h : Heap} {g : Array GenState} {d : Drawn} {t : Nat} {os : OsState}
variable {nm q : Str} {C N x : Addr} {bs : List Value} {sn : List Str} {sub : List Value} {ab : Bool} {col : Option Bool} {dd : Option Addr} {k0 k1 k2 k3 k5 : Option Value}
  {mN : Str → Option Value} {name : Str} {v : Value}

theorem xstore_entry {tk : Tok} {a0 : Addr} {Q : Fin → Shared → Prop} (hC : h.get? C = some (excClassObj nm q C N bs bmV true sn sub ab col dd k0 k1 k2 k3 k5 "ValueError.__new__")) (hn : h.Ns N mN) (hna : mN name = none)
    (hB : typeLookup (.type "ValueError") name = pure none) (hx : h.get? x = some (xobj C none a0))
    (hq : ∀ h' tk' dx, h.objs.size ≤ dx → dx ≠ x → h'.get? x = some (xobj C (some dx) a0) → h'.Ns1 dx (fun y => if y = name then some v else none) →
      (∀ b o, b ≠ x → h.get? b = some o → h'.get? b = some o) → Q (.done (.ret .none)) ⟨h', g, d, tk', os⟩) :
    wpAny (model prog w) A (Builtin.«object.__setattr__» ⟨[.ref x, .str name tk, v], []⟩) Q E ⟨h, g, d, t, os⟩ := by
  have SF := F.store_ValueError
  have pass := SF.passes (.ref x)
  have hxs : x ≠ h.objs.size := Nat.ne_of_lt (Heap.lt_size hx)
  have hx1 : (h.push { cls := .type "dict", data := .dict #[] }).get? x = some (xobj C none a0) := Heap.get?_push_of_some _ hx
  generalize hg1 : ((h.push { cls := .type "dict", data := .dict #[] }).update x fun o => { cls := o.cls, dict := some h.objs.size, data := o.data, slots := o.slots }) = h1 at *
  have e1 : h1.get? h.objs.size = some { cls := .type "dict", data := .dict #[] } := by rw [← hg1]; exact (Heap.get?_update_ne _ _ _ _ hxs.symm).trans (Heap.get?_push_at rfl rfl)
  have e2 : h1.get? x = some (xobj C (some h.objs.size) a0) := by rw [← hg1]; exact Heap.get?_update_self _ hx1 rfl
  have e3 : ∀ b o, b ≠ x → h.get? b = some o → h1.get? b = some o := fun b o hb ho => by rw [← hg1]; exact (Heap.get?_update_ne _ _ _ _ hb).trans (Heap.get?_push_of_some _ ho)
  have e4 : h1.Ns1 h.objs.size (fun _ => none) := Heap.Ns1.of_empty ⟨_, #[], _, e1, rfl, fun e he => absurd he (by simp), fun _ => rfl⟩
  unfold Builtin.«object.__setattr__»
  repeat (first | with_reducible refine wpAny_nsSet1 (s := ⟨h1, g, d, t, os⟩) e4 ?_ | rw [hg1] | rw [refuse_eq] | (rw [refuseLoop_ref, pass]) | with_reducible refine wpAny_loadPart_at hx ?_ | with_reducible refine wpAny_mroOf_exc hC ?_ | (with_reducible refine wpAny_typeLookup_exc hC hn SF.mro hB ?_; rw [hna]) | wp_step)
  intro h' hn' hs
  obtain ⟨oD, esD, epD, hoD, hdD, hcD⟩ := hn'.count (Within.cons name v Within.nil)
  refine wpAny_bind (wpAny_lookBehind hoD (by rw [hdD]; exact pastItsLine_dict (Nat.le_trans hcD (by rw [List.length_cons, List.length_nil, sizeLine_eq]; omega))) (wpAny_pure ?_))
  exact hq h' _ h.objs.size (Nat.le_refl _) hxs.symm ((hs.2 x hxs).trans e2) hn' fun b o hb ho => (hs.2 b (Nat.ne_of_lt (Heap.lt_size ho))).trans (e3 b o hb ho)

theorem xstore_call {sa owner : String} {tk : Tok} {a0 : Addr} {R : Result → Shared → Prop} (SF : StoreFacts "ValueError" bmV sa owner) (hC : h.get? C = some (excClassObj nm q C N bs bmV true sn sub ab col dd k0 k1 k2 k3 k5 "ValueError.__new__")) (hn : h.Ns N mN) (hna : mN name = none)
    (hB : typeLookup (.type "ValueError") name = pure none) (hx : h.get? x = some (xobj C none a0))
    (hq : ∀ h' tk' dx, h.objs.size ≤ dx → dx ≠ x → h'.get? x = some (xobj C (some dx) a0) → h'.Ns1 dx (fun y => if y = name then some v else none) →
      (∀ b o, b ≠ x → h.get? b = some o → h'.get? b = some o) → R (.ok (.ret .none)) ⟨h', g, d, tk', os⟩) :
    codeAny (model prog w) A (.call (.builtin sa) ⟨[.ref x, .str name tk, v], []⟩) R ⟨h, g, d, t, os⟩ := by
  have ho : ∃ o, h.get? x = some o ∧ o.cls = .ref C := ⟨_, hx, rfl⟩
  obtain ⟨o, ho, hc⟩ := ho
  exact codeAny_call_builtin SF.slot.plain SF.entry (wpAny_check_sa SF hC ho hc (xstore_entry hC hn hna hB hx hq))
theorem xstore_by {sa owner : String} {a0 : Addr} {Q : Unit → Shared → Prop} (SF : StoreFacts "ValueError" bmV sa owner) (hC : h.get? C = some (excClassObj nm q C N bs bmV true sn sub ab col dd k0 k1 k2 k3 k5 "ValueError.__new__")) (hn : h.Ns N mN) (hns : mN "__setattr__" = none) (hna : mN name = none)
    (hB : typeLookup (.type "ValueError") name = pure none) (hx : h.get? x = some (xobj C none a0))
    (hq : ∀ h' tk' dx, h.objs.size ≤ dx → dx ≠ x → h'.get? x = some (xobj C (some dx) a0) → h'.Ns1 dx (fun y => if y = name then some v else none) →
      (∀ b o, b ≠ x → h.get? b = some o → h'.get? b = some o) → Q () ⟨h', g, d, tk', os⟩) :
    wpAny (model prog w) A (setAttr (.ref x) name v) Q E ⟨h, g, d, t, os⟩ := by
  have bnd := SF.slot.bind (.ref x)
  have hx0 : ∃ o, h.get? x = some o ∧ o.cls = .ref C := ⟨_, hx, rfl⟩
  obtain ⟨o, ho, hc⟩ := hx0
  unfold setAttr callSpecial? specialOf
  repeat (first | (with_reducible refine wpAny_loadPart_at ho ?_; rw [hc]) | (with_reducible refine wpAny_typeLookup_exc hC hn SF.mro SF.slot.lookup ?_; rw [hns]) | (with_reducible refine wpAny_of_eq bnd ?_) | wp_step)
  refine xstore_call SF hC hn hna hB hx fun h' tk' dx a1 a2 a3 a4 a5 => ?_
  exact wpAny_pure (wpAny_pure (hq h' tk' dx a1 a2 a3 a4 a5))
theorem xstore {a0 : Addr} {Q : Unit → Shared → Prop} (hC : h.get? C = some (excClassObj nm q C N bs bmV true sn sub ab col dd k0 k1 k2 k3 k5 "ValueError.__new__")) (hn : h.Ns N mN) (hns : mN "__setattr__" = none) (hna : mN name = none)
    (hB : typeLookup (.type "ValueError") name = pure none) (hx : h.get? x = some (xobj C none a0))
    (hq : ∀ h' tk' dx, h.objs.size ≤ dx → dx ≠ x → h'.get? x = some (xobj C (some dx) a0) → h'.Ns1 dx (fun y => if y = name then some v else none) →
      (∀ b o, b ≠ x → h.get? b = some o → h'.get? b = some o) → Q () ⟨h', g, d, tk', os⟩) :
    wpAny (model prog w) A (setAttr (.ref x) name v) Q E ⟨h, g, d, t, os⟩ := xstore_by F.store_ValueError hC hn hns hna hB hx hq

theorem xraise {env : Env} {s : Shared} {y : Sem Value} {Q : Flow → Shared → Prop} (hh : A.handled = none)
    (hy : wpAny (model prog w) A y (fun v s1 => ∃ x nm q C N bs sn sub ab col dd k0 k1 k2 k3 k5 dx t, v = .ref x ∧ s1.heap.get? C = some (excClassObj nm q C N bs bmV true sn sub ab col dd k0 k1 k2 k3 k5 "ValueError.__new__") ∧
      s1.heap.get? x = some (xobj C dx t) ∧ E (.ref x) s1) E s) : wpAny (model prog w) A (raiseStmt env (some y) none) Q E s := by
  unfold raiseStmt
  refine wpAny_bind (wpAny_mono hy (fun v s1 h1 => ?_) fun _ _ z => z)
  obtain ⟨x, nm, q, C, N, bs, sn, sub, ab, col, dd, k0, k1, k2, k3, k5, dx, t, rfl, hC, hx, hE⟩ := h1
  obtain ⟨hp, g, d, tk, os⟩ := s1
  have hcB : (Value.ref C :: bmV).contains (.type "BaseException") = true := by rw [List.contains_cons, F.excBase_ValueError.hasBase, Bool.or_true]
  repeat (first | with_reducible refine wpAny_loadPart_at hx ?_ | with_reducible refine wpAny_loadPart_at hC ?_ | (with_reducible refine wpAny_isSubtype_exc hC ?_; rw [hcB]) | wp_step)
  exact wpAny_raiseNew_none hh hE

theorem xinit {dx : Option Addr} {a0 : Addr} {rest : List Value} {Q : Value → Shared → Prop} (hC : h.get? C = some (excClassObj nm q C N bs bmV true sn sub ab col dd k0 k1 k2 k3 k5 "ValueError.__new__"))
    (hx : h.get? x = some (xobj C dx a0)) (hz : rest.length ≤ sizeLine)
    (hq : ∀ h' a1, h'.get? x = some (xobj C dx a1) → (∀ b o, b ≠ x → h.get? b = some o → h'.get? b = some o) → Q .none ⟨h', g, d, t, os⟩) :
    wpAny (model prog w) A (call (.builtin "ValueError.__init__") (.ref x :: rest)) Q E ⟨h, g, d, t, os⟩ := by
  have F := F.excBase_ValueError
  refine wpAny_call (codeAny_call_builtin F.init.plain F.initEntry (wpAny_check_init_sub F hC hx rfl ?_))
  unfold Builtin.«BaseException.__init__»
  wp_walk
  refine hq _ h.objs.size ?_ fun b o hb ho => ?_
  · exact (Heap.get?_update_self _ (Heap.get?_push_of_some _ hx) rfl).trans rfl
  · exact (Heap.get?_update_ne _ _ _ _ hb).trans (Heap.get?_push_of_some _ ho)

theorem xload_entry {dx : Addr} {tk : Tok} {oe : Obj} {vs : Array Value} {mA : Str → Option Value} {Q : Fin → Shared → Prop} (hC : h.get? C = some (excClassObj nm q C N bs bmV true sn sub ab col dd k0 k1 k2 k3 k5 "ValueError.__new__")) (hn : h.Ns N mN)
    (hna : mN name = none) (hB : typeLookup (.type "ValueError") name = pure none) (hx : h.get? x = some oe) (hc : oe.cls = .ref C) (hd : oe.dict = some dx) (hv' : oe.data = .fields vs) (hA : h.Ns1 dx mA) (hv : mA name = some v)
    (hq : Q (.done (.ret v)) ⟨h, g, d, t, os⟩) : wpAny (model prog w) A (Builtin.«object.__getattribute__» ⟨[.ref x, .str name tk], []⟩) Q E ⟨h, g, d, t, os⟩ := by
  have SF := F.store_ValueError
  unfold Builtin.«object.__getattribute__»
  repeat (first | (with_reducible refine wpAny_loadPart_at hx ?_; rw [hc]) | (with_reducible refine wpAny_typeLookup_exc hC hn SF.mro hB ?_; rw [hna]) | wp_step)
  rw [hv']
  unfold instanceDict
  repeat (first | (with_reducible refine wpAny_loadPart_at hx ?_; rw [hc]) | with_reducible refine wpAny_loadPart_at hC ?_ | wp_step)
  rw [hd]
  repeat (first | (with_reducible refine wpAny_nsGet hA.ns ?_; rw [hv]) | wp_step)
  exact hq
theorem xcheck_ga {M : Model} {nameV : Value} {oe : Obj} {Q : Unit → Shared → Prop} (hC : h.get? C = some (excClassObj nm q C N bs bmV true sn sub ab col dd k0 k1 k2 k3 k5 "ValueError.__new__")) (hx : h.get? x = some oe) (hc : oe.cls = .ref C)
    (hq : Q () ⟨h, g, d, t, os⟩) : wpAny M A (checkBuiltinCall "BaseException.__getattribute__" ⟨[.ref x, nameV], []⟩) Q E ⟨h, g, d, t, os⟩ := by
  have e1 : builtinKind "BaseException.__getattribute__" = some .slot := by decide +kernel
  have e2 : splitId "BaseException.__getattribute__" = some ("BaseException", "__getattribute__") := by decide +kernel
  have e3 : (Value.ref C :: bmV).contains (.type "BaseException") = true := by rw [List.contains_cons, F.excBase_ValueError.hasBase, Bool.or_true]
  have e4 := F.args_bexc_ga (.ref x) nameV
  simp only [checkBuiltinCall, e1, e2]
  refine wpAny_bind ?_
  unfold isInstance
  repeat (first | (with_reducible refine wpAny_loadPart_at hx ?_; rw [hc]) | (with_reducible refine wpAny_isSubtype_exc hC ?_; rw [e3]) | wp_step)
  exact hq
theorem xload_call {dx : Addr} {tk : Tok} {oe : Obj} {vs : Array Value} {mA : Str → Option Value} {R : Result → Shared → Prop} (FB : ExcAttrBase "ValueError" bmV) (hC : h.get? C = some (excClassObj nm q C N bs bmV true sn sub ab col dd k0 k1 k2 k3 k5 "ValueError.__new__")) (hn : h.Ns N mN)
    (hna : mN name = none) (hB : typeLookup (.type "ValueError") name = pure none) (hx : h.get? x = some oe) (hc : oe.cls = .ref C) (hd : oe.dict = some dx) (hv' : oe.data = .fields vs) (hA : h.Ns1 dx mA) (hv : mA name = some v)
    (hq : R (.ok (.ret v)) ⟨h, g, d, t, os⟩) : codeAny (model prog w) A (.call (.builtin "BaseException.__getattribute__") ⟨[.ref x, .str name tk], []⟩) R ⟨h, g, d, t, os⟩ :=
  codeAny_call_builtin FB.ga.plain F.entry_bexc_ga (xcheck_ga hC hx hc (xload_entry hC hn hna hB hx hc hd hv' hA hv hq))
theorem xload {dx : Addr} {oe : Obj} {vs : Array Value} {mA : Str → Option Value} {expr : Bool} {Q : Value → Shared → Prop} (hC : h.get? C = some (excClassObj nm q C N bs bmV true sn sub ab col dd k0 k1 k2 k3 k5 "ValueError.__new__")) (hn : h.Ns N mN)
    (hng : mN "__getattribute__" = none) (hnh : mN "__getattr__" = none) (hna : mN name = none) (hB : typeLookup (.type "ValueError") name = pure none) (hx : h.get? x = some oe) (hc : oe.cls = .ref C) (hd : oe.dict = some dx) (hv' : oe.data = .fields vs) (hA : h.Ns1 dx mA) (hv : mA name = some v)
    (hh : handedOut v = pure v) (hq : Q v ⟨h, g, d, t + 1, os⟩) : wpAny (model prog w) A (getAttr (.ref x) name expr) Q E ⟨h, g, d, t, os⟩ := by
  have FB := F.attrBase_ValueError
  have f3 := FB.ga.bind (.ref x)
  have hx0 : (expr && onTheHeap (Value.builtin "BaseException.__getattribute__")) = false := by cases expr <;> rfl
  have hx2 : (Value.builtin "BaseException.__getattribute__" == Value.builtin "object.__getattribute__") = false := by decide +kernel
  have hx1 : (onTheHeap (Value.ref C) && Value.builtin "BaseException.__getattribute__" == Value.builtin "object.__getattribute__") = false := by rw [hx2]; rfl
  unfold getAttr
  repeat (any_goals (first | assumption | (with_reducible refine wpAny_loadPart_at hx ?_; rw [hc]) | (with_reducible refine wpAny_typeLookup_exc hC hn FB.mro FB.ga.lookup ?_; rw [hng]) | (with_reducible refine wpAny_typeLookup_exc hC hn FB.mro FB.noGetattr ?_; rw [hnh]) | wp_step))
  refine xload_call FB hC hn hna hB hx hc hd hv' hA hv ?_
  show wpAny _ _ (handedOut v) _ _ _
  rw [hh]
  exact wpAny_pure hq
end
end Xc

end
section
set_option Elab.async false
set_option linter.all false
set_option maxRecDepth 100000
set_option maxHeartbeats 2000000
namespace L2
open PySem PySem.Spec PyProof.Rows
section
variable {P : Program} {w : World} {H : Hp} {h h' : Heap} {a : Addr} {o : HO} {fs ex : List Addr}
theorem ObjOk.there (x : ObjOk P w H h a o) : ∃ u, h.get? a = some u := by
  cases o with
  | lst xs => obtain ⟨_, _, _, _, e⟩ := x; exact ⟨_, e⟩
  | tup xs => obtain ⟨_, _, _, ob, e, _⟩ := x; exact ⟨_, e⟩
  | dK kvs => obtain ⟨_, _, _, _, o, _, _, e, _⟩ := x; exact ⟨_, e⟩
  | dT kvs => obtain ⟨_, _, _, _, o, _, _, e, _⟩ := x; exact ⟨_, e⟩
  | set S n => obtain ⟨o, _, _, _, e, _⟩ := x; exact ⟨_, e⟩
  | ins C dx fs => obtain ⟨_, _, _, e, _⟩ := x; exact ⟨_, e⟩
  | own y => obtain ⟨_, e⟩ := x; exact ⟨_, e⟩
  | xd fs => obtain ⟨_, ⟨_, _, _, e, _⟩, _⟩ := x; exact ⟨_, e⟩
  | rng lo hi => obtain ⟨_, _, _, e⟩ := x; exact ⟨_, e⟩
  | frz ob u => obtain ⟨e, _⟩ := x; exact ⟨_, e⟩
  | tbl ps => exact ⟨_, (show h.get? a = some _ from x)⟩
  | met f y => exact ⟨_, (show h.get? a = some _ from x)⟩
  | ext φ => obtain ⟨_, e, _⟩ := x; exact e
theorem HOk.freeN (x : HOk P w H h) (e : h.get? a = none) : H a = none := by
  cases q : H a with
  | none => rfl
  | some u =>
    obtain ⟨v, hv⟩ := (x a u q).there
    rw [e] at hv; cases hv
theorem Un.laidN (k : ∀ b u, h.get? b = some u → h'.get? b = some u) (hp : h.get? a = none) (hn : H a = none) : Un fs ex H (upd H a o) h h' where
  keep := fun b u q _ _ _ => k b u q
  slot := fun b u q _ _ _ => ⟨u.slots, k b u q⟩
  free := fun b u q n _ => by rw [upd_ne (fun z => by subst z; rw [hp] at q; cases q)]; exact n
  there := fun b u q _ => ⟨u, k b u q⟩
  tups := fun b xs q => by rw [upd_ne (ne_of_none q hn)]; exact q
  frzs := fun b u xs q => by rw [upd_ne (ne_of_none q hn)]; exact q
  tbls := fun b ps q => ⟨#[], by rw [upd_ne (ne_of_none q hn), q]; simp⟩
theorem HOk.laidN (x : HOk P w H h) (k : ∀ b u, h.get? b = some u → h'.get? b = some u) (hn : H a = none) (new : ObjOk P w (upd H a o) h' a o) : HOk P w (upd H a o) h' := fun b u e => by
  by_cases hb : b = a
  · subst hb; rw [upd_same] at e; cases e; exact new
  · rw [upd_ne hb] at e
    exact (x b u e).stay (fun c v _ q => k c v q) (fun c q => by rw [upd_ne (ne_of_none q hn)]; exact q) fun c xs q => by rw [upd_ne (ne_of_none q hn)]; exact q
theorem upd_id {H : Hp} {a : Addr} {o : HO} (e : H a = some o) : upd H a o = H := by
  funext b; unfold upd; split
  · rename_i q; subst q; exact e.symm
  · rfl
end
theorem Inv.laidN {X : Cx} {pins : List (Addr × Obj)} {σ : St} {H : Hp} {s : Shared} {h' : Heap} {a : Addr} {o : HO} {t' : Nat} (I : Inv X pins σ H s) (k : ∀ b u, s.heap.get? b = some u → h'.get? b = some u) (hp : s.heap.get? a = none)
    (new : ObjOk X.prog X.w (upd H a o) h' a o) : Inv X pins σ (upd H a o) { s with heap := h', toks := t' } := I.un (Un.laidN k hp (I.hok.freeN hp)) (I.hok.laidN k (I.hok.freeN hp) new)

def xnP (x C : Addr) (d : Option Addr) : Heap → Prop := fun h => ∃ a0, h.get? x = some (Xc.xobj C d a0)
def xoP (x C d : Addr) (q : Bool) : Heap → Prop := fun h => ∃ oe vs, h.get? x = some oe ∧ oe.cls = .ref C ∧ oe.dict = some d ∧ oe.data = .fields vs ∧ 4 < vs.size ∧ (q = true → vs[2]? = some .none)
abbrev xn (x C : Addr) (d : Option Addr) : HO := .ext (xnP x C d)
abbrev xo (x C d : Addr) (q : Bool) : HO := .ext (xoP x C d q)
def Qt (H : Hp) (d : Addr) (q : Bool) : Prop := ∀ fs, H d = some (.xd fs) → fs.lookup ("number" : Str) = none → q = true
section
variable {P : Program} {w : World} {H : Hp} {h : Heap} {x C a0 d : Addr} {dd : Option Addr}
theorem xn_ok (e : h.get? x = some (Xc.xobj C dd a0)) : ObjOk P w H h x (xn x C dd) := ⟨⟨a0, e⟩, ⟨_, e⟩, fun _ _ ⟨a, q⟩ k => ⟨a, k _ q⟩⟩
theorem xo_ok {oe : Obj} {vs : Array Value} {q : Bool} (e : h.get? x = some oe) (e1 : oe.cls = .ref C) (e2 : oe.dict = some d) (e3 : oe.data = .fields vs) (e4 : 4 < vs.size) (e5 : q = true → vs[2]? = some .none) : ObjOk P w H h x (xo x C d q) :=
  ⟨⟨oe, vs, e, e1, e2, e3, e4, e5⟩, ⟨_, e⟩, fun _ _ ⟨oe, vs, q, r⟩ k => ⟨oe, vs, k _ q, r⟩⟩
theorem xn_get (hok : HOk P w H h) (e : H x = some (xn x C dd)) : ∃ a0, h.get? x = some (Xc.xobj C dd a0) := (show ObjOk P w H h x (xn x C dd) from hok x _ e).1
theorem xo_get {q : Bool} (hok : HOk P w H h) (e : H x = some (xo x C d q)) : ∃ oe vs, h.get? x = some oe ∧ oe.cls = .ref C ∧ oe.dict = some d ∧ oe.data = .fields vs ∧ 4 < vs.size ∧ (q = true → vs[2]? = some .none) := (show ObjOk P w H h x (xo x C d q) from hok x _ e).1
end
def HdOk (h : Heap) (x : Addr) : Prop := ∃ oe vs hd, h.get? x = some oe ∧ oe.data = .fields vs ∧ vs[1]? = some hd ∧ Xc.HeadOk h x hd
theorem Obj.dict_map {o : Obj} {vs : Array Value} (hd : o.data = .fields vs) (f : Array Value → Array Value) : (o.mapFields f).dict = o.dict := by
  obtain ⟨c, d, dt, sl⟩ := o
  obtain rfl : dt = .fields vs := hd
  rfl

section
variable {X : Cx} {pins : List (Addr × Obj)} {σ : St} {H : Hp} {s : Shared} {x C d : Addr} {q : Bool} {E : Value → Shared → Prop} {A : Around} {M : Model}
theorem xfly {Q : Unit → Shared → Prop} (I : Inv X pins σ H s) (hfr : A.frames = some X.stack) (hst : X.stack = X.env :: X.outer) (hf : X.env.frame = some X.env.locals) (hx : H x = some (xo x C d q)) (hh : HdOk s.heap x)
    (hQ : ∀ h', Inv X pins σ H { s with heap := h' } → HdOk h' x → Q () { s with heap := h' }) :
    wpAny M A (noteFrame (.ref x) X.env) (fun _ s1 => wpAny M A (setFlight (.ref x) none) Q E s1) E s := by
  obtain ⟨oe, vs, hd, he, hdat, h1, hhd⟩ := hh
  obtain ⟨oe', vs', he', hc, hdi, hdat', hsz, hcx⟩ := xo_get I.hok hx
  rw [he] at he'; cases he'
  obtain rfl : vs = vs' := by rw [hdat] at hdat'; cases hdat'; rfl
  have hz : 1 < vs.size := (Array.getElem?_eq_some_iff.mp h1).1
  have stk := I.stack
  rw [hst] at stk
  refine Xc.xnote (base := X.base) (hfr.trans (congrArg some hst)) stk hf he hdat h1 hhd fun h' T' oT ts nT ne sz hx' hT hTd hT3 keep slot there => ?_
  have hd2 := Obj.data_mapFields hdat (·.setIfInBounds 1 (Value.ref T'))
  refine Xc.xland hx' hd2 (by simp [hz]) hT hTd hT3 fun h'' oT' ts' hT' hTd' h3' keep' => ?_
  have nold : ∀ b o, s.heap.get? b = some o → b ≠ T' := fun b o e z => by rw [z, nT] at e; cases e
  have hxx := (keep' x (Ne.symm ne)).trans hx'
  have kp : ∀ b o, b ≠ x → b ∉ frs (X.env :: X.outer) → s.heap.get? b = some o → h''.get? b = some o := fun b o n1 n2 e => (keep' b (nold b o e)).trans (keep b o n1 n2 e)
  have sl : ∀ b o, b ∈ frs (X.env :: X.outer) → s.heap.get? b = some o → ∃ sl, h''.get? b = some { o with slots := sl } := fun b o hb e => by
    obtain ⟨q, hq⟩ := slot b o hb e
    exact ⟨q, (keep' b (nold b o e)).trans hq⟩
  have nfr : ∀ b o, H b = some o → b ∉ frs (X.env :: X.outer) := fun b o e z => by
    have := I.stkFree b (by rw [hst]; exact z)
    rw [e] at this; cases this
  have hok' : HOk X.prog X.w H h'' := fun b u e => by
    by_cases hb : b = x
    · subst hb
      rw [hx] at e; cases e
      exact xo_ok hxx ((Obj.cls_mapFields _ _).trans hc) ((Obj.dict_map hdat _).trans hdi) hd2 (by simpa using hsz) (fun y => by rw [Array.getElem?_setIfInBounds_ne (by decide)]; exact hcx y)
    · refine (I.hok b u e).stay (fun c v hcc q => kp c v ?_ ?_ q) (fun _ q => q) fun _ _ q => q
      · rcases hcc with z | z
        · rw [z]; exact hb
        · intro y; subst y; rw [hx] at z; cases z
      · rcases hcc with z | z
        · rw [z]; exact nfr b u e
        · exact nfr c _ z
  have un : Un (frs X.stack) [] H H s.heap h'' := by
    rw [hst]
    refine ⟨fun b o q n hb _ => kp b o (fun z => by subst z; rw [hx] at n; cases n) hb q, fun b o q n hb _ => sl b o hb q, fun _ _ _ n _ => n, fun b o q _ => ?_, fun _ _ q => q, fun _ _ _ q => q, fun _ ps q => ⟨#[], by rw [q]; simp⟩⟩
    obtain ⟨o', ho'⟩ := there b o q
    exact ⟨o', (keep' b (nold b o q)).trans ho'⟩
  exact hQ h'' (I.call (g' := s.gens) (t' := s.toks) (d' := s.drawn) (ch := []) un hok' I.bare (fun b z => absurd z (by simp))) ⟨_, _, _, hxx, hd2, by simp [hz], .inr ⟨T', oT', ts', rfl, ne, hT', hTd', h3'⟩⟩
end

def CXx (P : Program) (w : World) : CXT := fun outer H s E e s' => ∃ x C d q H', e = Value.ref x ∧ s.heap.get? x = none ∧ s'.os = s.os ∧ AllBare s'.gens ∧ Un (frs outer) [] H H' s.heap s'.heap ∧ HOk P w H' s'.heap ∧
  H' x = some (xo x C d q) ∧ Qt H' d q ∧ HdOk s'.heap x ∧ E (.ref C) (some d) H'
def Flies (X : Cx) (E : XK) : Prop := ∀ (pins : List (Addr × Obj)) (σ : St) (H : Hp) (s : Shared) (x C d : Addr) (q : Bool), Inv X pins σ H s → H x = some (xo x C d q) → Qt H d q → X.s_0.heap.get? x = none → HdOk s.heap x → E (.ref C) (some d) H → X.xe (.ref x) s
theorem new_old {X : Cx} {pins : List (Addr × Obj)} {σ : St} {H : Hp} {s : Shared} {x : Addr} (I : Inv X pins σ H s) (hex : X.ex = []) (e : s.heap.get? x = none) : X.s_0.heap.get? x = none := by
  cases q : X.s_0.heap.get? x with
  | none => rfl
  | some o =>
    obtain ⟨o', z⟩ := I.base.there x o q (by rw [hex]; simp)
    rw [e] at z; cases z
theorem passX {X : Cx} {E : XK} (hex : X.ex = []) (h : Flies X E) : Passes (CXx X.prog X.w) X E := by
  rintro pins σ H s e s' I ⟨x, C, d, q, H', rfl, nx, os, bare, un, hok, hx, hq, hh, hE⟩
  exact h pins σ H' s' x C d q (I.call' os un hok bare (ch := []) (fun b z => absurd z (by simp))) hx hq (new_old I hex nx) hh hE
theorem passN {P : Program} {w : World} {X : Cx} : Passes (CXx P w) X E0 := by
  rintro pins σ H s e s' I ⟨x, C, d, q, H', rfl, nx, os, bare, un, hok, hx, hq, hh, hE⟩
  exact hE.elim
theorem flies {P : Program} {w : World} {K : PySem.W.Frag} {mg : Str → Option Value} {base : Heap} {N : List Str} {qual : Str} {scope : Scope} {f : Addr} {cd : Value} {A : Around} {outer : List Env} {s : Shared} {H : Hp} {E : XK} :
    Flies (cxOf (CXx P w) P w K mg base N qual scope f cd A outer s H E) E := by
  intro pins σ H' s' x C d q I hx hq nx hh hE
  show wpAny _ _ (leaving _ _) _ _ _
  unfold leaving
  refine wpAny_bind (xfly I I.ok.frames rfl rfl hx hh fun h'' I' hh' => ?_)
  exact ⟨x, C, d, q, H', rfl, nx, I'.os, I'.bare, I'.base, I'.hok, hx, hq, hh', hE⟩
theorem Fun.okX {P : Program} {w : World} {K : PySem.W.Frag} {mg : Str → Option Value} {base : Heap} {x qual : Str} {st : Stmt} {f : Addr} {fd : FuncData} {N ps : List Str} {k : Nat} {sp : Sp} (F : Fun K x qual st f fd) (S : FnScope N ps (defScope st)) (len : ∀ vs H Q E, sp vs H Q E → vs.length = ps.length)
    (hbody : ∀ (cdv : Value) (A : Around) (outer : List Env) (s : Shared) (H : Hp) (vs : List V) (Q : VK) (E : XK), Room k (A.deeper (envOfC qual (defScope st) s.heap.objs.size f cdv)) → sp vs H Q E →
      ∃ t, PSs (cxOf (CXx P w) P w K mg base N qual (defScope st) f cdv A outer s H E) (defBody st) t ∧ t { nx := fun _ H' => Q .non H', rt := Q } (start N vs) H) : FnOk P w K mg base (CXx P w) (k + 1) f fd ps sp := by
  obtain ⟨oc, od, kV, doc, pm, an, cdv, ct, osl, rfl, lk, hcd⟩ := F.ex
  exact fn_of lk hcd S len fun A outer s H vs Q E hr hsp => hbody cdv A outer s H vs Q E hr hsp

structure XCls (K : PySem.W.Frag) (C N fI : Addr) : Prop where
  obj : ∃ nm q bs sn sub ab col dd k0 k1 k2 k3 k5, K.lookup C = some (excClassObj nm q C N bs Xc.bmV true sn sub ab col dd k0 k1 k2 k3 k5 "ValueError.__new__")
  ns : PySem.W.nsOkIn K N = true
  init : PySem.W.nsIn K N "__init__" = some (some (.ref fI))
  nsa : PySem.W.nsIn K N "__setattr__" = some none
  nga : PySem.W.nsIn K N "__getattribute__" = some none
  nge : PySem.W.nsIn K N "__getattr__" = some none
  fn : PySem.W.isFn K (.ref fI) = true
  kp : PySem.W.keepIn K (.ref C) = true
theorem ns_some_of {K : PySem.W.Frag} {h : Heap} {N : Addr} {mg : Str → Option Value} {n : Str} {v : Value} (X : K.In h) (G : h.Ns N mg) (e : PySem.W.nsIn K N n = some (some v)) : mg n = some v := by
  obtain ⟨o, es, ep, ho, hd, _, hf⟩ := G
  unfold PySem.W.nsIn at e
  split at e
  · rename_i c d es' n' sl q
    have := X _ _ q
    rw [ho] at this
    cases this
    cases hd
    split at e
    · rename_i en he
      cases e
      rw [← hf]
      unfold nsFind findBy
      rw [← Array.find?_toList, he]
      rfl
    · split at e <;> cases e
  · cases e
theorem XCls.at {K : PySem.W.Frag} {C N fI : Addr} (c : XCls K C N fI) {h : Heap} (X : K.In h) : h.Ns N (h.nsMap N) := .of_isNs (PySem.W.isNs_of_in X c.ns)
theorem XCls.no {K : PySem.W.Frag} {C N fI : Addr} (c : XCls K C N fI) {h : Heap} (X : K.In h) {n : Str} (e : PySem.W.nsIn K N n = some none) : h.nsMap N n = none := PySem.W.nsMap_none_of_in X c.ns e

def tRaise (C : Addr) (sp : Sp) (E : XK) (t : TA) : TS := fun _ σ H => t σ H fun vs H1 => vs.length ≤ 1000 ∧ ∀ x, H1 x = none → sp (.ref x :: vs) (upd H1 x (xn x C none)) (fun v H2 => v = .non ∧ ∃ d, H2 x = some (xn x C (some d)) ∧ E (.ref C) (some d) (upd H2 x (xo x C d true))) E0
section
variable {X : Cx} {C N fI : Addr} {k : Nat} {fd : FuncData} {ps : List Str} {sp : Sp} {E : XK} {e : Expr} {es : List Expr} {t : TA} {x : Str} {p cpos pos : Pos}
theorem ps_raise (c : XCls X.K C N fI) (F : FnOk X.prog X.w X.K X.mg X.base (CXx X.prog X.w) k fI fd ps sp) (hr : Room (k + 1) X.A) (hg : Gl X x) (hm : X.mg x = some (.ref C)) (hb : Binds X.K fd ps []) (hcalm : X.calm = true) (hex : X.ex = []) (hfl : Flies X E)
    (ha : PA X (e :: es) t) (hdb : (x == ("__debug__" : Str)) = false := by decide) (he : starEach (e :: es) X.env = (false, eval e X.env) :: starEach es X.env := by rfl) (hpl : (backTo cpos (starEach es X.env)).any (·.1) = false := by rfl) :
    PS X (.Raise (some (.Call (.Name x p) (e :: es) [] cpos)) none pos) (tRaise C sp E t) := by
  intro pins s σ H D I h
  rw [arm_exec_Raise]
  refine wpAny_bind (wpAny_standAt ?_)
  show wpAny _ _ (raiseStmt X.env (some (do let v ← eval (.Call (.Name x p) (e :: es) [] cpos) X.env; standAt pos; pure v)) none) _ _ s
  refine Xc.xraise (I.ok.hd hcalm) (wpAny_bind ?_)
  refine wpAny_Call_Name_kw (ld_glob I hg hm ?_ hdb)
  refine PySem.W.callWith_K (h₀ := X.base) I.ok.mod.kin c.kp (thn (ha cpos pins s σ H _ I h) fun us s1 ⟨vs, H1, I1, r, hz, q⟩ => ⟨I1.kIn, ?_⟩) he hpl
  obtain ⟨h1, g1, d1, t1, os1⟩ := s1
  obtain ⟨nm, qn, bs, sn, sub, ab, col, dd, k0, k1, k2, k3, k5, hC⟩ := c.obj
  have KX : X.K.In h1 := I1.kIn
  have hn := c.at KX
  have hi := ns_some_of KX hn c.init
  obtain ⟨oI, hoI, hcI⟩ : ∃ oI, X.K.lookup fI = some oI ∧ oI.cls = .type "function" := by
    have z := beq_iff_eq.mp (show (PySem.W.typeIn X.K (.ref fI) == some (.type "function")) = true from c.fn)
    obtain ⟨o, ho, hc⟩ := Option.map_eq_some_iff.mp (show (X.K.lookup fI).map (·.cls) = some (.type "function") from z)
    exact ⟨o, ho, hc⟩
  refine wpAny_call_exc_init (F := PySem.F.excBase_ValueError) (KX _ _ hC) hn hi (KX _ _ hoI) hcI (fun h' y hmade => ?_) (by rw [List.nil_append, ← r.length, sizeLine_eq]; omega)
  obtain ⟨tt, hy, _, _⟩ := hmade.there
  have I2 : Inv X pins σ (upd H1 y (xn y C none)) ⟨h', g1, d1, t1, os1⟩ := I1.laidN (t' := t1) hmade.keeps hmade.new (xn_ok (a0 := tt) hy)
  have hq := q y (I1.hok.freeN hmade.new)
  have r2 : Vals (V.ref y :: vs) (Value.ref y :: us) := .cons rfl r
  have hl : (Value.ref y :: us ++ []).length = ps.length := by
    rw [List.append_nil, ← r2.length]; exact F.len _ _ _ _ hq
  have hbd := hb ⟨h', g1, d1, t1, os1⟩ (Value.ref y :: us) I2.kIn hl
  rw [List.append_nil] at hbd
  refine wpAny_call (codeAny_mono (F.run _ X.stack _ _ ⟨Value.ref y :: us, []⟩ (Value.ref y :: us) _ _ E0 (hr.make C us []) (I2.env0.make C us []) hbd r2 hq) fun rr s' hq' => ?_)
  cases rr with
  | error e =>
    obtain ⟨_, _, _, _, _, _, _, _, _, _, _, _, _, _, z⟩ := hq'
    exact z.elim
  | ok fl =>
    cases fl with
    | next => exact False.elim hq'
    | brk => exact False.elim hq'
    | cont => exact False.elim hq'
    | ret u =>
      obtain ⟨v, H', I3, rv, ev, d, hx2, hE⟩ := I2.after hq'
      subst ev
      refine ⟨rv, wpAny_bind (wpAny_standAt (wpAny_pure ?_))⟩
      obtain ⟨a0, hy3⟩ := xn_get I3.hok hx2
      refine ⟨y, nm, qn, C, N, bs, sn, sub, ab, col, dd, k0, k1, k2, k3, k5, some d, a0, rfl, I3.kIn _ _ hC, hy3, ?_⟩
      have I4 : Inv X pins σ (upd H' y (xo y C d true)) s' := I3.write (h' := s'.heap) (t' := s'.toks) (by rw [hx2]; exact True.intro) (.inl rfl) (fun b u _ q => q) ⟨_, hy3⟩ (xo_ok hy3 rfl rfl rfl (by show 4 < 6; decide) (fun _ => rfl))
      exact hfl pins σ _ s' y C d true I4 upd_same (fun _ _ _ => rfl) (new_old I1 hex hmade.new) ⟨_, _, _, hy3, rfl, rfl, .inl rfl⟩ hE
end

def tXInit (K : PySem.W.Frag) (t : TA) : TE := fun σ H Q => t σ H fun vs H1 => ∃ x C N fI d rest, vs = .ref x :: rest ∧ rest.length ≤ 1000 ∧ H1 x = some (xn x C d) ∧ XCls K C N fI ∧ Q .non H1
def sXFld (K : PySem.W.Frag) (ta tv : TE) (f : Str) : TS := fun D σ H => tv σ H fun y H1 => ta σ H1 fun o H2 => ∃ x C N fI, o = .ref x ∧ H2 x = some (xn x C none) ∧ XCls K C N fI ∧ PySem.W.nsIn K N f = some none ∧
  ∀ d, H2 d = none → D.nx σ (upd (upd H2 x (xn x C (some d))) d (.xd [(f, y)]))
def tXGet (K : PySem.W.Frag) (ta : TE) (f : Str) : TE := fun σ H Q => ta σ H fun o H1 => ∃ x C N fI d q fs v, o = .ref x ∧ H1 x = some (xo x C d q) ∧ XCls K C N fI ∧ PySem.W.nsIn K N f = some none ∧ H1 d = some (.xd fs) ∧ fs.lookup f = some v ∧ Q v H1
section
variable {X : Cx} {o e value : Expr} {f : Str} {pos pos' : Pos} {ta tv : TE}
theorem pe_xget (he : PE X e ta) (hB : typeLookup (.type "ValueError") f = pure none) (hb : attributeBase e f X.env (eval e X.env) = eval e X.env) : PE X (.Attribute e f pos) (tXGet X.K ta f) := by
  intro pins s σ H Q I h
  refine attr_of hb (thn (he pins s σ H _ I h) fun u s1 ⟨o, H1, I1, rx, x, C, N, fI, d, qq, fs, v, eo, ex, c, nf, ed, l, q⟩ => ?_)
  subst eo
  obtain rfl : u = Value.ref x := rx
  obtain ⟨oe, vs, e1, e2, e3, e4, _, _⟩ := xo_get I1.hok ex
  obtain ⟨mA, hA, rA⟩ := (show ObjOk X.prog X.w H1 s1.heap d (.xd fs) from I1.hok d _ ed)
  obtain ⟨w', hw, rw'⟩ := RelO.some_of (v := v) (o := mA f) (by rw [← l]; exact rA f)
  obtain ⟨nm, qn, bs, sn, sub, ab, col, dd, k0, k1, k2, k3, k5, hC⟩ := c.obj
  obtain ⟨h1, g1, d1, t1, os1⟩ := s1
  have KX : X.K.In h1 := I1.kIn
  exact Xc.xload (KX _ _ hC) (c.at KX) (c.no KX c.nga) (c.no KX c.nge) (c.no KX nf) hB e1 e2 e3 e4 hA hw (PySem.W.handedOut_of (handed_of rw')) ⟨v, H1, I1.tok _, rw', q⟩
theorem ps_xfld (ha : PE X o ta) (hv : PE X value tv) (hB : typeLookup (.type "ValueError") f = pure none) (hs : swapsWith value (some (.Attribute o f pos')) pos.line X.env = pure false) : PS X (.Assign [.Attribute o f pos'] value pos) (sXFld X.K ta tv f) := by
  intro pins s σ H D I h
  refine plainObj_wpAny_Assign_Attribute (thn (hv pins s σ H _ I h) fun u s1 ⟨y, H1, I1, ry, q⟩ => thn (ha pins s1 σ H1 _ I1 q) fun ov s2 ⟨o, H2, I2, rx, x, C, N, fI, eo, ex, c, nf, q2⟩ => ?_) hs
  subst eo
  obtain rfl : ov = Value.ref x := rx
  obtain ⟨a0, hx⟩ := xn_get I2.hok ex
  obtain ⟨nm, qn, bs, sn, sub, ab, col, dd, k0, k1, k2, k3, k5, hC⟩ := c.obj
  obtain ⟨h1, g1, d1, t1, os1⟩ := s2
  have KX : X.K.In h1 := I2.kIn
  refine Xc.xstore (KX _ _ hC) (c.at KX) (c.no KX c.nsa) (c.no KX nf) hB hx fun h' tk' dx sz ne hx' hns keep => ?_
  have nd : H2 dx = none := I2.hok.fresh sz
  have old : ∀ b o, h1.get? b = some o → b ≠ dx := fun b o e z => absurd (Heap.lt_size e) (by rw [z]; exact Nat.not_lt.mpr sz)
  have xd : x ≠ dx := Ne.symm ne
  have hx2 : ∀ b, H2 b = none → b ≠ x := fun b n z => by rw [z, ex] at n; cases n
  have un : Un X.fs [] H2 (upd (upd H2 x (xn x C (some dx))) dx (.xd [(f, y)])) h1 h' := by
    refine ⟨fun b o e n _ _ => keep b o (hx2 b n) e, fun b o e n _ _ => ⟨o.slots, keep b o (hx2 b n) e⟩, fun b o e n _ => by rw [upd_ne (old b o e), upd_ne (hx2 b n)]; exact n, fun b o e _ => ?_, fun b xs e => ?_, fun b o u e => ?_, fun b ps e => ⟨#[], ?_⟩⟩
    · by_cases z : b = x
      · subst z; exact ⟨_, hx'⟩
      · exact ⟨o, keep b o z e⟩
    · rw [upd_ne (ne_of_none e nd), upd_ne (fun z => by rw [z, ex] at e; cases e)]; exact e
    · rw [upd_ne (ne_of_none e nd), upd_ne (fun z => by rw [z, ex] at e; cases e)]; exact e
    · rw [upd_ne (ne_of_none e nd), upd_ne (fun z => by rw [z, ex] at e; cases e), e]; simp
  have hok : HOk X.prog X.w (upd (upd H2 x (xn x C (some dx))) dx (.xd [(f, y)])) h' := fun b u e => by
    by_cases z : b = dx
    · subst z
      rw [upd_same] at e; cases e
      refine ⟨_, hns, fun g => ?_⟩
      by_cases q : g = f
      · subst q
        show RelO (List.lookup g [(g, y)]) (if g = g then some u else none)
        rw [if_pos rfl]
        simp only [List.lookup, beq_self_eq_true]
        exact ry
      · rw [if_neg q]
        have hb : (g == f) = false := beq_eq_false_iff_ne.mpr q
        simp only [List.lookup, hb]
        exact True.intro
    · rw [upd_ne z] at e
      by_cases z2 : b = x
      · subst z2
        rw [upd_same] at e; cases e
        exact xn_ok hx'
      · rw [upd_ne z2] at e
        refine (I2.hok b u e).stay (fun b' v hb q => keep b' v ?_ q) (fun b' q => ?_) fun b' xs q => ?_
        · rcases hb with y1 | y1
          · rw [y1]; exact z2
          · intro y2; rw [y2, ex] at y1; cases y1
        · rw [upd_ne (ne_of_none q nd), upd_ne (fun y2 => by rw [y2, ex] at q; cases q)]; exact q
        · rw [upd_ne (ne_of_none q nd), upd_ne (fun y2 => by rw [y2, ex] at q; cases q)]; exact q
  exact ⟨σ, _, I2.un (t' := tk') un hok, q2 dx nd⟩
end
end L2

namespace L2
open PySem PySem.Spec PyProof.Rows
theorem boot_VE : bootBuiltins "ValueError" = some (.type "ValueError") := by first | rfl | decide +kernel
theorem find_VEI (K : PySem.W.Frag) : PySem.W.findCls K (.type "ValueError") (.type "type") "__init__" = some (.val (.builtin "ValueError.__init__")) := by first | rfl | kernel_rfl
theorem type_VE : typeOf (.type "ValueError") = pure (.type "type") := by first | rfl | kernel_rfl
section
variable {X : Cx} {e : Expr} {es : List Expr} {p apos pos : Pos} {t : TA}
theorem pe_xinit {pl : Sem Bool} (hg : Gl X "ValueError") (hm : X.mg "ValueError" = none) (ha : PA X (e :: es) t) (he : starEach (e :: es) X.env = (false, eval e X.env) :: starEach es X.env := by rfl) (hpl : (backTo pos (starEach es X.env)).any (·.1) = false := by rfl)
    (ht : eval (.Call (.Attribute (.Name "ValueError" p) "__init__" apos) (e :: es) [] pos) X.env = (do
      let ov ← eval (.Name "ValueError" p) X.env
      standAt apos.atName
      let (f, first) ← holding [ov] (getMethod ov "__init__" pl)
      callWith pos f first (backTo pos (starEach (e :: es) X.env)) (backToKw pos (keywordEach [] X.env))) := by rfl) :
    PE X (.Call (.Attribute (.Name "ValueError" p) "__init__" apos) (e :: es) [] pos) (tXInit X.K t) := by
  intro pins s σ H Q I h
  refine PySem.W.methodCall_KW (pl := pl) (ld_blt I hg hm boot_VE ?_) ht
  obtain ⟨m, F⟩ := I.fr
  refine PySem.W.method_type F I.mod.kin type_VE (by decide +kernel) (find_VEI X.K) rfl ?_
  refine PyProof.Rows.callWith_builtin1 (thn (ha pos pins _ σ H _ (I.tok _) h) fun us s1 ⟨vs, H1, I1, r, x, C, N, fI, d, rest, ev, hz, hx, c, q⟩ => ?_) he hpl
  subst ev
  cases r with
  | @cons _ u _ us' r1 r2 =>
    obtain rfl : u = Value.ref x := r1
    obtain ⟨a0, hx0⟩ := xn_get I1.hok hx
    obtain ⟨nm, qn, bs, sn, sub, ab, col, dd, k0, k1, k2, k3, k5, hC⟩ := c.obj
    obtain ⟨h1, g1, d1, t1, os1⟩ := s1
    have KX : X.K.In h1 := I1.kIn
    refine Xc.xinit (KX _ _ hC) hx0 (by rw [← r2.length, sizeLine_eq]; omega) fun h' a1 hx' keep => ?_
    have I2 : Inv X pins σ (upd H1 x (xn x C d)) ⟨h', g1, d1, t1, os1⟩ := I1.write (h' := h') (t' := t1) (by rw [hx]; exact True.intro) (.inl rfl) keep ⟨_, hx'⟩ (xn_ok hx')
    rw [upd_id hx] at I2
    exact ⟨.non, H1, I2, rfl, q⟩
end

abbrev Cx.hand (X : Cx) (x : Addr) : Cx := { X with A := X.A.mark (some (.ref x)), calm := false, xe := fun _ _ => False }
abbrev Cx.tr (X : Cx) (pins : List (Addr × Obj)) (E : Value → Shared → Prop) : Cx := { X with pn := X.pn ++ pins, xe := E }
section
variable {X : Cx} {pins pins' : List (Addr × Obj)} {σ : St} {H : Hp} {s : Shared} {x : Addr} {E : Value → Shared → Prop}
theorem Inv.hand (I : Inv X pins σ H s) (x : Addr) : Inv (X.hand x) pins σ H s :=
  ⟨⟨I.ok.mod, I.ok.kind, I.ok.glob, I.ok.blt, I.ok.above, I.ok.inj, I.ok.has, I.ok.cab, fun z => Bool.noConfusion z, I.ok.frames, I.ok.stk, I.ok.exf, I.ok.bs, I.ok.bsz, I.ok.noex, I.ok.exfs, I.ok.funs, I.ok.frf⟩, I.os, I.bare, I.base, I.loc, I.cell, I.free, I.freeC, I.pin, I.hok, I.len⟩
theorem Inv.unhand (ok : X.Ok) (I : Inv (X.hand x) pins σ H s) : Inv X pins σ H s := ⟨ok, I.os, I.bare, I.base, I.loc, I.cell, I.free, I.freeC, I.pin, I.hok, I.len⟩
theorem Inv.tr (I : Inv X pins σ H s) (E : Value → Shared → Prop) : Inv (X.tr pins E) [] σ H s :=
  ⟨⟨I.ok.mod, I.ok.kind, I.ok.glob, I.ok.blt, I.ok.above, I.ok.inj, I.ok.has, I.ok.cab, I.ok.hd, I.ok.frames, I.ok.stk, I.ok.exf, I.ok.bs, I.ok.bsz, I.ok.noex, I.ok.exfs, I.ok.funs, I.ok.frf⟩, I.os, I.bare, I.base, I.loc, I.cell, I.free, I.freeC,
    fun p hp => I.pin p (by rw [List.append_nil] at hp; exact hp), I.hok, I.len⟩
theorem Inv.untr (I : Inv (X.tr pins E) pins' σ H s) : Inv X pins σ H s :=
  ⟨⟨I.ok.mod, I.ok.kind, I.ok.glob, I.ok.blt, I.ok.above, I.ok.inj, I.ok.has, I.ok.cab, I.ok.hd, I.ok.frames, I.ok.stk, I.ok.exf, I.ok.bs, I.ok.bsz, I.ok.noex, I.ok.exfs, I.ok.funs, I.ok.frf⟩, I.os, I.bare, I.base, I.loc, I.cell, I.free, I.freeC,
    fun p hp => I.pin p (List.mem_append_left _ hp), I.hok, I.len⟩
theorem SP.untr {D : Ends} {f : Flow} {s' : Shared} (h : SP (X.tr pins E) pins' D f s') : SP X pins D f s' := by
  cases f with
  | next => obtain ⟨σ', H', I, q⟩ := h; exact ⟨σ', H', I.untr, q⟩
  | brk => obtain ⟨σ', H', I, q⟩ := h; exact ⟨σ', H', I.untr, q⟩
  | cont => obtain ⟨σ', H', I, q⟩ := h; exact ⟨σ', H', I.untr, q⟩
  | ret u => obtain ⟨v, σ', H', I, r, q⟩ := h; exact ⟨v, σ', H', I.untr, r, q⟩
theorem none_at {n i : Nat} {v : V} (h : (List.replicate n (none : Option V))[i]? = some (some v)) : False := by
  rw [List.getElem?_replicate] at h
  split at h <;> cases h
theorem Inv.blank (I : Inv X pins σ H s) : Inv X pins (List.replicate X.N.length none) H s :=
  I.weak (by rw [List.length_replicate, I.len]) fun i v h => (none_at h).elim
theorem Inv.lost {h' : Heap} {m' : Str → Option Value} {t' : Nat} (I : Inv X pins σ H s) (hn' : h'.Ns X.env.locals m') (hs : Heap.SameBut X.env.locals s.heap h') : Inv X pins (List.replicate X.N.length none) H { s with heap := h', toks := t' } := by
  obtain ⟨m, hn, _⟩ := id I.loc
  have cne := I.cne
  refine ⟨I.ok, I.os, I.bare, ⟨fun b o e n hb hx => ?_, fun b o e n hb hx => ?_, I.base.free, fun b o e hx => ?_, I.base.tups, I.base.frzs, I.base.tbls⟩, ⟨_, hn', fun j y v' e1 e2 e3 => (none_at e2).elim⟩, fun y c e => ?_, I.free, I.freeC, fun p hp => ?_, fun b ob e => ?_, by rw [List.length_replicate]⟩
  · exact (hs.2 b (Nat.ne_of_lt (Nat.lt_of_lt_of_le (Heap.lt_size e) I.ok.above))).trans (I.base.keep b o e n hb hx)
  · obtain ⟨sl, e1⟩ := I.base.slot b o e n hb hx
    exact ⟨sl, (hs.2 b (Nat.ne_of_lt (Nat.lt_of_lt_of_le (Heap.lt_size e) I.ok.above))).trans e1⟩
  · obtain ⟨o', e1⟩ := I.base.there b o e hx
    exact ⟨o', (hs.2 b (Nat.ne_of_lt (Nat.lt_of_lt_of_le (Heap.lt_size e) I.ok.above))).trans e1⟩
  · obtain ⟨w', z⟩ := I.cell y c e
    exact ⟨w', z.sameBut hs (cne y c e)⟩
  · obtain ⟨e, n, ne, nf, d⟩ := I.pin p hp
    exact ⟨(hs.2 p.1 ne).trans e, n, ne, nf, d⟩
  · refine (I.hok b ob e).stay (fun c w' hc q => (hs.2 c ?_).trans q) (fun _ q => q) fun _ _ q => q
    rintro rfl
    rcases hc with hc | hc
    · rw [← hc, I.free] at e; cases e
    · rw [I.free] at hc; cases hc
end
def ETry (C : Addr) (i n : Nat) (ts : TS) (D : Ends) : XK := fun cls d H' => cls = .ref C ∧ ∃ dx, d = some dx ∧ ∀ x q, H' x = some (xo x C dx q) → Qt H' dx q → ts { nx := fun _ _ => False, rt := D.rt } ((List.replicate n none).set i (some (.ref x))) H'
def XT (X : Cx) (pins : List (Addr × Obj)) (D : Ends) (hs : List ExceptHandler) : Value → Shared → Prop := fun e s1 => wpAny (model X.prog X.w) X.A (noteFrame e X.env) (fun _ s2 => wpAny (model X.prog X.w) X.A (setFlight e none)
  (fun _ s3 => wpAny (model X.prog X.w) X.A (handleBy e X.env hs) (SP X pins D) X.xe s3) X.xe s2) X.xe s1
section
variable {X : Cx} {C N fI : Addr} {cn n : Str} {i : Nat} {b0 : Stmt} {suite body : List Stmt} {ts : TS} {tb : Ends → TS} {p hpos pos : Pos}
theorem xrest {M : Model} {A : Around} {E : Value → Shared → Prop} {s : Shared} {x : Addr} {Q : Unit → Shared → Prop} (hh : HdOk s.heap x) (h : Q () s) : wpAny M A (setFlight (.ref x) none) Q E s := by
  obtain ⟨oe, vs, hd, he, hdat, h1, hhd⟩ := hh
  unfold setFlight
  refine wpAny_bind (wpAny_field he hdat h1 ?_)
  rcases hhd with rfl | ⟨T, oT, ts, rfl, hTx, hT, hTd, hT3⟩
  · rw [if_neg (by decide)]
    exact wpAny_pure h
  · rw [if_pos (show (Value.ref T != Value.none) = true from by simp)]
    refine wpAny_setField hT hTd (Array.getElem?_eq_some_iff.mp hT3).1 ?_
    show Q () { s with heap := s.heap.update T (Obj.mapFields (·.setIfInBounds 3 Value.none)) }
    rw [Heap.update_setField_same s.heap T oT ts 3 Value.none hT hTd hT3]
    exact h
theorem flies_try {pins : List (Addr × Obj)} {D : Ends} (c : XCls X.K C N fI) (hst : X.stack = X.env :: X.outer) (hf : X.env.frame = some X.env.locals) (hg : Gl X cn) (hm : X.mg cn = some (.ref C)) (nd : X.N.Nodup) (hi : X.N[i]? = some n) (hl : X.env.scope.names.lookup n = some .local)
    (hS : ∀ x, PSs (X.hand x) (b0 :: suite) ts) (hdb : (cn == ("__debug__" : Str)) = false) :
    Flies (X.tr pins (XT X pins D [.ExceptHandler (some (.Name cn p)) (some n) (b0 :: suite) hpos])) (ETry C i X.N.length ts D) := by
  rintro pins' σ' H s x C' d q I hx hq nx hh ⟨eC, dx, ed, hE⟩
  cases eC
  cases ed
  have I0 : Inv X pins (List.replicate X.N.length none) H s := (Inv.untr I).blank
  show wpAny _ _ (noteFrame _ _) _ _ s
  refine xfly I0 I0.ok.frames hst hf hx hh fun h' I1 hh1 => ?_
  refine wpAny_handleBy_cons (codeAny_handlers_test ?_) (by intro q; cases q)
  refine ld_glob (X := X.hand x) (I1.hand x) hg hm ?_ hdb
  obtain ⟨oe, vs, e1, e2, e3, e4, _, _⟩ := xo_get I1.hok hx
  obtain ⟨nm, qn, bs, sn, sub, ab, col, dd, k0, k1, k2, k3, k5, hC⟩ := c.obj
  obtain ⟨h0, g0, d0, t0, os0⟩ := s
  refine wpAny_excMatches_sub_self (I1.kIn _ _ hC) e1 e2 PySem.F.excBase_ValueError.hasBase ?_
  show codeAny _ _ (.handlers _ [.ExceptHandler none (some n) (b0 :: suite) hpos] _) _ _
  refine codeAny_handlers_suite_as (xrest hh1 ?_)
  refine store_ok (X := X.hand x) (v := .ref x) (I1.hand x) nd hi (Or.inl hl) rfl (fun s2 I2 => ?_) (.inr hl)
  refine wpAny_mono (hS x pins s2 _ H _ I2 (hE x q hx hq)) (fun f s3 hf3 => ?_) (fun _ _ z => z.elim)
  cases f with
  | next => obtain ⟨_, _, _, z⟩ := hf3; exact z.elim
  | brk => obtain ⟨_, _, _, z⟩ := hf3; exact False.elim z
  | cont => obtain ⟨_, _, _, z⟩ := hf3; exact False.elim z
  | ret u =>
    obtain ⟨v, σ3, H3, I3, rv, q⟩ := hf3
    have I4 : Inv X pins σ3 H3 s3 := I3.unhand I0.ok
    obtain ⟨m, hn, _⟩ := id I4.loc
    show wpAny _ _ (do bindName X.env n .none; unbindBehindTheSuite X.env n hpos) _ _ s3
    refine wpAny_nameGoes hl hn (by rw [I4.ok.kind]; rfl) fun h5 m5 hn5 hs5 => ?_
    exact ⟨v, _, H3, I4.lost hn5 hs5, rv, q⟩
def tTry (tb : Ends → TS) : TS := fun D σ H => tb D D σ H
theorem ps_try (c : XCls X.K C N fI) (hst : X.stack = X.env :: X.outer) (hf : X.env.frame = some X.env.locals) (hg : Gl X cn) (hm : X.mg cn = some (.ref C)) (nd : X.N.Nodup) (hi : X.N[i]? = some n) (hl : X.env.scope.names.lookup n = some .local)
    (hS : ∀ x, PSs (X.hand x) (b0 :: suite) ts)
    (hB : ∀ pins D, Flies (X.tr pins (XT X pins D [.ExceptHandler (some (.Name cn p)) (some n) (b0 :: suite) hpos])) (ETry C i X.N.length ts D) → PSs (X.tr pins (XT X pins D [.ExceptHandler (some (.Name cn p)) (some n) (b0 :: suite) hpos])) body (tb D))
    (hdb : (cn == ("__debug__" : Str)) = false := by decide) : PS X (.Try body [.ExceptHandler (some (.Name cn p)) (some n) (b0 :: suite) hpos] [] [] pos) (tTry tb) := by
  intro pins s σ H D I h
  refine wpAny_Try_except (wpAny_mono (hB pins D (flies_try c hst hf hg hm nd hi hl hS hdb) [] s σ H D (I.tr _) h) (fun f s1 q => ?_) fun e s1 q => q)
  have q' : SP X pins D f s1 := q.untr
  cases f with
  | next => exact wpAny_execs_nil q'
  | brk => exact q'
  | cont => exact q'
  | ret u => exact q'
end
end L2

end
section
set_option Elab.async false
set_option linter.all false
set_option maxRecDepth 100000
namespace Xc
open PySem
open Builtin Builtin.ObjectAttr
section
variable {prog : Program} {w : World} {A : Around} {E : Value → Shared → Prop} {h : Heap} {g : Array GenState} {d : Drawn} {t : Nat} {os : OsState}
variable {nm q : Str} {C N x : Addr} {bs : List Value} {sn : List Str} {sub : List Value} {ab : Bool} {col : Option Bool} {dd : Option Addr} {k0 k1 k2 k3 k5 : Option Value}
  {mN : Str → Option Value} {name n1 : Str} {v v1 : Value}
theorem xstore2_entry {tk : Tok} {a0 dx : Addr} {Q : Fin → Shared → Prop} (hC : h.get? C = some (excClassObj nm q C N bs bmV true sn sub ab col dd k0 k1 k2 k3 k5 "ValueError.__new__")) (hn : h.Ns N mN) (hna : mN name = none)
    (hB : typeLookup (.type "ValueError") name = pure none) (hx : h.get? x = some (xobj C (some dx) a0)) (hd : h.Ns1 dx (fun y => if y = n1 then some v1 else none))
    (hq : ∀ h' tk', h'.Ns1 dx (fun y => if y = name then some v else if y = n1 then some v1 else none) → Heap.SameBut dx h h' → Q (.done (.ret .none)) ⟨h', g, d, tk', os⟩) :
    wpAny (model prog w) A (Builtin.«object.__setattr__» ⟨[.ref x, .str name tk, v], []⟩) Q E ⟨h, g, d, t, os⟩ := by
  have SF := F.store_ValueError
  have pass := SF.passes (.ref x)
  unfold Builtin.«object.__setattr__»
  repeat (first | with_reducible refine wpAny_nsSet1 (s := ⟨h, g, d, t, os⟩) hd ?_ | rw [refuse_eq] | (rw [refuseLoop_ref, pass]) | with_reducible refine wpAny_loadPart_at hx ?_ | with_reducible refine wpAny_mroOf_exc hC ?_ | (with_reducible refine wpAny_typeLookup_exc hC hn SF.mro hB ?_; rw [hna]) | wp_step)
  intro h' hn' hs
  obtain ⟨oD, esD, epD, hoD, hdD, hcD⟩ := hn'.count (Within.cons name v (Within.cons n1 v1 Within.nil))
  refine wpAny_bind (wpAny_lookBehind hoD (by rw [hdD]; exact pastItsLine_dict (Nat.le_trans hcD (by rw [List.length_cons, List.length_cons, List.length_nil, sizeLine_eq]; omega))) (wpAny_pure ?_))
  exact hq h' _ hn' hs
theorem xstore2_call {sa owner : String} {tk : Tok} {a0 dx : Addr} {R : Result → Shared → Prop} (SF : StoreFacts "ValueError" bmV sa owner) (hC : h.get? C = some (excClassObj nm q C N bs bmV true sn sub ab col dd k0 k1 k2 k3 k5 "ValueError.__new__")) (hn : h.Ns N mN) (hna : mN name = none)
    (hB : typeLookup (.type "ValueError") name = pure none) (hx : h.get? x = some (xobj C (some dx) a0)) (hd : h.Ns1 dx (fun y => if y = n1 then some v1 else none))
    (hq : ∀ h' tk', h'.Ns1 dx (fun y => if y = name then some v else if y = n1 then some v1 else none) → Heap.SameBut dx h h' → R (.ok (.ret .none)) ⟨h', g, d, tk', os⟩) :
    codeAny (model prog w) A (.call (.builtin sa) ⟨[.ref x, .str name tk, v], []⟩) R ⟨h, g, d, t, os⟩ := by
  have ho : ∃ o, h.get? x = some o ∧ o.cls = .ref C := ⟨_, hx, rfl⟩
  obtain ⟨o, ho, hc⟩ := ho
  exact codeAny_call_builtin SF.slot.plain SF.entry (wpAny_check_sa SF hC ho hc (xstore2_entry hC hn hna hB hx hd hq))
theorem xstore2_by {sa owner : String} {a0 dx : Addr} {Q : Unit → Shared → Prop} (SF : StoreFacts "ValueError" bmV sa owner) (hC : h.get? C = some (excClassObj nm q C N bs bmV true sn sub ab col dd k0 k1 k2 k3 k5 "ValueError.__new__")) (hn : h.Ns N mN) (hns : mN "__setattr__" = none) (hna : mN name = none)
    (hB : typeLookup (.type "ValueError") name = pure none) (hx : h.get? x = some (xobj C (some dx) a0)) (hd : h.Ns1 dx (fun y => if y = n1 then some v1 else none))
    (hq : ∀ h' tk', h'.Ns1 dx (fun y => if y = name then some v else if y = n1 then some v1 else none) → Heap.SameBut dx h h' → Q () ⟨h', g, d, tk', os⟩) :
    wpAny (model prog w) A (setAttr (.ref x) name v) Q E ⟨h, g, d, t, os⟩ := by
  have bnd := SF.slot.bind (.ref x)
  have hx0 : ∃ o, h.get? x = some o ∧ o.cls = .ref C := ⟨_, hx, rfl⟩
  obtain ⟨o, ho, hc⟩ := hx0
  unfold setAttr callSpecial? specialOf
  repeat (first | (with_reducible refine wpAny_loadPart_at ho ?_; rw [hc]) | (with_reducible refine wpAny_typeLookup_exc hC hn SF.mro SF.slot.lookup ?_; rw [hns]) | (with_reducible refine wpAny_of_eq bnd ?_) | wp_step)
  refine xstore2_call SF hC hn hna hB hx hd fun h' tk' a1 a2 => ?_
  exact wpAny_pure (wpAny_pure (hq h' tk' a1 a2))
theorem xstore2 {a0 dx : Addr} {Q : Unit → Shared → Prop} (hC : h.get? C = some (excClassObj nm q C N bs bmV true sn sub ab col dd k0 k1 k2 k3 k5 "ValueError.__new__")) (hn : h.Ns N mN) (hns : mN "__setattr__" = none) (hna : mN name = none)
    (hB : typeLookup (.type "ValueError") name = pure none) (hx : h.get? x = some (xobj C (some dx) a0)) (hd : h.Ns1 dx (fun y => if y = n1 then some v1 else none))
    (hq : ∀ h' tk', h'.Ns1 dx (fun y => if y = name then some v else if y = n1 then some v1 else none) → Heap.SameBut dx h h' → Q () ⟨h', g, d, tk', os⟩) :
    wpAny (model prog w) A (setAttr (.ref x) name v) Q E ⟨h, g, d, t, os⟩ := xstore2_by F.store_ValueError hC hn hns hna hB hx hd hq

theorem xunchain {y z : Addr} {oz : Obj} {vz : Array Value} {s : Shared} {Q : Value → Shared → Prop} (hz : s.heap.get? z = some oz) (hzd : oz.data = .fields vz) (h2 : vz[2]? = some .none) (hq : Q .none s) :
    wpAny (model prog w) A (runValue (.builtin "proto.unchain" ⟨[.ref y, .ref z, .ref z, .bool false], []⟩)) Q E s := by
  refine wpAny_runValue (codeAny_builtin (b := Builtin.«proto.unchain») (entryFor_of_tree (by kernel_rfl)) ?_)
  unfold Builtin.«proto.unchain»
  refine wpAny_bind (wpAny_field hz hzd h2 ?_)
  rw [if_pos (by decide)]
  wp_walk
  exact hq
theorem xraiseF {env : Env} {s : Shared} {y c : Sem Value} {z : Addr} {Q : Flow → Shared → Prop} (hh : A.handled = some (.ref z))
    (hy : wpAny (model prog w) A y (fun v s1 => wpAny (model prog w) A c (fun u s2 => u = .none ∧ ∃ x nm q C N bs sn sub ab col dd k0 k1 k2 k3 k5 dx t oz vz, v = .ref x ∧ s2.heap.get? C = some (excClassObj nm q C N bs bmV true sn sub ab col dd k0 k1 k2 k3 k5 "ValueError.__new__") ∧
      s2.heap.get? x = some (xobj C dx t) ∧ z ≠ x ∧ C ≠ x ∧ s2.heap.get? z = some oz ∧ oz.data = .fields vz ∧ vz[2]? = some .none ∧
      ∀ h', h'.get? x = some { cls := .ref C, dict := dx, data := .fields #[.ref t, .none, .ref z, .none, .bool true, .none] } → (∀ b, b ≠ x → h'.get? b = s2.heap.get? b) → E (.ref x) { s2 with heap := h' }) E s1) E s) :
    wpAny (model prog w) A (raiseStmt env (some y) (some c)) Q E s := by
  unfold raiseStmt
  refine wpAny_bind (wpAny_mono hy (fun v s1 h1 => ?_) fun _ _ z => z)
  refine wpAny_bind (wpAny_holding (wpAny_mono h1 (fun u s2 h2 => wpAny_bind (wpAny_pure ?_)) fun _ _ z => z))
  obtain ⟨rfl, x, nm, q, C, N, bs, sn, sub, ab, col, dd, k0, k1, k2, k3, k5, dx, t, oz, vz, rfl, hC, hx, nz, nC, hz, hzd, h2, hE⟩ := h2
  obtain ⟨hp, g, d, tk, os⟩ := s2
  have hcB : (Value.ref C :: bmV).contains (.type "BaseException") = true := by rw [List.contains_cons, F.excBase_ValueError.hasBase, Bool.or_true]
  repeat (first | with_reducible refine wpAny_loadPart_at hx ?_ | with_reducible refine wpAny_loadPart_at hC ?_ | (with_reducible refine wpAny_isSubtype_exc hC ?_; rw [hcB]) | wp_step)
  generalize hg : ((hp.update x (Obj.mapFields fun x => x.setIfInBounds 3 Value.none)).update x (Obj.mapFields fun x => x.setIfInBounds 4 (Value.bool true))) = h1
  have e1 : h1.get? x = some { cls := .ref C, dict := dx, data := .fields #[.ref t, .none, .none, .none, .bool true, .none] } := by
    rw [← hg]
    exact (Heap.get?_update_self _ (Heap.get?_update_self _ hx rfl) rfl).trans rfl
  have e2 : ∀ b, b ≠ x → h1.get? b = hp.get? b := fun b hb => by
    rw [← hg]
    exact (Heap.get?_update_ne _ _ _ _ hb).trans (Heap.get?_update_ne _ _ _ _ hb)
  unfold raiseNew
  refine wpAny_bind (wpAny_handled ?_)
  rw [hh]
  show wpAny _ _ (if (Value.ref z != Value.ref x) = true then _ else _) _ _ _
  rw [if_pos (by rw [bne_iff_ne]; intro e; injection e with e; exact nz e)]
  refine wpAny_bind (wpAny_holding (xunchain (oz := oz) (vz := vz) ((e2 z nz).trans hz) hzd h2 ?_))
  have e3 : x < h1.objs.size := Heap.lt_size e1
  refine wpAny_bind (wpAny_setField (a := x) (i := 2) (x := Value.ref z) e1 rfl (by show 2 < 6; decide) (wpAny_throw ?_))
  refine hE _ ((Heap.get?_update_self _ e1 rfl).trans rfl) fun b hb => (Heap.get?_update_ne _ _ _ _ hb).trans (e2 b hb)
end
end Xc

end
section
set_option Elab.async false
set_option linter.all false
set_option maxRecDepth 100000
set_option maxHeartbeats 2000000
namespace L2
open PySem PySem.Spec PyProof.Rows
def sXFld2 (K : PySem.W.Frag) (ta tv : TE) (f f1 : Str) : TS := fun D σ H => tv σ H fun y H1 => ta σ H1 fun o H2 => ∃ x C N fI d y1, o = .ref x ∧ H2 x = some (xn x C (some d)) ∧ H2 d = some (.xd [(f1, y1)]) ∧ XCls K C N fI ∧ PySem.W.nsIn K N f = some none ∧
  D.nx σ (upd H2 d (.xd [(f, y), (f1, y1)]))
section
variable {X : Cx} {o value : Expr} {f f1 : Str} {pos pos' : Pos} {ta tv : TE}
theorem ps_xfld2 (ha : PE X o ta) (hv : PE X value tv) (hB : typeLookup (.type "ValueError") f = pure none) (hne : ¬ f = f1) (hs : swapsWith value (some (.Attribute o f pos')) pos.line X.env = pure false) : PS X (.Assign [.Attribute o f pos'] value pos) (sXFld2 X.K ta tv f f1) := by
  intro pins s σ H D I h
  refine plainObj_wpAny_Assign_Attribute (thn (hv pins s σ H _ I h) fun u s1 h1 => ?_) hs
  obtain ⟨y, H1, I1, ry, q⟩ := h1
  refine thn (ha pins s1 σ H1 _ I1 q) fun ov s2 h2 => ?_
  obtain ⟨o, H2, I2, rx, x, C, N, fI, d, y1, eo, ex, ed, c, nf, q2⟩ := h2
  subst eo
  obtain rfl : ov = Value.ref x := rx
  obtain ⟨a0, hx⟩ := xn_get I2.hok ex
  obtain ⟨mA, hA, rA⟩ := (show ObjOk X.prog X.w H2 s2.heap d (.xd [(f1, y1)]) from I2.hok d _ ed)
  obtain ⟨u1, hu1, ru1⟩ := RelO.some_of (v := y1) (o := mA f1) (by have := rA f1; simp only [List.lookup, beq_self_eq_true] at this; exact this)
  have em : mA = fun y => if y = f1 then some u1 else none := by
    funext z
    by_cases q : z = f1
    · subst q; rw [if_pos rfl]; exact hu1
    · rw [if_neg q]
      have hb : (z == f1) = false := beq_eq_false_iff_ne.mpr q
      have := rA z
      simp only [List.lookup, hb] at this
      exact RelO.none_of this
  rw [em] at hA
  obtain ⟨nm, qn, bs, sn, sub, ab, col, dd, k0, k1, k2, k3, k5, hC⟩ := c.obj
  obtain ⟨h1, g1, d1, t1, os1⟩ := s2
  have KX : X.K.In h1 := I2.kIn
  refine Xc.xstore2 (KX _ _ hC) (c.at KX) (c.no KX c.nsa) (c.no KX nf) hB hx hA fun h' tk' hns hs => ?_
  have nd : ∀ b, H2 b = none → b ≠ d := fun b n z => by rw [z, ed] at n; cases n
  have un : Un X.fs [] H2 (upd H2 d (.xd [(f, y), (f1, y1)])) h1 h' := by
    refine ⟨fun b o e n _ _ => (hs.2 b (nd b n)).trans e, fun b o e n _ _ => ⟨o.slots, (hs.2 b (nd b n)).trans e⟩, fun b o e n _ => by rw [upd_ne (nd b n)]; exact n, fun b o e _ => ?_, fun b xs e => ?_, fun b o u e => ?_, fun b ps e => ⟨#[], ?_⟩⟩
    · by_cases z : b = d
      · subst z
        obtain ⟨od, _, _, e1, _⟩ := hns
        exact ⟨od, e1⟩
      · exact ⟨o, (hs.2 b z).trans e⟩
    · rw [upd_ne (fun z => by rw [z, ed] at e; cases e)]; exact e
    · rw [upd_ne (fun z => by rw [z, ed] at e; cases e)]; exact e
    · rw [upd_ne (fun z => by rw [z, ed] at e; cases e), e]; simp
  have hok : HOk X.prog X.w (upd H2 d (.xd [(f, y), (f1, y1)])) h' := fun b u' e => by
    by_cases z : b = d
    · subst z
      rw [upd_same] at e; cases e
      refine ⟨_, hns, fun g => ?_⟩
      by_cases q : g = f
      · subst q
        rw [if_pos rfl]
        simp only [List.lookup, beq_self_eq_true]
        exact ry
      · rw [if_neg q]
        have hb : (g == f) = false := beq_eq_false_iff_ne.mpr q
        by_cases q2 : g = f1
        · subst q2
          rw [if_pos rfl]
          simp only [List.lookup, hb, beq_self_eq_true]
          exact ru1
        · rw [if_neg q2]
          have hb2 : (g == f1) = false := beq_eq_false_iff_ne.mpr q2
          simp only [List.lookup, hb, hb2]
          exact True.intro
    · rw [upd_ne z] at e
      refine (I2.hok b u' e).stay (fun b' v hb q => (hs.2 b' ?_).trans q) (fun b' q => ?_) fun b' xs q => ?_
      · rcases hb with y1 | y1
        · rw [y1]; exact z
        · intro y2; rw [y2, ed] at y1; cases y1
      · rw [upd_ne (fun y2 => by rw [y2, ed] at q; cases q)]; exact q
      · rw [upd_ne (fun y2 => by rw [y2, ed] at q; cases q)]; exact q
  exact ⟨σ, _, I2.un (t' := tk') un hok, q2⟩
end

structure FnH (P : Program) (w : World) (K : PySem.W.Frag) (mg : Str → Option Value) (base : Heap) (f : Addr) (fd : FuncData) (ps : List Str) (sp : Sp) : Prop where
  len : ∀ vs H Q E, sp vs H Q E → vs.length = ps.length
  run : ∀ (A : Around) (outer : List Env) (s : Shared) (H : Hp) (args : Args) (us : List Value) (vs : List V) (Q : VK), A.depth < recursionLimit → Env0 P w K mg base A outer s H → BindsTo s fd args (ps.zip us) → Vals vs us → sp vs H Q E0 →
    codeAny (model P w) A (.call (.ref f) args) (CR (CXx P w) outer P w H s Q E0) s
abbrev cxH (P : Program) (w : World) (K : PySem.W.Frag) (mg : Str → Option Value) (base : Heap) (N : List Str) (qual : Str) (scope : Scope) (f : Addr) (cd : Value) (A : Around) (outer : List Env) (s : Shared) (H : Hp) : Cx :=
  { cxOf (CXx P w) P w K mg base N qual scope f cd A outer s H E0 with calm := false, xe := fun _ _ => False }
theorem Fun.okH {P : Program} {w : World} {K : PySem.W.Frag} {mg : Str → Option Value} {base : Heap} {x qual : Str} {st : Stmt} {f : Addr} {fd : FuncData} {N ps : List Str} {sp : Sp} (F : Fun K x qual st f fd) (S : FnScope N ps (defScope st)) (len : ∀ vs H Q E, sp vs H Q E → vs.length = ps.length)
    (hbody : ∀ (cdv : Value) (A : Around) (outer : List Env) (s : Shared) (H : Hp) (vs : List V) (Q : VK), sp vs H Q E0 →
      ∃ t, PSs (cxH P w K mg base N qual (defScope st) f cdv A outer s H) (defBody st) t ∧ t { nx := fun _ H' => Q .non H', rt := Q } (start N vs) H) : FnH P w K mg base f fd ps sp := by
  obtain ⟨oc, od, kV, doc, pm, an, cdv, ct, osl, rfl, lk, hcd⟩ := F.ex
  refine ⟨len, fun A outer s H args us vs Q hr e0 hb r hsp => ?_⟩
  have hl := len _ _ _ _ hsp
  have KX : K.In s.heap := e0.mod.kin.keeps fun b o e => (e0.bs b o e).1
  have lim : s.heap.NoLimit := e0.mod.nolimit.keeps fun b o e => (e0.bs b o e).1
  have hkind : ∀ y ∈ ps.zip us, (defScope st).names.lookup y.1 = some .local ∨ ((defScope st).names.lookup y.1 = some .cell ∧ ((cellsFrom (s.heap.objs.size + 1) (defScope st).names []).lookup y.1).isSome = true) := fun ⟨n, v⟩ hy => by
    rcases S.par n (List.of_mem_zip hy).1 with q | q
    · exact .inl q
    · exact .inr ⟨q, PySem.W.cellsFrom_some _ _ _ (.inl q)⟩
  refine codeAny_call_function hr (KX _ _ lk) rfl S.co S.gen rfl (PySem.W.codeRec_of KX hcd) (hb _ _ _ _ ?_)
  refine wpAny_newFunctionEnv_cells S.kind hkind fun env he s1 x => ?_
  subst he
  refine ⟨lim.keeps x.toInCall.keep, codeAny_func ?_⟩
  obtain ⟨t, ht, hq⟩ := hbody cdv A outer s H vs Q hsp
  have e1 : Env0 P w K mg base { A with handled := none } outer s H := ⟨e0.frames, e0.mod, e0.bs, e0.bsz, e0.funs, e0.frf, e0.hok, e0.bare⟩
  have I0 : Inv (cxOf (CXx P w) P w K mg base N qual (defScope st) f cdv { A with handled := none } outer s H E0) [] (start N vs) H s1 := inv_start S rfl e1 hl r x
  have I : Inv (cxH P w K mg base N qual (defScope st) f cdv A outer s H) [] (start N vs) H s1 :=
    ⟨⟨I0.ok.mod, I0.ok.kind, I0.ok.glob, I0.ok.blt, I0.ok.above, I0.ok.inj, I0.ok.has, I0.ok.cab, fun z => Bool.noConfusion z, Around.frames_deeper e0.frames, I0.ok.stk, I0.ok.exf, I0.ok.bs, I0.ok.bsz, I0.ok.noex, I0.ok.exfs, I0.ok.funs, I0.ok.frf⟩, I0.os, I0.bare, I0.base, I0.loc, I0.cell, I0.free, I0.freeC, I0.pin, I0.hok, I0.len⟩
  refine wpAny_mono (ht [] s1 (start N vs) H _ I hq) (fun fl s' hs => ?_) fun e s' hs => False.elim hs
  have fin : ∀ {σ' : St} {H' : Hp} {v : V} {u : Value}, Inv (cxH P w K mg base N qual (defScope st) f cdv A outer s H) [] σ' H' s' → RelV v u → Q v H' → CE outer P w H s Q u s' :=
    fun {σ' H' v u} J rv q => ⟨v, H', J.os, J.bare, J.base, J.hok, rv, q⟩
  cases fl with
  | ret u =>
    obtain ⟨v, σ', H', J, rv, q⟩ := hs
    exact fin J rv q
  | next =>
    obtain ⟨σ', H', J, q⟩ := hs
    exact fin (v := V.non) (u := Value.none) J rfl q
  | brk =>
    obtain ⟨_, _, _, q⟩ := hs
    exact False.elim q
  | cont =>
    obtain ⟨_, _, _, q⟩ := hs
    exact False.elim q
end L2

namespace L2
open PySem PySem.Spec PyProof.Rows
abbrev Cx.handR (X : Cx) (z : Addr) (E : Value → Shared → Prop) : Cx := { X with A := X.A.mark (some (.ref z)), calm := false, xe := E }
section
variable {X : Cx} {pins : List (Addr × Obj)} {σ : St} {H : Hp} {s : Shared} {z : Addr} {E : Value → Shared → Prop}
theorem Inv.handR (I : Inv X pins σ H s) (z : Addr) (E : Value → Shared → Prop) : Inv (X.handR z E) pins σ H s :=
  ⟨⟨I.ok.mod, I.ok.kind, I.ok.glob, I.ok.blt, I.ok.above, I.ok.inj, I.ok.has, I.ok.cab, fun z => Bool.noConfusion z, I.ok.frames, I.ok.stk, I.ok.exf, I.ok.bs, I.ok.bsz, I.ok.noex, I.ok.exfs, I.ok.funs, I.ok.frf⟩, I.os, I.bare, I.base, I.loc, I.cell, I.free, I.freeC, I.pin, I.hok, I.len⟩
theorem Inv.unhandR (ok : X.Ok) (I : Inv (X.handR z E) pins σ H s) : Inv X pins σ H s := ⟨ok, I.os, I.bare, I.base, I.loc, I.cell, I.free, I.freeC, I.pin, I.hok, I.len⟩
end
def tRaiseF (C z : Addr) (sp : Sp) (E : XK) (t : TA) : TS := fun _ σ H => t σ H fun vs H1 => vs.length ≤ 1000 ∧ (∃ o, H1 z = some o) ∧ ∀ x, H1 x = none → sp (.ref x :: vs) (upd H1 x (xn x C none)) (fun v H2 => v = .non ∧ ∃ d, H2 x = some (xn x C (some d)) ∧
  (∃ Cz dz, H2 z = some (xo z Cz dz true)) ∧ (∃ fs v, H2 d = some (.xd fs) ∧ fs.lookup ("number" : Str) = some v) ∧ E (.ref C) (some d) (upd H2 x (xo x C d false))) E0
section
variable {X : Cx} {C N fI z : Addr} {fd : FuncData} {ps : List Str} {sp : Sp} {E : XK} {e : Expr} {es : List Expr} {t : TA} {x : Str} {p cpos pos npos : Pos}
theorem ps_raiseF {j} (c : XCls X.K C N fI) (F : FnH X.prog X.w X.K X.mg X.base fI fd ps sp) (hh : X.A.handled = some (.ref z)) (hr : X.A.depth + 1 < recursionLimit) (hg : Gl X x) (hm : X.mg x = some (.ref C)) (hb : Binds X.K fd ps []) (hex : X.ex = []) (hfl : Flies X E)
    (ha : PA X (e :: es) t) (hdb : (x == ("__debug__" : Str)) = false := by decide) (he : starEach (e :: es) X.env = (false, eval e X.env) :: starEach es X.env := by rfl) (hpl : (backTo cpos (starEach es X.env)).any (·.1) = false := by rfl) :
    PS X (.Raise (some (.Call (.Name x p) (e :: es) [] cpos)) (some (.Constant .none j npos)) pos) (tRaiseF C z sp E t) := by
  intro pins s σ H D I h
  rw [arm_exec_Raise]
  refine wpAny_bind (wpAny_standAt ?_)
  show wpAny _ _ (raiseStmt X.env (some (do let v ← eval (.Call (.Name x p) (e :: es) [] cpos) X.env; standAt pos; pure v)) (some (do let v ← eval (.Constant .none j npos) X.env; standAt pos; pure v))) _ _ s
  refine Xc.xraiseF hh (wpAny_bind ?_)
  refine wpAny_Call_Name_kw (ld_glob I hg hm ?_ hdb)
  refine PySem.W.callWith_K (h₀ := X.base) I.ok.mod.kin c.kp (thn (ha cpos pins s σ H _ I h) fun us s1 hh1 => ?_) he hpl
  obtain ⟨vs, H1, I1, r, hz, hzz, q⟩ := hh1
  refine ⟨I1.kIn, ?_⟩
  obtain ⟨h1, g1, d1, t1, os1⟩ := s1
  obtain ⟨nm, qn, bs, sn, sub, ab, col, dd, k0, k1, k2, k3, k5, hC⟩ := c.obj
  have KX : X.K.In h1 := I1.kIn
  have hn := c.at KX
  have hi := ns_some_of KX hn c.init
  obtain ⟨oI, hoI, hcI⟩ : ∃ oI, X.K.lookup fI = some oI ∧ oI.cls = .type "function" := by
    have z := beq_iff_eq.mp (show (PySem.W.typeIn X.K (.ref fI) == some (.type "function")) = true from c.fn)
    obtain ⟨o, ho, hc⟩ := Option.map_eq_some_iff.mp (show (X.K.lookup fI).map (·.cls) = some (.type "function") from z)
    exact ⟨o, ho, hc⟩
  refine wpAny_call_exc_init (F := PySem.F.excBase_ValueError) (KX _ _ hC) hn hi (KX _ _ hoI) hcI (fun h' y hmade => ?_) (by rw [List.nil_append, ← r.length, sizeLine_eq]; omega)
  obtain ⟨tt, hy, _, _⟩ := hmade.there
  have I2 : Inv X pins σ (upd H1 y (xn y C none)) ⟨h', g1, d1, t1, os1⟩ := I1.laidN (t' := t1) hmade.keeps hmade.new (xn_ok (a0 := tt) hy)
  have hq := q y (I1.hok.freeN hmade.new)
  have r2 : Vals (V.ref y :: vs) (Value.ref y :: us) := .cons rfl r
  have hl : (Value.ref y :: us ++ []).length = ps.length := by
    rw [List.append_nil, ← r2.length]; exact F.len _ _ _ _ hq
  have hbd := hb ⟨h', g1, d1, t1, os1⟩ (Value.ref y :: us) I2.kIn hl
  rw [List.append_nil] at hbd
  refine wpAny_call (codeAny_mono (F.run _ X.stack _ _ ⟨Value.ref y :: us, []⟩ (Value.ref y :: us) _ _ (by rw [make_depth]; exact hr) (I2.env0.make C us []) hbd r2 hq) fun rr s' hq' => ?_)
  cases rr with
  | error e =>
    obtain ⟨_, _, _, _, _, _, _, _, _, _, _, _, _, _, z⟩ := hq'
    exact z.elim
  | ok fl =>
    cases fl with
    | next => exact False.elim hq'
    | brk => exact False.elim hq'
    | cont => exact False.elim hq'
    | ret u =>
      obtain ⟨v, H', I3, rv, ev, d, hx2, ⟨Cz, dz, hz2⟩, ⟨fs, nv, hd2, hnum⟩, hE⟩ := I2.after hq'
      subst ev
      refine ⟨rv, wpAny_bind (wpAny_standAt (wpAny_pure ?_))⟩
      obtain ⟨a0, hy3⟩ := xn_get I3.hok hx2
      obtain ⟨oz, vz, hoz, _, _, hzd, _, hz3⟩ := xo_get I3.hok hz2
      have nzy : z ≠ y := fun w => by
        obtain ⟨o, ho⟩ := hzz
        rw [w, I1.hok.freeN hmade.new] at ho; cases ho
      have nCy : C ≠ y := fun w => by
        have z1 := KX _ _ hC
        have z2 : h1.get? y = none := hmade.new
        rw [w, z2] at z1; cases z1
      refine wpAny_bind (Constant_none (wpAny_bind (wpAny_standAt (wpAny_pure ⟨rfl, y, nm, qn, C, N, bs, sn, sub, ab, col, dd, k0, k1, k2, k3, k5, some d, a0, oz, vz, rfl, I3.kIn _ _ hC, hy3, nzy, nCy, hoz, hzd, hz3 rfl, fun h9 e1 e2 => ?_⟩))))
      have I4 : Inv X pins σ (upd H' y (xo y C d false)) { s' with heap := h9 } := I3.write (h' := h9) (t' := s'.toks) (by rw [hx2]; exact True.intro) (.inl rfl) (fun b u nb q => (e2 b nb).trans q) ⟨_, e1⟩ (xo_ok e1 rfl rfl rfl (by show 4 < 6; decide) (fun z => Bool.noConfusion z))
      have ndy : d ≠ y := fun w => by rw [w, hx2] at hd2; cases hd2
      refine hfl pins σ _ _ y C d false I4 upd_same (fun fs' e3 e4 => ?_) (new_old I1 hex hmade.new) ⟨_, _, _, e1, rfl, rfl, .inl rfl⟩ hE
      rw [upd_ne ndy, hd2] at e3
      cases e3
      rw [hnum] at e4; cases e4
end
def HdFl (X : Cx) (H : Hp) (h : Heap) (x : Addr) : Prop := ∃ oe vs T oT ts, h.get? x = some oe ∧ oe.data = .fields vs ∧ vs[1]? = some (.ref T) ∧ T ≠ x ∧ h.get? T = some oT ∧ oT.data = .fields ts ∧ ts[3]? = some (rawInt X.env.locals) ∧ H T = none ∧ X.s_0.heap.get? T = none ∧ T ≠ X.env.locals
section
variable {X : Cx} {pins : List (Addr × Obj)} {σ : St} {H : Hp} {s : Shared} {x C d : Addr} {q : Bool} {E : Value → Shared → Prop} {A : Around} {M : Model}
theorem xhold {Q : Unit → Shared → Prop} (I : Inv X pins σ H s) (hex : X.ex = []) (hfr : A.frames = some X.stack) (hst : X.stack = X.env :: X.outer) (hf : X.env.frame = some X.env.locals) (hx : H x = some (xo x C d q)) (hh : HdOk s.heap x)
    (hQ : ∀ h', Inv X pins σ H { s with heap := h' } → HdFl X H h' x → Q () { s with heap := h' }) :
    wpAny M A (noteFrame (.ref x) X.env) Q E s := by
  obtain ⟨oe, vs, hd, he, hdat, h1, hhd⟩ := hh
  obtain ⟨oe', vs', he', hc, hdi, hdat', hsz, hcx⟩ := xo_get I.hok hx
  rw [he] at he'; cases he'
  obtain rfl : vs = vs' := by rw [hdat] at hdat'; cases hdat'; rfl
  have hz : 1 < vs.size := (Array.getElem?_eq_some_iff.mp h1).1
  have stk := I.stack
  rw [hst] at stk
  refine Xc.xnote (base := X.base) (hfr.trans (congrArg some hst)) stk hf he hdat h1 hhd fun h' T' oT ts nT ne sz hx' hT hTd hT3 keep slot there => ?_
  have hd2 := Obj.data_mapFields hdat (·.setIfInBounds 1 (Value.ref T'))
  have nfr : ∀ b o, H b = some o → b ∉ frs (X.env :: X.outer) := fun b o e z => by
    have := I.stkFree b (by rw [hst]; exact z)
    rw [e] at this; cases this
  have hok' : HOk X.prog X.w H h' := fun b u e => by
    by_cases hb : b = x
    · subst hb
      rw [hx] at e; cases e
      exact xo_ok hx' ((Obj.cls_mapFields _ _).trans hc) ((Obj.dict_map hdat _).trans hdi) hd2 (by simpa using hsz) (fun y => by rw [Array.getElem?_setIfInBounds_ne (by decide)]; exact hcx y)
    · refine (I.hok b u e).stay (fun c v hcc q => keep c v ?_ ?_ q) (fun _ q => q) fun _ _ q => q
      · rcases hcc with z | z
        · rw [z]; exact hb
        · intro y; subst y; rw [hx] at z; cases z
      · rcases hcc with z | z
        · rw [z]; exact nfr b u e
        · exact nfr c _ z
  have un : Un (frs X.stack) [] H H s.heap h' := by
    rw [hst]
    refine ⟨fun b o q n hb _ => keep b o (fun z => by subst z; rw [hx] at n; cases n) hb q, fun b o q n hb _ => slot b o hb q, fun _ _ _ n _ => n, fun b o q _ => there b o q, fun _ _ q => q, fun _ _ _ q => q, fun _ ps q => ⟨#[], by rw [q]; simp⟩⟩
  have nl : T' ≠ X.env.locals := fun w => by
    obtain ⟨m, ⟨ol, _, _, e, _⟩, _⟩ := I.loc
    rw [← w, nT] at e; cases e
  exact hQ h' (I.call (g' := s.gens) (t' := s.toks) (d' := s.drawn) (ch := []) un hok' I.bare (fun b z => absurd z (by simp))) ⟨_, _, T', oT, ts, hx', hd2, by simp [hz], ne, hT, hTd, hT3, I.hok.freeN nT, new_old I hex nT, nl⟩
theorem HdFl.field {Q : Value → Shared → Prop} (hh : HdFl X H s.heap x) (hQ : ∀ T, Q (.ref T) s) : wpAny M A (field (.ref x) 1) Q E s := by
  obtain ⟨oe, vs, T, oT, ts, he, hd, h1, _⟩ := hh
  exact wpAny_field he hd h1 (hQ T)
theorem HdFl.stay {Q : Unit → Shared → Prop} (hh : HdFl X H s.heap x) (hf : X.env.frame = some X.env.locals) (hQ : Q () s) : wpAny M A (setFlight (.ref x) X.env.frame) Q E s := by
  obtain ⟨oe, vs, T, oT, ts, he, hd, h1, _, hT, hTd, hT3, _⟩ := hh
  rw [hf]
  unfold setFlight
  refine wpAny_bind (wpAny_field he hd h1 ?_)
  rw [if_pos (show (Value.ref T != Value.none) = true from by simp)]
  refine wpAny_setField hT hTd (Array.getElem?_eq_some_iff.mp hT3).1 ?_
  show Q () { s with heap := s.heap.update T (Obj.mapFields (·.setIfInBounds 3 (rawInt X.env.locals))) }
  rw [Heap.update_setField_same s.heap T oT ts 3 _ hT hTd hT3]
  exact hQ
theorem HdFl.note {Q : Unit → Shared → Prop} (hh : HdFl X H s.heap x) (hf : X.env.frame = some X.env.locals) (hQ : Q () s) : wpAny M A (noteFrame (.ref x) X.env) Q E s := by
  obtain ⟨oe, vs, T, oT, ts, he, hd, h1, _, hT, hTd, hT3, _⟩ := hh
  exact wpAny_noteFrame_inFlight hf he hd h1 hT hTd hT3 hQ
theorem HdFl.but {h' : Heap} (hh : HdFl X H s.heap x) (nx : x ≠ X.env.locals) (hs : Heap.SameBut X.env.locals s.heap h') : HdFl X H h' x := by
  obtain ⟨oe, vs, T, oT, ts, he, hd, h1, ne, hT, hTd, hT3, n1, n2, n3⟩ := hh
  exact ⟨oe, vs, T, oT, ts, (hs.2 x nx).trans he, hd, h1, ne, (hs.2 T n3).trans hT, hTd, hT3, n1, n2, n3⟩
end
def FliesF (X : Cx) (E : XK) : Prop := ∀ (pins : List (Addr × Obj)) (σ : St) (H : Hp) (s : Shared) (x C d : Addr) (q : Bool), Inv X pins σ H s → H x = some (xo x C d q) → Qt H d q → X.s_0.heap.get? x = none → HdFl X H s.heap x → E (.ref C) (some d) H → X.xe (.ref x) s
theorem fliesF {P : Program} {w : World} {K : PySem.W.Frag} {mg : Str → Option Value} {base : Heap} {N : List Str} {qual : Str} {scope : Scope} {f : Addr} {cd : Value} {A : Around} {outer : List Env} {s : Shared} {H : Hp} {E : XK} :
    FliesF (cxOf (CXx P w) P w K mg base N qual scope f cd A outer s H E) E := by
  intro pins σ H' s' x C d q I hx hq nx hh hE
  show wpAny _ _ (leaving _ _) _ _ _
  unfold leaving
  refine wpAny_bind (hh.note rfl ?_)
  obtain ⟨oe, vs, T, oT, ts, he, hd, h1, ne, hT, hTd, hT3, n1, n2, n3⟩ := hh
  refine Xc.xland he hd h1 hT hTd hT3 fun h' oT' ts' hT' hTd' h3' keep => ?_
  have nT : ∀ b o, s.heap.get? b = some o → b ≠ T := fun b o e z => by
    have n2' : s.heap.get? T = none := n2
    rw [z, n2'] at e; cases e
  have nH : ∀ b o, H' b = some o → b ≠ T := fun b o e z => by rw [z, n1] at e; cases e
  have un : Un (frs outer) [] H H' s.heap h' := by
    have B : Un (frs outer) [] H H' s.heap s'.heap := I.base
    refine ⟨fun b o q n hb hx => (keep b (nT b o q)).trans (B.keep b o q n hb hx), fun b o q n hb hx => ?_, B.free, fun b o q hx => ?_, B.tups, B.frzs, B.tbls⟩
    · obtain ⟨sl, e⟩ := B.slot b o q n hb hx
      exact ⟨sl, (keep b (nT b o q)).trans e⟩
    · obtain ⟨o', e⟩ := B.there b o q hx
      exact ⟨o', (keep b (nT b o q)).trans e⟩
  have hok : HOk P w H' h' := fun b u e => by
    have O : ObjOk P w H' s'.heap b u := I.hok b u e
    refine O.stay (fun c v hcc q => (keep c ?_).trans q) (fun _ q => q) fun _ _ q => q
    rcases hcc with z | z
    · rw [z]; exact nH b u e
    · exact nH c _ z
  exact ⟨x, C, d, q, H', rfl, nx, I.os, I.bare, un, hok, hx, hq, ⟨oe, vs, _, (keep x (Ne.symm ne)).trans he, hd, h1, .inr ⟨T, oT', ts', rfl, ne, hT', hTd', h3'⟩⟩, hE⟩

def XS (X : Cx) (z : Addr) (n : Str) (hpos : Pos) : Value → Shared → Prop := fun x s3 =>
  wpAny (model X.prog X.w) (X.A.mark (some (.ref z))) (noteFrame x X.env) (fun _ s4 =>
    wpAny (model X.prog X.w) (X.A.mark (some (.ref z))) (do bindName X.env n .none; unbindBehindTheSuite X.env n hpos)
      (fun _ s5 => wpAny (model X.prog X.w) (X.A.mark (some (.ref z))) (passOn "try.except-as" x X.env : Sem Flow) (fun _ _ => False) (notedBy (model X.prog X.w) (X.A.mark (some (.ref z))) X.env fun x s' => cameBackBy (model X.prog X.w) X.A X.env X.xe x s') s5)
      (fun y s5 => wpAny (model X.prog X.w) (X.A.mark (some (.ref z))) (setFlight x none) (fun _ s6 => (notedBy (model X.prog X.w) (X.A.mark (some (.ref z))) X.env fun x s' => cameBackBy (model X.prog X.w) X.A X.env X.xe x s') y s6) (notedBy (model X.prog X.w) (X.A.mark (some (.ref z))) X.env fun x s' => cameBackBy (model X.prog X.w) X.A X.env X.xe x s') s5) s4)
    (notedBy (model X.prog X.w) (X.A.mark (some (.ref z))) X.env fun x s' => cameBackBy (model X.prog X.w) X.A X.env X.xe x s') s3
def D0 : Ends := { nx := fun _ _ => False, rt := fun _ _ => False }
def ETryR (C : Addr) (i n : Nat) (ts : Addr → TS) : XK := fun cls d H' => cls = .ref C ∧ ∃ dx fs, d = some dx ∧ H' dx = some (.xd fs) ∧ fs.lookup ("number" : Str) = none ∧ ∀ x, H' x = some (xo x C dx true) → ts x D0 ((List.replicate n none).set i (some (.ref x))) H'
section
variable {X : Cx} {C N fI : Addr} {cn n : Str} {i : Nat} {b0 : Stmt} {suite body : List Stmt} {ts : Addr → TS} {tb : Ends → TS} {p hpos pos : Pos} {E : XK}
theorem flies_S {z : Addr} (ok : X.Ok) (hex : X.ex = []) (hst : X.stack = X.env :: X.outer) (hf : X.env.frame = some X.env.locals) (hl : X.env.scope.names.lookup n = some .local) (hFF : FliesF X E) : Flies (X.handR z (XS X z n hpos)) E := by
  intro pins σ H s y C d q I hy hq nx hh hE
  have I0 : Inv X pins σ H s := I.unhandR ok
  show wpAny _ _ (noteFrame _ _) _ _ s
  refine xhold I0 hex ok.frames hst hf hy hh fun h' I1 hf1 => ?_
  obtain ⟨m, hn, _⟩ := id I1.loc
  refine wpAny_nameGoes hl hn (by rw [ok.kind]; rfl) fun h5 m5 hn5 hs5 => ?_
  have I2 := I1.lost (t' := s.toks + 1) hn5 hs5
  have nyl : y ≠ X.env.locals := fun w => by
    have := I0.free
    rw [← w, hy] at this; cases this
  have hf2 : HdFl X H h5 y := hf1.but nyl hs5
  have fld : ∀ {M : Model} {A : Around} {E' : Value → Shared → Prop} {Q : Value → Shared → Prop}, (∀ T, Q (.ref T) { s with heap := h5, toks := s.toks + 1 }) → wpAny M A (field (.ref y) 1) Q E' { s with heap := h5, toks := s.toks + 1 } := fun hQ => HdFl.field (X := X) (H := H) hf2 hQ
  unfold PySem.passOn
  refine wpAny_bind (fld fun T => ?_)
  rw [if_neg (by simp)]
  refine wpAny_bind (HdFl.stay (X := X) (H := H) hf2 hf (wpAny_throw ?_))
  show wpAny _ _ (noteFrame _ _) _ _ _
  refine HdFl.note (X := X) (H := H) hf2 hf ?_
  show wpAny _ _ _ _ _ _
  refine wpAny_bind (fld fun T => ?_)
  rw [if_neg (by simp)]
  exact HdFl.stay (X := X) (H := H) hf2 hf (hFF pins _ H _ y C d q I2 hy hq nx hf2 hE)
theorem flies_tryR {pins : List (Addr × Obj)} {D : Ends} (c : XCls X.K C N fI) (hex : X.ex = []) (hst : X.stack = X.env :: X.outer) (hf : X.env.frame = some X.env.locals) (hg : Gl X cn) (hm : X.mg cn = some (.ref C)) (nd : X.N.Nodup) (hi : X.N[i]? = some n) (hl : X.env.scope.names.lookup n = some .local)
    (hFF : FliesF X E) (hS : ∀ z E', Flies (X.handR z E') E → PSs (X.handR z E') (b0 :: suite) (ts z)) (hdb : (cn == ("__debug__" : Str)) = false) :
    Flies (X.tr pins (XT X pins D [.ExceptHandler (some (.Name cn p)) (some n) (b0 :: suite) hpos])) (ETryR C i X.N.length ts) := by
  rintro pins' σ' H s x C' d q I hx hq nx hh ⟨eC, dx, fs, ed, hdx, hnum, hE⟩
  cases eC
  cases ed
  obtain rfl : q = true := hq fs hdx hnum
  have I0 : Inv X pins (List.replicate X.N.length none) H s := (Inv.untr I).blank
  show wpAny _ _ (noteFrame _ _) _ _ s
  refine xfly I0 I0.ok.frames hst hf hx hh fun h' I1 hh1 => ?_
  refine wpAny_handleBy_cons (codeAny_handlers_test ?_) (by intro q; cases q)
  refine ld_glob (X := X.hand x) (I1.hand x) hg hm ?_ hdb
  obtain ⟨oe, vs, e1, e2, e3, e4, _, _⟩ := xo_get I1.hok hx
  obtain ⟨nm, qn, bs, sn, sub, ab, col, dd, k0, k1, k2, k3, k5, hC⟩ := c.obj
  obtain ⟨h0, g0, d0, t0, os0⟩ := s
  refine wpAny_excMatches_sub_self (I1.kIn _ _ hC) e1 e2 PySem.F.excBase_ValueError.hasBase ?_
  show codeAny _ _ (.handlers _ [.ExceptHandler none (some n) (b0 :: suite) hpos] _) _ _
  refine codeAny_handlers_suite_as (xrest hh1 ?_)
  refine store_ok (X := X.handR x (XS X x n hpos)) (v := .ref x) (I1.handR x _) nd hi (Or.inl hl) rfl (fun s2 I2 => ?_) (.inr hl)
  refine wpAny_mono (hS x _ (flies_S I0.ok hex hst hf hl hFF) pins s2 _ H D0 I2 (hE x hx)) (fun f s3 hf3 => ?_) (fun _ _ z => z)
  cases f with
  | next => obtain ⟨_, _, _, z⟩ := hf3; exact False.elim z
  | brk => obtain ⟨_, _, _, z⟩ := hf3; exact False.elim z
  | cont => obtain ⟨_, _, _, z⟩ := hf3; exact False.elim z
  | ret u => obtain ⟨_, _, _, _, _, z⟩ := hf3; exact False.elim z
theorem ps_tryR (c : XCls X.K C N fI) (hex : X.ex = []) (hst : X.stack = X.env :: X.outer) (hf : X.env.frame = some X.env.locals) (hg : Gl X cn) (hm : X.mg cn = some (.ref C)) (nd : X.N.Nodup) (hi : X.N[i]? = some n) (hl : X.env.scope.names.lookup n = some .local)
    (hFF : FliesF X E) (hS : ∀ z E', Flies (X.handR z E') E → PSs (X.handR z E') (b0 :: suite) (ts z))
    (hB : ∀ pins D, Flies (X.tr pins (XT X pins D [.ExceptHandler (some (.Name cn p)) (some n) (b0 :: suite) hpos])) (ETryR C i X.N.length ts) → PSs (X.tr pins (XT X pins D [.ExceptHandler (some (.Name cn p)) (some n) (b0 :: suite) hpos])) body (tb D))
    (hdb : (cn == ("__debug__" : Str)) = false := by decide) : PS X (.Try body [.ExceptHandler (some (.Name cn p)) (some n) (b0 :: suite) hpos] [] [] pos) (tTry tb) := by
  intro pins s σ H D I h
  refine wpAny_Try_except (wpAny_mono (hB pins D (flies_tryR c hex hst hf hg hm nd hi hl hFF hS hdb) [] s σ H D (I.tr _) h) (fun f s1 q => ?_) fun e s1 q => q)
  have q' : SP X pins D f s1 := q.untr
  cases f with
  | next => exact wpAny_execs_nil q'
  | brk => exact q'
  | cont => exact q'
  | ret u => exact q'
end
end L2

end
section
set_option Elab.async false
set_option linter.all false
set_option maxRecDepth 100000
set_option maxHeartbeats 2000000
namespace Zp
open PySem
abbrev T3 (h : Heap) (T : Addr) (a b c : Value) : Prop := h.get? T = some { cls := .type "tuple", data := .seq #[a, b, c] }
theorem call3 (a b c : Value) : checkTypeCall "zip" ⟨[a, b, c], []⟩ = pure () := by kernel_rfl
theorem new3 (a b c : Value) : checkBuiltinCall "zip.__new__" ⟨[.type "zip", a, b, c], []⟩ = pure () := by kernel_rfl
theorem init4 (a b c d : Value) : argsOk "object.__init__" ⟨[a, b, c, d], []⟩ := by
  unfold argsOk; rw [signature?_of (id := "object.__init__") (n := ['_', '_', 't', 'i', 'n', 'i', '_', '_']) (o := ['t', 'c', 'e', 'j', 'b', 'o']) (by kernel_rfl) F.owner_object]; kernel_rfl
theorem neq {a b : Nat} (h : ¬ a = b) : (a : Addr) ≠ b := h
section
variable {prog : Program} {w : World} {A : Around} {E : Value → Shared → Prop} {s : Shared}
theorem put3 {T : Addr} {a b c x : Value} {k : Nat} {Q : Unit → Shared → Prop} (t : T3 s.heap T a b c)
    (h : ∀ h', h'.get? T = some { cls := .type "tuple", data := .seq ((#[a, b, c] : Array Value).setIfInBounds k x) } → Heap.SameBut T s.heap h' → Q () { s with heap := h' }) :
    wpAny (model prog w) A (updateSeq T (·.setIfInBounds k x)) Q E s := by
  refine wpAny_updateSeq t rfl (h _ ?_ (Heap.SameBut.update ..))
  rw [Heap.get?_update_self _ t rfl]
  simp [Obj.mapSeq]
theorem item3 {I l1 l2 l3 : Nat} {k : Nat} {xs ys zs : Array Value} {x y u a b c : Value} {Q : Value → Shared → Prop} (n1 : l1 < I) (n2 : l2 < I) (n3 : l3 < I)
    (zz : IsZip s.heap (I + 5) (I + 3) (I + 4) .none) (tI : T3 s.heap (I + 3) (.ref I) (.ref (I + 1)) (.ref (I + 2))) (tO : T3 s.heap (I + 4) a b c)
    (j1 : s.heap.IsListIter I l1 k) (j2 : s.heap.IsListIter (I + 1) l2 k) (j3 : s.heap.IsListIter (I + 2) l3 k) (m1 : s.heap.IsList l1 xs) (m2 : s.heap.IsList l2 ys) (m3 : s.heap.IsList l3 zs)
    (ex : xs[k]? = some x) (ey : ys[k]? = some y) (eu : zs[k]? = some u)
    (hQ : ∀ h', IsZip h' (I + 5) (I + 3) (I + 4) (rawInt s.heap.objs.size) → T3 h' (I + 4) x y u → h'.IsListIter I l1 (k + 1) → h'.IsListIter (I + 1) l2 (k + 1) → h'.IsListIter (I + 2) l3 (k + 1) → T3 h' s.heap.objs.size x y u →
      (∀ d o, d ≠ I + 5 → d ≠ I + 4 → d ≠ I → d ≠ I + 1 → d ≠ I + 2 → s.heap.get? d = some o → h'.get? d = some o) → Q (.ref s.heap.objs.size) { s with heap := h' }) :
    wpAny (model prog w) A (Builtin.«zip.__next__» ⟨[.ref (I + 5)], []⟩) (fun fin s' => ∃ v, fin = .done (.ret v) ∧ Q v s') E s := by
  have ne : ∀ {p q : Nat}, p ≠ q → ¬ (p : Addr) = q := fun h => h
  show wpAny _ _ (field (.ref (I + 5)) 2 >>= _) _ _ _
  refine wpAny_bind (wpAny_field zz rfl (x := .bool false) rfl ?_)
  show wpAny _ _ (field (.ref (I + 5)) 3 >>= _) _ _ _
  refine wpAny_bind (wpAny_field zz rfl (x := .ref (I + 3)) rfl ?_)
  refine wpAny_bind (wpAny_seqItems tI rfl ?_)
  show wpAny _ _ (Builtin.SmallTypes.ownedTupleIsFree (.ref (I + 5)) >>= _) _ _ _
  refine wpAny_bind ?_
  unfold Builtin.SmallTypes.ownedTupleIsFree; refine wpAny_bind (wpAny_field zz rfl (x := .none) rfl (wpAny_pure ?_))
  simp only [if_true]
  refine wpAny_bind (wpAny_rule ?_)
  refine wpAny_bind (wpAny_field zz rfl (x := .ref (I + 4)) rfl ?_)
  refine wpAny_bind (wpAny_setField_rec zz (by simp) fun g1 z1 s1 => ?_)
  replace z1 : IsZip g1 (I + 5) (I + 3) (I + 4) .ellipsis := z1
  refine wpAny_bind ?_
  simp only [List.forIn_cons, List.forIn_nil, List.zipIdx_cons, List.zipIdx_nil]
  -- the first
  refine wpAny_bind (wpAny_bind (wpAny_onRaise ?_)); show wpAny _ _ (Builtin.SmallTypes.nextOf (.ref I) >>= _) _ _ _
  refine wpAny_bind (wpAny_nextOf_list_item (j1.extBut s1.extBut (neq (by omega))) (m1.extBut s1.extBut (neq (by omega))) ex fun g2 q1 s2 => wpAny_pure ?_)
  have o2 : T3 g2 (I + 4) a b c := s2.extBut _ _ (neq (by omega)) (s1.extBut _ _ (neq (by omega)) tO)
  refine wpAny_bind (wpAny_seqItems o2 rfl ?_)
  refine wpAny_bind (put3 o2 fun g3 o3 s3 => ?_)
  replace o3 : T3 g3 (I + 4) x b c := o3
  refine wpAny_bind (wpAny_letGo (wpAny_pure ?_))
  -- the second
  refine wpAny_bind (wpAny_bind (wpAny_onRaise ?_)); show wpAny _ _ (Builtin.SmallTypes.nextOf (.ref (I + 1)) >>= _) _ _ _
  refine wpAny_bind (wpAny_nextOf_list_item (((j2.extBut s1.extBut (neq (by omega))).extBut s2.extBut (neq (by omega))).extBut s3.extBut (neq (by omega))) (((m2.extBut s1.extBut (neq (by omega))).extBut s2.extBut (neq (by omega))).extBut s3.extBut (neq (by omega))) ey fun g4 q2 s4 => wpAny_pure ?_)
  have o4 : T3 g4 (I + 4) x b c := s4.extBut _ _ (neq (by omega)) o3
  refine wpAny_bind (wpAny_seqItems o4 rfl ?_)
  refine wpAny_bind (put3 o4 fun g5 o5 s5 => ?_)
  replace o5 : T3 g5 (I + 4) x y c := o5
  refine wpAny_bind (wpAny_letGo (wpAny_pure ?_))
  -- the third
  refine wpAny_bind (wpAny_bind (wpAny_onRaise ?_)); show wpAny _ _ (Builtin.SmallTypes.nextOf (.ref (I + 2)) >>= _) _ _ _
  refine wpAny_bind (wpAny_nextOf_list_item (((((j3.extBut s1.extBut (neq (by omega))).extBut s2.extBut (neq (by omega))).extBut s3.extBut (neq (by omega))).extBut s4.extBut (neq (by omega))).extBut s5.extBut (neq (by omega)))
    (((((m3.extBut s1.extBut (neq (by omega))).extBut s2.extBut (neq (by omega))).extBut s3.extBut (neq (by omega))).extBut s4.extBut (neq (by omega))).extBut s5.extBut (neq (by omega))) eu fun g6 q3 s6 => wpAny_pure ?_)
  have o6 : T3 g6 (I + 4) x y c := s6.extBut _ _ (neq (by omega)) o5
  refine wpAny_bind (wpAny_seqItems o6 rfl ?_)
  refine wpAny_bind (put3 o6 fun g7 o7 s7 => ?_)
  replace o7 : T3 g7 (I + 4) x y u := o7
  refine wpAny_bind (wpAny_letGo (wpAny_pure (wpAny_pure ?_)))
  refine wpAny_bind (wpAny_seqItems o7 rfl ?_)
  refine wpAny_bind (wpAny_newTuple ?_)
  have sz : g7.objs.size = s.heap.objs.size := by rw [s7.1, s6.1, s5.1, s4.1, s3.1, s2.1, s1.1]
  have z7 : IsZip g7 (I + 5) (I + 3) (I + 4) .ellipsis := s7.extBut _ _ (neq (by omega)) (s6.extBut _ _ (neq (by omega)) (s5.extBut _ _ (neq (by omega)) (s4.extBut _ _ (neq (by omega)) (s3.extBut _ _ (neq (by omega)) (s2.extBut _ _ (neq (by omega)) z1)))))
  have k7 : ∀ d o, d ≠ I + 5 → d ≠ I + 4 → d ≠ I → d ≠ I + 1 → d ≠ I + 2 → s.heap.get? d = some o → g7.get? d = some o := fun d o c1 c2 c3 c4 c5 e =>
    s7.extBut _ _ c2 (s6.extBut _ _ c5 (s5.extBut _ _ c2 (s4.extBut _ _ c4 (s3.extBut _ _ c2 (s2.extBut _ _ c3 (s1.extBut _ _ c1 e))))))
  have r1 : g7.IsListIter I l1 (k + 1) := ((((q1.extBut s3.extBut (neq (by omega))).extBut s4.extBut (neq (by omega))).extBut s5.extBut (neq (by omega))).extBut s6.extBut (neq (by omega))).extBut s7.extBut (neq (by omega))
  have r2 : g7.IsListIter (I + 1) l2 (k + 1) := ((q2.extBut s5.extBut (neq (by omega))).extBut s6.extBut (neq (by omega))).extBut s7.extBut (neq (by omega))
  have r3 : g7.IsListIter (I + 2) l3 (k + 1) := q3.extBut s7.extBut (neq (by omega))
  have lz : I + 5 < g7.objs.size := Heap.lt_size z7
  show wpAny _ _ (Builtin.SmallTypes.ownedTupleHandOut (.ref (I + 5)) (.ref g7.objs.size) >>= _) _ _ _
  refine wpAny_bind ?_
  unfold Builtin.SmallTypes.ownedTupleHandOut; have z8 : IsZip (g7.push { cls := .type "tuple", data := .seq #[x, y, u] }) (I + 5) (I + 3) (I + 4) .ellipsis := Heap.get?_push_of_some _ z7
  refine wpAny_bind (wpAny_setField_rec z8 (by simp) fun g9 z9 s9 => ?_)
  replace z9 : IsZip g9 (I + 5) (I + 3) (I + 4) (rawInt g7.objs.size) := z9
  refine wpAny_setField_rec z9 (by simp) fun g10 z10 s10 => ?_
  replace z10 : IsZip g10 (I + 5) (I + 3) (I + 4) (rawInt g7.objs.size) := z10
  have up : ∀ d o, d ≠ I + 5 → g7.get? d = some o → g10.get? d = some o := fun d o c1 e => s10.extBut _ _ c1 (s9.extBut _ _ c1 (Heap.get?_push_of_some _ e))
  have tn : T3 g10 g7.objs.size x y u := s10.extBut _ _ (Nat.ne_of_gt lz) (s9.extBut _ _ (Nat.ne_of_gt lz) (Heap.get?_push_size _ rfl))
  rw [sz] at z10 tn
  refine wpAny_pure ⟨_, rfl, ?_⟩
  show Q (.ref g7.objs.size) _
  rw [sz]
  exact hQ g10 z10 (up _ _ (neq (by omega)) o7) (r1.at fun o e => up _ o (neq (by omega)) e) (r2.at fun o e => up _ o (neq (by omega)) e) (r3.at fun o e => up _ o (neq (by omega)) e) tn fun d o c1 c2 c3 c4 c5 e => up d o c1 (k7 d o c1 c2 c3 c4 c5 e)
theorem end3 {I l1 : Nat} {k : Nat} {xs : Array Value} {v1 v2 v3 : Value} {Q : Fin → Shared → Prop} (hh : A.handled = none) (n1 : l1 < I)
    (zz : IsZip s.heap (I + 5) (I + 3) (I + 4) .none) (tI : T3 s.heap (I + 3) (.ref I) v2 v3) (j1 : s.heap.IsListIter I l1 k) (m1 : s.heap.IsList l1 xs) (ex : xs[k]? = none)
    (hE : ∀ h' e, (∀ d o, d ≠ I + 5 → d ≠ I → s.heap.get? d = some o → h'.get? d = some o) → (∃ o, h'.get? e = some o ∧ o.cls = .type "StopIteration") → E (.ref e) { s with heap := h' }) :
    wpAny (model prog w) A (Builtin.«zip.__next__» ⟨[.ref (I + 5)], []⟩) Q E s := by
  show wpAny _ _ (field (.ref (I + 5)) 2 >>= _) _ _ _
  refine wpAny_bind (wpAny_field zz rfl (x := .bool false) rfl ?_)
  show wpAny _ _ (field (.ref (I + 5)) 3 >>= _) _ _ _
  refine wpAny_bind (wpAny_field zz rfl (x := .ref (I + 3)) rfl ?_)
  refine wpAny_bind (wpAny_seqItems tI rfl ?_)
  show wpAny _ _ (Builtin.SmallTypes.ownedTupleIsFree (.ref (I + 5)) >>= _) _ _ _
  refine wpAny_bind ?_
  unfold Builtin.SmallTypes.ownedTupleIsFree; refine wpAny_bind (wpAny_field zz rfl (x := .none) rfl (wpAny_pure ?_))
  simp only [if_true]
  refine wpAny_bind (wpAny_rule ?_)
  refine wpAny_bind (wpAny_field zz rfl (x := .ref (I + 4)) rfl ?_)
  refine wpAny_bind (wpAny_setField_rec zz (by simp) fun g1 z1 s1 => ?_)
  replace z1 : IsZip g1 (I + 5) (I + 3) (I + 4) .ellipsis := z1
  refine wpAny_bind ?_
  simp only [List.forIn_cons, List.forIn_nil, List.zipIdx_cons, List.zipIdx_nil]
  refine wpAny_bind (wpAny_bind (wpAny_onRaise ?_)); show wpAny _ _ (Builtin.SmallTypes.nextOf (.ref I) >>= _) _ _ _
  refine wpAny_bind (wpAny_nextOf_list_end hh (j1.extBut s1.extBut (neq (by omega))) (m1.extBut s1.extBut (neq (by omega))) ex fun g2 e s2 he => ?_)
  obtain ⟨oe, hoe, hce⟩ := he
  have z2 : IsZip g2 (I + 5) (I + 3) (I + 4) .ellipsis := s2 _ _ (neq (by omega)) z1
  have ez : e ≠ I + 5 := fun q => by subst q; rw [z2] at hoe; cases hoe; simp at hce
  refine wpAny_setField_rec z2 (by simp) fun g3 _ s3 => hE g3 e (fun d o c1 c3 q => s3.extBut _ _ c1 (s2 _ _ c3 (s1.extBut _ _ c1 q))) ⟨oe, s3.extBut _ _ ez hoe, hce⟩
theorem next3 {I l1 l2 l3 : Nat} {k : Nat} {xs ys zs : Array Value} {x y u a b c : Value} {Q : Option Value → Shared → Prop} (n1 : l1 < I) (n2 : l2 < I) (n3 : l3 < I)
    (zz : IsZip s.heap (I + 5) (I + 3) (I + 4) .none) (tI : T3 s.heap (I + 3) (.ref I) (.ref (I + 1)) (.ref (I + 2))) (tO : T3 s.heap (I + 4) a b c)
    (j1 : s.heap.IsListIter I l1 k) (j2 : s.heap.IsListIter (I + 1) l2 k) (j3 : s.heap.IsListIter (I + 2) l3 k) (m1 : s.heap.IsList l1 xs) (m2 : s.heap.IsList l2 ys) (m3 : s.heap.IsList l3 zs)
    (ex : xs[k]? = some x) (ey : ys[k]? = some y) (eu : zs[k]? = some u)
    (hQ : ∀ h', IsZip h' (I + 5) (I + 3) (I + 4) (rawInt s.heap.objs.size) → T3 h' (I + 4) x y u → h'.IsListIter I l1 (k + 1) → h'.IsListIter (I + 1) l2 (k + 1) → h'.IsListIter (I + 2) l3 (k + 1) → T3 h' s.heap.objs.size x y u →
      (∀ d o, d ≠ I + 5 → d ≠ I + 4 → d ≠ I → d ≠ I + 1 → d ≠ I + 2 → s.heap.get? d = some o → h'.get? d = some o) → Q (some (.ref s.heap.objs.size)) { s with heap := h' }) :
    wpAny (model prog w) A (pyNext (.ref (I + 5))) Q E s := by
  have ty : s.TypeIs (.ref (I + 5)) "zip" := ⟨_, zz, rfl⟩
  unfold pyNext
  exact wpAny_bind (wpAny_attempt (wpAny_callSpecial?_slot (name := Str.ofString "__next__") ty F.slot_zip_next (wpAny_call_entry F.slot_zip_next ty F.entry_zip_next
    (item3 n1 n2 n3 zz tI tO j1 j2 j3 m1 m2 m3 ex ey eu fun h' a1 a2 a3 a4 a5 a6 a7 => wpAny_pure (hQ h' a1 a2 a3 a4 a5 a6 a7)) (F.args_zip_next_1 _))))
theorem stop3 {I l1 : Nat} {k : Nat} {xs : Array Value} {v2 v3 : Value} {Q : Option Value → Shared → Prop} (hh : A.handled = none) (n1 : l1 < I)
    (zz : IsZip s.heap (I + 5) (I + 3) (I + 4) .none) (tI : T3 s.heap (I + 3) (.ref I) v2 v3) (j1 : s.heap.IsListIter I l1 k) (m1 : s.heap.IsList l1 xs) (ex : xs[k]? = none)
    (hQ : ∀ h', (∀ d o, d ≠ I + 5 → d ≠ I → s.heap.get? d = some o → h'.get? d = some o) → Q none { s with heap := h' }) : wpAny (model prog w) A (pyNext (.ref (I + 5))) Q E s := by
  have ty : s.TypeIs (.ref (I + 5)) "zip" := ⟨_, zz, rfl⟩
  unfold pyNext
  refine wpAny_bind (wpAny_attempt (wpAny_callSpecial?_slot (name := Str.ofString "__next__") ty F.slot_zip_next (wpAny_call_entry F.slot_zip_next ty F.entry_zip_next
    (end3 (v1 := .none) hh n1 zz tI j1 m1 ex fun h' e hk he => ?_) (F.args_zip_next_1 _))))
  obtain ⟨o, ho, hc⟩ := he
  exact wpAny_bind (wpAny_isInstance (T := "StopIteration") (b := true) ⟨o, ho, hc⟩ isSubtype_stop (wpAny_pure (hQ _ hk)))
end
abbrev zA (h : Heap) (l1 : Addr) : Heap := h.push { cls := .type "list_iterator", data := .fields #[.ref l1, .int 0 0] }
abbrev zB (h : Heap) (l1 l2 : Addr) : Heap := (zA h l1).push { cls := .type "list_iterator", data := .fields #[.ref l2, .int 0 0] }
abbrev zC (h : Heap) (l1 l2 l3 : Addr) : Heap := (zB h l1 l2).push { cls := .type "list_iterator", data := .fields #[.ref l3, .int 0 0] }
abbrev zD (h : Heap) (l1 l2 l3 : Addr) : Heap := (zC h l1 l2 l3).push { cls := .type "tuple", data := .seq #[.ref h.objs.size, .ref (zA h l1).objs.size, .ref (zB h l1 l2).objs.size] }
abbrev zE (h : Heap) (l1 l2 l3 : Addr) : Heap := (zD h l1 l2 l3).push { cls := .type "tuple", data := .seq #[.none, .none, .none] }
abbrev zF (h : Heap) (l1 l2 l3 : Addr) : Heap := (zE h l1 l2 l3).push { cls := .type "zip", data := .fields #[.none, .bool false, .bool false, .ref (zC h l1 l2 l3).objs.size, .ref (zD h l1 l2 l3).objs.size] }
theorem made3 (l1 l2 l3 : Addr) (xs ys zs : Array Value) :
    Meets (Builtin.«zip.__new__» ⟨[.type "zip", .ref l1, .ref l2, .ref l3], []⟩) (fun _ R s => s.heap.IsList l1 xs ∧ s.heap.IsList l2 ys ∧ s.heap.IsList l3 zs ∧
      R (.ok (.ret (.ref (zE s.heap l1 l2 l3).objs.size))) { s with heap := zF s.heap l1 l2 l3 }) :=
  .of_wp fun prog w A R s h => by
    obtain ⟨hp, g, d, tk, os⟩ := s
    obtain ⟨m1, m2, m3, h⟩ := h
    have sub := sub_zip
    have L1 : Heap.IsList (Shared.heap ⟨hp, g, d, tk, os⟩) l1 xs := m1
    have L2 : Heap.IsList (Shared.heap ⟨zA hp l1, g, d, tk, os⟩) l2 ys := Heap.IsList.push m2 _
    have L3 : Heap.IsList (Shared.heap ⟨zB hp l1 l2, g, d, tk, os⟩) l3 zs := Heap.IsList.push (Heap.IsList.push m3 _) _
    wp_walk using wpAny_pyIter_list L1, wpAny_pyIter_list L2, wpAny_pyIter_list L3
    exact ⟨_, rfl, h⟩
theorem zip3 {prog : Program} {w : World} {A : Around} {E : Value → Shared → Prop} {s : Shared} {l1 l2 l3 : Addr} {xs ys zs : Array Value} {Q : Value → Shared → Prop} (m1 : s.heap.IsList l1 xs) (m2 : s.heap.IsList l2 ys) (m3 : s.heap.IsList l3 zs)
    (h : ∀ h', IsZip h' (s.heap.objs.size + 5) (s.heap.objs.size + 3) (s.heap.objs.size + 4) .none → T3 h' (s.heap.objs.size + 3) (.ref s.heap.objs.size) (.ref (s.heap.objs.size + 1)) (.ref (s.heap.objs.size + 2)) →
      T3 h' (s.heap.objs.size + 4) .none .none .none → h'.IsListIter s.heap.objs.size l1 0 → h'.IsListIter (s.heap.objs.size + 1) l2 0 → h'.IsListIter (s.heap.objs.size + 2) l3 0 →
      (∀ c o, s.heap.get? c = some o → h'.get? c = some o) → Q (.ref (s.heap.objs.size + 5)) { s with heap := h' }) :
    wpAny (model prog w) A (call (.type "zip") [.ref l1, .ref l2, .ref l3]) Q E s := by
  refine callType_new F.called_zip (by decide) (call3 _ _ _) (new3 _ _ _) (fun obj => init4 obj _ _ _) F.entry_zip_new (made3 l1 l2 l3 xs ys zs) ⟨m1, m2, m3, ?_⟩
  have y1 : (zA s.heap l1).objs.size = s.heap.objs.size + 1 := Heap.size_push ..
  have y2 : (zB s.heap l1 l2).objs.size = s.heap.objs.size + 2 := by rw [Heap.size_push, y1]
  have y3 : (zC s.heap l1 l2 l3).objs.size = s.heap.objs.size + 3 := by rw [Heap.size_push, y2]
  have y4 : (zD s.heap l1 l2 l3).objs.size = s.heap.objs.size + 4 := by rw [Heap.size_push, y3]
  have y5 : (zE s.heap l1 l2 l3).objs.size = s.heap.objs.size + 5 := by rw [Heap.size_push, y4]
  have g6 : (zF s.heap l1 l2 l3).get? (zE s.heap l1 l2 l3).objs.size = some _ := Heap.get?_push_size _ rfl
  have g5 : (zF s.heap l1 l2 l3).get? (zD s.heap l1 l2 l3).objs.size = some _ := Heap.get?_push_of_some _ (Heap.get?_push_size _ rfl)
  have g4 : (zF s.heap l1 l2 l3).get? (zC s.heap l1 l2 l3).objs.size = some _ := Heap.get?_push_of_some _ (Heap.get?_push_of_some _ (Heap.get?_push_size _ rfl))
  have g3 : (zF s.heap l1 l2 l3).get? (zB s.heap l1 l2).objs.size = some _ := Heap.get?_push_of_some _ (Heap.get?_push_of_some _ (Heap.get?_push_of_some _ (Heap.get?_push_size _ rfl)))
  have g2 : (zF s.heap l1 l2 l3).get? (zA s.heap l1).objs.size = some _ := Heap.get?_push_of_some _ (Heap.get?_push_of_some _ (Heap.get?_push_of_some _ (Heap.get?_push_of_some _ (Heap.get?_push_size _ rfl))))
  have g1 : (zF s.heap l1 l2 l3).get? s.heap.objs.size = some _ := Heap.get?_push_of_some _ (Heap.get?_push_of_some _ (Heap.get?_push_of_some _ (Heap.get?_push_of_some _ (Heap.get?_push_of_some _ (Heap.get?_push_size _ rfl)))))
  show _ ∧ _
  rw [y3, y4, y5] at g6
  rw [y1, y2, y3] at g4
  rw [y4] at g5
  rw [y2] at g3
  rw [y1] at g2
  rw [y5]
  exact ⟨⟨_, g6, rfl⟩, h _ g6 g4 g5 ⟨_, g1, rfl, rfl⟩ ⟨_, g2, rfl, rfl⟩ ⟨_, g3, rfl, rfl⟩ fun c o x =>
    Heap.get?_push_of_some _ (Heap.get?_push_of_some _ (Heap.get?_push_of_some _ (Heap.get?_push_of_some _ (Heap.get?_push_of_some _ (Heap.get?_push_of_some _ x)))))⟩
end Zp

end
section
set_option Elab.async false
set_option linter.all false
set_option maxRecDepth 100000
set_option maxHeartbeats 2000000
namespace L2
open PySem PySem.Spec PyProof.Rows
def Itz3 (K : PySem.W.Frag) (a b c : Addr) : It :=
  ⟨fun i H => ∃ (xs ys zs : List V) (x y z : V), SqL K H a xs ∧ SqL K H b ys ∧ SqL K H c zs ∧ xs[i]? = some x ∧ ys[i]? = some y ∧ zs[i]? = some z,
    fun i H v H' => ∃ T x y z, v = .ref T ∧ H T = none ∧ H' = upd H T (.tup [x, y, z]) ∧ (∀ xs, SqL K H a xs → xs[i]? = some x) ∧ (∀ ys, SqL K H b ys → ys[i]? = some y) ∧ ∀ zs, SqL K H c zs → zs[i]? = some z,
    fun i H => ∃ xs : List V, SqL K H a xs ∧ xs.length ≤ i⟩
theorem turn_zip3 {P : Program} {w : World} {K : PySem.W.Frag} {elts : List Expr} {kk : Nat} {tpos : Pos} {a b c I0 : Nat} (la : a < I0) (lb : b < I0) (lc : c < I0) :
    Turn P w K (.Tuple elts kk tpos) (Itz3 K a b c) [I0 + 5, I0 + 3, I0 + 4, I0, I0 + 1, I0 + 2] (I0 + 5) (fun i h => IsZip h (I0 + 5) (I0 + 3) (I0 + 4) .none ∧ Zp.T3 h (I0 + 3) (.ref I0) (.ref (I0 + 1)) (.ref (I0 + 2)) ∧ (∃ x y z, Zp.T3 h (I0 + 4) x y z) ∧
      h.IsListIter I0 a i ∧ h.IsListIter (I0 + 1) b i ∧ h.IsListIter (I0 + 2) c i) where
  mem := by simp
  obj := fun i h st d hd => by
    obtain ⟨zz, tI, ⟨x, y, z, tO⟩, ⟨o1, e1, _, d1⟩, ⟨o2, e2, _, d2⟩, ⟨o3, e3, _, d3⟩⟩ := st
    have e' : d = I0 + 5 ∨ d = I0 + 3 ∨ d = I0 + 4 ∨ d = I0 ∨ d = I0 + 1 ∨ d = I0 + 2 := by simpa using hd
    rcases e' with q | q | q | q | q | q
    · rw [q]; exact ⟨_, zz, fun v q => nomatch q⟩
    · rw [q]; exact ⟨_, tI, fun v q => nomatch q⟩
    · rw [q]; exact ⟨_, tO, fun v q => nomatch q⟩
    · rw [q]; exact ⟨o1, e1, fun v q => by rw [d1] at q; cases q⟩
    · rw [q]; exact ⟨o2, e2, fun v q => by rw [d2] at q; cases q⟩
    · rw [q]; exact ⟨o3, e3, fun v q => by rw [d3] at q; cases q⟩
  keep := fun i h h' st k => by
    obtain ⟨zz, tI, ⟨x, y, z, tO⟩, h1, h2, h3⟩ := st
    exact ⟨k _ (by simp) _ zz, k _ (by simp) _ tI, ⟨x, y, z, k _ (by simp) _ tO⟩, h1.at fun o q => k _ (by simp) o q, h2.at fun o q => k _ (by simp) o q, h3.at fun o q => k _ (by simp) o q⟩
  item := by
    intro X hP hw hK hc i pins s σ H E I hf st hg
    subst hP hw hK
    obtain ⟨zz, tI, ⟨x0, y0, z0, tO⟩, h1, h2, h3⟩ := st
    obtain ⟨xs, ys, zs, x, y, z, qx, qy, qz, hx, hy, hz⟩ := hg
    obtain ⟨its, rv, p, _⟩ := I.list qx
    obtain ⟨its2, rv2, p2, _⟩ := I.list qy
    obtain ⟨its3, rv3, p3, _⟩ := I.list qz
    obtain ⟨u, hu, ru⟩ := rv.get hx
    obtain ⟨u2, hu2, ru2⟩ := rv2.get hy
    obtain ⟨u3, hu3, ru3⟩ := rv3.get hz
    have hzl : I0 + 5 < s.heap.objs.size := Heap.lt_size zz
    refine Zp.next3 la lb lc zz tI tO h1 h2 h3 p.isList p2.isList p3.isList (x := u) (y := u2) (u := u3) (by simpa using hu) (by simpa using hu2) (by simpa using hu3) fun h' z' tO' h1' h2' h3' hT hk => ?_
    refine ⟨_, rfl, wpAny_letOwnedTupleGo_zip (s := { s with heap := h' }) z' fun h'' z'' sb => ?_⟩
    have hT2 : h''.get? s.heap.objs.size = some { cls := .type "tuple", data := .seq #[u, u2, u3] } := (sb.2 _ (Nat.ne_of_gt hzl)).trans hT
    have new : ObjOk X.prog X.w (upd H s.heap.objs.size (.tup [x, y, z])) h'' s.heap.objs.size (.tup [x, y, z]) :=
      ⟨by show 3 ≤ sizeLine; decide, [u, u2, u3], .cons ru (.cons ru2 (.cons ru3 .nil)), ⟨_, hT2, rfl, _, rfl⟩⟩
    have I1 : Inv X pins σ (upd H s.heap.objs.size (.tup [x, y, z])) { s with heap := h'' } :=
      I.turnedNew (t' := s.toks) (ch := [I0 + 5, I0 + 3, I0 + 4, I0, I0 + 1, I0 + 2]) (fun d o hb q => (sb.2 d (fun q' => hb (by simp [q']))).trans (hk d o (fun q' => hb (by simp [q'])) (fun q' => hb (by simp [q'])) (fun q' => hb (by simp [q'])) (fun q' => hb (by simp [q'])) (fun q' => hb (by simp [q'])) q)) hf (Nat.le_refl _) new
    refine ⟨.ref s.heap.objs.size, _, I1, rfl, ⟨_, x, y, z, rfl, I.hok.fresh (Nat.le_refl _), rfl, fun l hl => by rw [I.list_inj hl qx]; exact hx, fun l hl => by rw [I.list_inj hl qy]; exact hy, fun l hl => by rw [I.list_inj hl qz]; exact hz⟩, ⟨z'', ?_, ⟨u, u2, u3, ?_⟩, ?_, ?_, ?_⟩, fun d hcm => ?_⟩
    · exact (sb.2 _ (Zp.neq (by omega))).trans (hk _ _ (Zp.neq (by omega)) (Zp.neq (by omega)) (Zp.neq (by omega)) (Zp.neq (by omega)) (Zp.neq (by omega)) tI)
    · exact (sb.2 _ (Zp.neq (by omega))).trans tO'
    · exact h1'.at fun o q => (sb.2 _ (Zp.neq (by omega))).trans q
    · exact h2'.at fun o q => (sb.2 _ (Zp.neq (by omega))).trans q
    · exact h3'.at fun o q => (sb.2 _ (Zp.neq (by omega))).trans q
    · have hlt : d < s.heap.objs.size := by
        have e' : d = I0 + 5 ∨ d = I0 + 3 ∨ d = I0 + 4 ∨ d = I0 ∨ d = I0 + 1 ∨ d = I0 + 2 := by simpa using hcm
        rcases e' with q | q | q | q | q | q
        · rw [q]; exact hzl
        · rw [q]; exact Heap.lt_size tI
        · rw [q]; exact Heap.lt_size tO
        · rw [q]; obtain ⟨_, e1, _⟩ := h1; exact Heap.lt_size e1
        · rw [q]; obtain ⟨_, e2, _⟩ := h2; exact Heap.lt_size e2
        · rw [q]; obtain ⟨_, e3, _⟩ := h3; exact Heap.lt_size e3
      rw [upd_ne (Nat.ne_of_lt hlt)]
      exact (hf d hcm).1
  done := by
    intro X hP hw hK hc i pins s σ H E I hf st hg
    subst hP hw hK
    obtain ⟨zz, tI, ⟨x0, y0, z0, tO⟩, h1, h2, h3⟩ := st
    obtain ⟨xs, qx, hend⟩ := hg
    obtain ⟨its, rv, p, _⟩ := I.list qx
    have l1 := rv.length
    exact Zp.stop3 (I.ok.hd hc) la zz tI h1 p.isList (by simp; omega) fun h' hk => ⟨rfl, I.turnedL (t' := s.toks) (ch := [I0 + 5, I0 + 3, I0 + 4, I0, I0 + 1, I0 + 2]) (fun d o hb q => hk d o (fun q' => hb (by simp [q'])) (fun q' => hb (by simp [q'])) q) hf⟩
  self := fun A i s Q E st h => wpAny_pyIter_zip st.1 h
def iZip3 (K : PySem.W.Frag) (ta : TA) : TI := fun σ H R => ta σ H fun vs H1 => ∃ a b c xs ys zs, vs = [.ref a, .ref b, .ref c] ∧ SqL K H1 a xs ∧ SqL K H1 b ys ∧ SqL K H1 c zs ∧ R (Itz3 K a b c) H1
theorem pi_zip3 {X : Cx} {e e2 e3 : Expr} {ta : TA} {p pos tpos : Pos} {elts : List Expr} {kk : Nat} (hg : Gl X "zip") (hm : X.mg "zip" = none) (ha : PA X [e, e2, e3] ta)
    (hs : starEach [e, e2, e3] X.env = (false, eval e X.env) :: starEach [e2, e3] X.env := by rfl) (hpl : (backTo pos (starEach [e2, e3] X.env)).any (·.1) = false := by rfl) :
    PI X (.Tuple elts kk tpos) (.Call (.Name "zip" p) [e, e2, e3] [] pos) (iZip3 X.K ta) := by
  intro pins s σ H R I h
  refine Call_ (ld_blt I hg hm boot_zip5 (PyProof.Rows.callWith_type1 (thn (ha pos pins s σ H _ I h) fun us s1 ⟨vs, H1, I1, r1, q1⟩ => ?_) hs hpl))
  obtain ⟨a, b, c, xs, ys, zs, ex, qx, qy, qz, q⟩ := q1
  subst ex
  cases r1 with
  | cons r rr =>
    cases rr with
    | cons r' rr =>
      cases rr with
      | cons r'' rr =>
        cases rr
        cases r
        cases r'
        cases r''
        obtain ⟨its, rv, p1, _⟩ := I1.list qx
        obtain ⟨its2, rv2, p2, _⟩ := I1.list qy
        obtain ⟨its3, rv3, p3, _⟩ := I1.list qz
        refine Zp.zip3 p1.isList p2.isList p3.isList fun h' zz tI tO h1 h2 h3 hk => wpAny_pyIter_zip zz ?_
        have I2 : Inv X pins σ H1 { s1 with heap := h' } := I1.kept (t' := s1.toks) hk
        refine ⟨s1.heap.objs.size + 5, [s1.heap.objs.size + 5, s1.heap.objs.size + 3, s1.heap.objs.size + 4, s1.heap.objs.size, s1.heap.objs.size + 1, s1.heap.objs.size + 2], _, _, H1, rfl, I2, turn_zip3 (I0 := s1.heap.objs.size) p1.lt p2.lt p3.lt, ⟨zz, tI, ⟨_, _, _, tO⟩, h1, h2, h3⟩, fun d hd => ?_, q⟩
        have e' : d = s1.heap.objs.size + 5 ∨ d = s1.heap.objs.size + 3 ∨ d = s1.heap.objs.size + 4 ∨ d = s1.heap.objs.size ∨ d = s1.heap.objs.size + 1 ∨ d = s1.heap.objs.size + 2 := by simpa using hd
        have hle : s1.heap.objs.size ≤ d := by
          rcases e' with z | z | z | z | z | z <;> rw [z] <;> first | exact Nat.le_refl _ | exact Nat.le_add_right _ _
        exact I1.fpOk hle (I1.hok.fresh hle)
theorem lc_zip3 {K : PySem.W.Frag} {a b c : Addr} {xs ys zs : List V} {g : TG} {tt : TT} {te : TE} {vs : List Nat} {σ : St} {H1 : Hp} {D : Addr} {Qd : Hp → Prop} (n : Nat) (lx : xs.length = n) (ly : ys.length = n) (lz : zs.length = n) (Pv : Nat → Hp → Prop) (h0 : Pv 0 (upd H1 D (.lst [])))
    (hl : ∀ i H, i ≤ n → Pv i H → SqL K H a xs ∧ SqL K H b ys ∧ SqL K H c zs)
    (hs : ∀ i x y z T H, xs[i]? = some x → ys[i]? = some y → zs[i]? = some z → H T = none → Pv i H → g (.ref T) (wipe σ vs) (upd H T (.tup [x, y, z])) fun σ2 H2 => wipe σ2 vs = wipe σ vs ∧ tt σ2 H2 fun b H3 =>
      if b = true then te σ2 H3 fun y H4 => ∃ acc, H4 D = some (.lst acc) ∧ acc.length < sizeLine ∧ Pv (i + 1) (upd H4 D (.lst (acc ++ [y]))) else Pv (i + 1) H3) (hd : ∀ H, Pv n H → Qd H) :
    ∃ W : Nat → Nat → Hp → Prop, (∃ m, W 0 m (upd H1 D (.lst []))) ∧ ∀ i m H, W i m H →
      ((Itz3 K a b c).stop i H ∧ Qd H) ∨ ((Itz3 K a b c).go i H ∧ ∃ Nx : Hp → Prop, (∀ H', Nx H' → ∃ m', m' < m ∧ W (i + 1) m' H') ∧ ∀ x H', (Itz3 K a b c).yld i H x H' → g x (wipe σ vs) H' fun σ2 H2 => wipe σ2 vs = wipe σ vs ∧ tt σ2 H2 fun b H3 =>
        if b = true then te σ2 H3 fun y H4 => ∃ acc, H4 D = some (.lst acc) ∧ acc.length < sizeLine ∧ Nx (upd H4 D (.lst (acc ++ [y]))) else Nx H3) := by
  refine ⟨fun i m H => m = n - i ∧ i ≤ n ∧ Pv i H, ⟨n, by simp, Nat.zero_le _, h0⟩, ?_⟩
  rintro i m H ⟨rfl, hi, p⟩
  obtain ⟨q1, q2, q3⟩ := hl i H hi p
  by_cases hlt : i < n
  · obtain ⟨x, ex⟩ : ∃ x, xs[i]? = some x := ⟨_, List.getElem?_eq_getElem (by omega)⟩
    obtain ⟨y, ey⟩ : ∃ y, ys[i]? = some y := ⟨_, List.getElem?_eq_getElem (by omega)⟩
    obtain ⟨z, ez⟩ : ∃ z, zs[i]? = some z := ⟨_, List.getElem?_eq_getElem (by omega)⟩
    refine .inr ⟨⟨xs, ys, zs, x, y, z, q1, q2, q3, ex, ey, ez⟩, Pv (i + 1), fun H' p' => ⟨n - (i + 1), by omega, rfl, hlt, p'⟩, fun v H' q => ?_⟩
    obtain ⟨T, x', y', z', rfl, hT, rfl, g1, g2, g3⟩ := q
    exact hs i x' y' z' T H (g1 xs q1) (g2 ys q2) (g3 zs q3) hT p
  · have e : i = n := by omega
    subst e
    exact .inl ⟨⟨xs, q1, by omega⟩, hd H p⟩
end L2

end
section
set_option linter.all false
namespace Ma
open Sh
def byt (ns : List Int) : Bytes := ns.map fun n => UInt8.ofNat n.toNat
def Byts (ns : List Int) : Prop := ∀ x ∈ ns, 0 ≤ x ∧ x ≤ 255
theorem byt_len (ns : List Int) : (byt ns).length = ns.length := List.length_map _
theorem ofNat_toNat {z : Int} (h : 0 ≤ z ∧ z ≤ 255) : (UInt8.ofNat z.toNat).toNat = z.toNat := by
  rw [UInt8.toNat_ofNat']; omega
theorem num_end {lo hi x p : Nat} {B : Bytes} (h : B.length ≤ p) : numAt lo hi x p (B.drop p) = .error p := by
  rw [List.drop_eq_nil_of_le h]; rfl
theorem drop_at {ns : List Int} {p : Nat} {z : Int} (h : ns[p]? = some z) : (byt ns).drop p = UInt8.ofNat z.toNat :: (byt ns).drop (p + 1) := by
  have hp : p < ns.length := (List.getElem?_eq_some_iff.mp h).1
  have e : (byt ns)[p]? = some (UInt8.ofNat z.toNat) := by rw [byt, List.getElem?_map, h]; rfl
  obtain ⟨h1, h2⟩ := List.getElem?_eq_some_iff.mp e
  rw [List.drop_eq_getElem_cons h1, h2]
theorem num_at {ns : List Int} {lo hi x p : Nat} {z : Int} (hb : Byts ns) (h : ns[p]? = some z) :
    numAt lo hi x p ((byt ns).drop p) = if z < lo ∨ (hi : Int) < z ∨ z = x then .error p else .ok (z.toNat, p + 1, (byt ns).drop (p + 1)) := by
  have hz := hb z (List.mem_of_getElem? h)
  rw [drop_at h]
  unfold numAt
  simp only [ofNat_toNat hz]
  by_cases q : z < lo ∨ (hi : Int) < z ∨ z = x
  · rw [if_pos q, if_pos (by omega)]
  · rw [if_neg q, if_neg (by omega)]
theorem num_ok {lo hi x p : Nat} {B : Bytes} {t : Nat × Nat × Bytes} (h : numAt lo hi x p (B.drop p) = .ok t) :
    t = (t.1, p + 1, B.drop (p + 1)) ∧ p < B.length ∧ lo ≤ t.1 ∧ t.1 ≤ hi ∧ t.1 ≠ x := by
  by_cases q : p < B.length
  · rw [List.drop_eq_getElem_cons q] at h
    unfold numAt at h
    simp only at h
    split at h
    · cases h
    · rename_i hn
      cases h
      exact ⟨rfl, q, by simp only; omega, by simp only; omega, by simp only; omega⟩
  · rw [num_end (by omega)] at h; cases h

theorem text_of {ns : List Int} (h : Byts ns) : ArmsNeutral.text? ns = some (byt ns) := by
  unfold ArmsNeutral.text?
  have q : NeutralIO.bytes ns = true := by
    unfold NeutralIO.bytes
    rw [List.all_eq_true]
    intro x hx
    have := h x hx
    simp [this.1, this.2]
  rw [if_pos q]
  rfl
end Ma

end
section
set_option linter.all false
namespace Ma
open Sh
theorem row_step {f k last p : Nat} {ns : List Int} (hb : Byts ns) (hk : 0 < k) (hkk : k ≤ 30) (hp : p ≤ ns.length) :
    rowAt (f + 1) k last p ((byt ns).drop p) = match numAt 1 k ANY p ((byt ns).drop p) with
      | .error e => .error e
      | .ok n => match numAt 0 8 last n.2.1 n.2.2 with
        | .error e => .error e
        | .ok t => match rowAt f (k - n.1) t.1 t.2.1 t.2.2 with
          | .error e => .error e
          | .ok x => .ok (List.replicate n.1 t.1 ++ x.1, x.2) := by
  conv => lhs; unfold rowAt
  rw [if_neg (by omega)]
  cases e : (byt ns).drop p with
  | nil => rfl
  | cons c r =>
    have hc : c.toNat < 256 := c.toNat_lt
    simp only [numAt]
    by_cases q : c.toNat = 0 ∨ k < c.toNat
    · rw [if_pos q, if_pos (by unfold ANY; omega)]
    · rw [if_neg q, if_neg (by unfold ANY; omega)]
      simp only
      cases r with
      | nil => rfl
      | cons t r2 =>
        simp only
        by_cases q2 : TINCTS ≤ t.toNat ∨ t.toNat = last
        · rw [if_pos q2, if_pos (by unfold TINCTS at q2; omega)]
        · rw [if_neg q2, if_neg (by unfold TINCTS at q2; omega)]
          simp only
          rfl
theorem row_done {f last p : Nat} {b : Bytes} : rowAt (f + 1) 0 last p b = .ok ([], p, b) := by
  unfold rowAt; rw [if_pos rfl]
theorem num_other {x p : Nat} {b : Bytes} : numAt 0 8 x p b = match numAt 0 8 ANY p b with
    | .error e => .error e
    | .ok t => if t.1 = x then .error p else .ok t := by
  cases b with
  | nil => rfl
  | cons c r =>
    have hc : c.toNat < 256 := c.toNat_lt
    simp only [numAt]
    by_cases q : 8 < c.toNat
    · rw [if_pos (.inr (.inl q)), if_pos (.inr (.inl q))]
    · rw [if_neg (show ¬ (c.toNat < 0 ∨ 8 < c.toNat ∨ c.toNat = ANY) by unfold ANY; omega)]
      simp only
      by_cases q2 : c.toNat = x
      · rw [if_pos (.inr (.inr q2)), if_pos q2]
      · rw [if_neg (by omega), if_neg q2]
theorem num_magic {x : UInt8} {p : Nat} {m b : Bytes} : differs p (x :: m) b = match numAt x.toNat x.toNat ANY p b with
    | .error e => some e
    | .ok t => differs t.2.1 m t.2.2 := by
  cases b with
  | nil => rfl
  | cons c r =>
    have hc : c.toNat < 256 := c.toNat_lt
    simp only [numAt, differs]
    by_cases q : x = c
    · subst q
      rw [if_pos rfl, if_neg (by unfold ANY; omega)]
    · have q' : ¬ x.toNat = c.toNat := fun z => q (UInt8.toNat_inj.mp z)
      rw [if_neg q, if_pos (by omega)]
theorem row_ok {B : Bytes} : ∀ {f k last p : Nat} {x : List Tinct × Nat × Bytes}, p ≤ B.length → rowAt f k last p (B.drop p) = .ok x → x.2.2 = B.drop x.2.1 ∧ x.2.1 ≤ B.length
  | 0, k, last, p, x, _, h => by unfold rowAt at h; cases h
  | f + 1, k, last, p, x, hp, h => by
    unfold rowAt at h
    split at h
    · cases h; exact ⟨rfl, hp⟩
    · cases e : B.drop p with
      | nil => rw [e] at h; cases h
      | cons c r =>
        rw [e] at h
        simp only at h
        split at h
        · cases h
        · cases r with
          | nil => cases h
          | cons t q =>
            simp only at h
            split at h
            · cases h
            · have hl : (B.drop p).length = q.length + 2 := by rw [e]; rfl
              rw [List.length_drop] at hl
              have eq : q = B.drop (p + 2) := by
                rw [← List.drop_drop, e]; rfl
              rw [eq] at h
              cases e2 : rowAt f (k - c.toNat) t.toNat (p + 2) (B.drop (p + 2)) with
              | error z => rw [e2] at h; cases h
              | ok y =>
                rw [e2] at h
                cases h
                exact row_ok (x := y) (by omega) e2
theorem row_len : ∀ {f k last p : Nat} {b : Bytes} {x : List Tinct × Nat × Bytes}, rowAt f k last p b = .ok x → x.1.length = k
  | 0, k, last, p, b, x, h => by unfold rowAt at h; cases h
  | f + 1, k, last, p, b, x, h => by
    unfold rowAt at h
    split at h
    · cases h; rename_i hk; exact hk.symm
    · cases b with
      | nil => cases h
      | cons c r =>
        simp only at h
        split at h
        · cases h
        · cases r with
          | nil => cases h
          | cons t q =>
            simp only at h
            split at h
            · cases h
            · cases e2 : rowAt f (k - c.toNat) t.toNat (p + 2) q with
              | error z => rw [e2] at h; cases h
              | ok y =>
                rw [e2] at h
                cases h
                have ih := row_len (x := y) e2
                simp only [List.length_append, List.length_replicate, ih]
                omega
end Ma

end
section
set_option linter.all false
namespace Ma
open Sh
def two (d e : Bytes) (f : Drawing → Drawing → List Int) : List Int := match readDrawing d with
  | .error p => [-1, (p : Int)]
  | .ok x => match readDrawing e with
    | .error p => [-3, (p : Int)]
    | .ok y => f x y
theorem like_eq {d e : List Int} (hd : Byts d) (he : Byts e) : PyWqbabn.like d e = two (byt d) (byt e) fun x y => [if apart true x y < 68 then 1 else 0] := by
  have z : ArmsNeutral.callOf [[6], d, e] = some (.like (byt d) (byt e)) := by
    show (match ArmsNeutral.text? d, ArmsNeutral.text? e with | some x, some y => some (ShOffice.Call.like x y) | _, _ => none) = _
    rw [text_of hd, text_of he]
  unfold PyWqbabn.like ArmsNeutral.f
  rw [z]
  have a : ShOffice.answer (.like (byt d) (byt e)) = ShOffice.ofTwo (byt d) (byt e) (fun x y => ShOffice.says (if apart true x y < 68 then 1 else 0)) := rfl
  simp only [a]
  unfold ShOffice.ofTwo two
  cases readDrawing (byt d) with
  | error p => rfl
  | ok x =>
    simp only
    cases readDrawing (byt e) with
    | error p => rfl
    | ok y => rfl
theorem rows_len : ∀ {n p : Nat} {b : Bytes} {d : Drawing}, rowsAt n p b = .ok d → d.flatten.length = 30 * n
  | 0, p, b, d, h => by
    have z : (if b = [] then Except.ok [] else Except.error p) = Except.ok d := h
    split at z
    · cases z; rfl
    · cases z
  | n + 1, p, b, d, h => by
    have rs : rowsAt (n + 1) p b = (match rowAt 31 30 9 p b with | .error e => .error e | .ok x => match rowsAt n x.2.1 x.2.2 with | .error e => .error e | .ok d => .ok (x.1 :: d)) := rfl
    rw [rs] at h
    cases e : rowAt 31 30 9 p b with
    | error q => rw [e] at h; cases h
    | ok x =>
      rw [e] at h
      simp only at h
      cases e2 : rowsAt n x.2.1 x.2.2 with
      | error q => rw [e2] at h; cases h
      | ok y =>
        rw [e2] at h
        cases h
        rw [List.flatten_cons, List.length_append, row_len e, rows_len e2]
        omega
theorem draw_len {b : Bytes} {d : Drawing} (h : readDrawing b = .ok d) : d.flatten.length = 1080 := by
  have z : readDrawing b = (match differs 0 MAGIC b with | some p => .error p | none => rowsAt COL 4 (b.drop 4)) := rfl
  rw [z] at h
  cases e : differs 0 MAGIC b with
  | some p => rw [e] at h; cases h
  | none => rw [e] at h; exact rows_len h
def pt (i : Nat) : Int × Int := (16 * ((i % 30 : Nat) : Int) + 8, 16 * ((i / 30 : Nat) : Int) + 8)
theorem points_eq : points = (List.range 1080).map pt := by decide +kernel
def dif (x y : List Nat) (n : Nat) : List Nat := (List.range n).filter fun i => !(x[i]? == y[i]?)
theorem dif_succ (x y : List Nat) (n : Nat) : dif x y (n + 1) = dif x y n ++ (if x[n]? = y[n]? then [] else [n]) := by
  unfold dif
  rw [List.range_succ, List.filter_append]
  congr 1
  by_cases h : x[n]? = y[n]?
  · rw [if_pos h]; simp [h]
  · rw [if_neg h]; simp [h]
theorem zip3 {α : Type} {n : Nat} (f : Nat → α) (x y : List Nat) (hx : x.length = n) (hy : y.length = n) : ((List.range n).map f).zip (x.zip y) = (List.range n).map fun i => (f i, (x[i]?.getD 0, y[i]?.getD 0)) := by
  apply List.ext_getElem
  · simp [hx, hy]
  · intro i h1 h2
    have hi : i < n := by simpa using h2
    simp only [List.getElem_zip, List.getElem_map, List.getElem_range]
    rw [List.getElem?_eq_getElem (by omega), List.getElem?_eq_getElem (by omega)]
    rfl
theorem count3 {α : Type} {n : Nat} (f : Nat → α) (g : α → Bool) {x y : List Nat} (hx : x.length = n) (hy : y.length = n) :
    ((((List.range n).map f).zip (x.zip y)).filter fun (z : α × (Nat × Nat)) => g z.1 && z.2.1 != z.2.2).length = ((dif x y n).filter fun i => g (f i)).length := by
  rw [zip3 f x y hx hy, List.filter_map, List.length_map]
  unfold dif
  rw [List.filter_filter]
  congr 1
  apply List.filter_congr
  intro i hi
  have hi : i < n := by simpa using hi
  have e1 : x[i]? = some (x[i]'(by omega)) := List.getElem?_eq_getElem (by omega)
  have e2 : y[i]? = some (y[i]'(by omega)) := List.getElem?_eq_getElem (by omega)
  simp only [Function.comp]
  rw [e1, e2]
  simp only [Option.getD_some]
  rfl
theorem apart_of (o : Bool) {a b : Drawing} (ha : a.flatten.length = 1080) (hb : b.flatten.length = 1080) : apart o a b = ((dif a.flatten b.flatten 1080).filter fun i => !o || openPoint (pt i)).length := by
  unfold apart
  rw [points_eq]
  exact count3 pt (fun p => !o || openPoint p) ha hb
theorem apart_open {a b : Drawing} (ha : a.flatten.length = 1080) (hb : b.flatten.length = 1080) : apart true a b = ((dif a.flatten b.flatten 1080).filter fun i => openPoint (pt i)).length := by
  exact apart_of true ha hb
theorem dif_le (x y : List Nat) (n : Nat) : (dif x y n).length ≤ n := by
  unfold dif
  have := List.length_filter_le (fun i => !(x[i]? == y[i]?)) (List.range n)
  rwa [List.length_range] at this
end Ma

end
set_option Elab.async false
set_option linter.all false
set_option maxRecDepth 100000
set_option maxHeartbeats 2000000
set_option autoImplicit false

namespace Lk6
open PySem PySem.Spec PyProof.Rows L2 Sh Ma
open PySem.W (Codec)
def top (i : Nat) : Stmt := PySem.Challenge.pw_shieldwords_s06_like.main.body.getD i (.Pass ⟨0, 0, 0, 0⟩)
abbrev sXI : Stmt := inClass (top 2) 0
abbrev sRI : Stmt := inClass (top 3) 0
abbrev sTk : Stmt := inClass (top 3) 1
abbrev sTr : Stmt := inClass (top 3) 2
abbrev sTo : Stmt := inClass (top 3) 3
abbrev sTe : Stmt := inClass (top 3) 4
abbrev sDP : Stmt := top 9
abbrev sOP : Stmt := top 12
abbrev sPA : Stmt := top 13
abbrev sDO : Stmt := top 14
abbrev sTL : Stmt := top 15
abbrev sRR : Stmt := top 18
abbrev sRD : Stmt := top 19
abbrev sNI : Stmt := inClass (top 23) 0
abbrev sPr : Stmt := top 24
abbrev sLk : Stmt := top 25
theorem iteP {c A B : Prop} [Decidable c] (h : c) (a : A) : if c then A else B := by
  rw [if_pos h]
  exact a
theorem iteN {c A B : Prop} [Decidable c] (h : ¬ c) (b : B) : if c then A else B := by
  rw [if_neg h]
  exact b
theorem look1 (f : Str) (v : V) : List.lookup f [(f, v)] = some v := by simp only [List.lookup, beq_self_eq_true]
def rf (a : Addr) (p : Nat) : List (Str × V) := putF "place" (.int p) (putF "data" (.ref a) [])
theorem putF_putF (f : Str) (u v : V) : ∀ fs : List (Str × V), putF f v (putF f u fs) = putF f v fs
  | [] => by
    show (if f = f then [(f, v)] else _) = [(f, v)]
    rw [if_pos rfl]
  | (k, x) :: r => by
    have ih := putF_putF f u v r
    by_cases hk : k = f
    · have e1 : putF f u ((k, x) :: r) = (k, u) :: r := by
        show (if k = f then (k, u) :: r else _) = _
        rw [if_pos hk]
      have e2 : putF f v ((k, u) :: r) = (k, v) :: r := by
        show (if k = f then (k, v) :: r else _) = _
        rw [if_pos hk]
      have e3 : putF f v ((k, x) :: r) = (k, v) :: r := by
        show (if k = f then (k, v) :: r else _) = _
        rw [if_pos hk]
      rw [e1, e2, e3]
    · have e1 : putF f u ((k, x) :: r) = (k, x) :: putF f u r := by
        show (if k = f then _ else (k, x) :: putF f u r) = _
        rw [if_neg hk]
      have e2 : putF f v ((k, x) :: putF f u r) = (k, x) :: putF f v (putF f u r) := by
        show (if k = f then _ else (k, x) :: putF f v (putF f u r)) = _
        rw [if_neg hk]
      have e3 : putF f v ((k, x) :: r) = (k, x) :: putF f v r := by
        show (if k = f then _ else (k, x) :: putF f v r) = _
        rw [if_neg hk]
      rw [e1, e2, e3, ih]
theorem rf_place (a : Addr) (p : Nat) : (rf a p).lookup ("place" : Str) = some (.int p) := by
  unfold rf
  rw [lookup_putF, if_pos rfl]
theorem rf_data (a : Addr) (p : Nat) : (rf a p).lookup ("data" : Str) = some (.ref a) := by
  unfold rf
  rw [lookup_putF, if_neg (by decide +kernel), lookup_putF, if_pos rfl]
theorem rf_no (a : Addr) (p : Nat) {m : Str} (h1 : ¬ m = "place") (h2 : ¬ m = "data") : (rf a p).lookup m = none := by
  unfold rf
  rw [lookup_putF, if_neg h1, lookup_putF, if_neg h2]
  all_goals rfl
theorem rf_put (a : Addr) (p q : Nat) : putF "place" (.int q) (rf a p) = rf a q := by
  unfold rf
  rw [putF_putF]
theorem rf_len (a : Addr) (p : Nat) : (rf a p).length < 1000 := by
  have h1 := length_putF "place" (.int p) (putF "data" (.ref a) [])
  have h2 := length_putF "data" (.ref a) []
  unfold rf
  simp only [List.length_nil] at h2
  omega
def Wrong (C : Addr) (E : XK) (n : Nat) : Prop := ∀ d H', H' d = some (.xd [("place", .int n)]) → E (.ref C) (some d) H'
def Rk {α : Type} (C : Addr) (E : XK) (x : Except Nat (α × Nat × Bytes)) (k : α → Nat → Prop) : Prop := match x with
  | .error e => Wrong C E e
  | .ok t => k t.1 t.2.1
def Oth (r : Addr) (H H' : Hp) : Prop := ∀ b o, b ≠ r → H b = some o → H' b = some o
theorem Oth.refl (r : Addr) (H : Hp) : Oth r H H := fun _ _ _ e => e
theorem Oth.trans {r : Addr} {H H1 H2 : Hp} (a : Oth r H H1) (b : Oth r H1 H2) : Oth r H H2 := fun c o n e => b c o n (a c o n e)
theorem Oth.upd (r : Addr) (H : Hp) (o : HO) : Oth r H (upd H r o) := fun b u n e => by rw [upd_ne n]; exact e
def SqF (K : PySem.W.Frag) (H : Hp) (a : Addr) (xs : List V) : Prop := (∃ o, H a = some (.frz o (.lst xs))) ∨ SqL K (fun _ => none) a xs
theorem SqF.l {K : PySem.W.Frag} {H : Hp} {a : Addr} {xs : List V} (h : SqF K H a xs) : SqL K H a xs := by
  rcases h with h | (h | ⟨o, h⟩) | h
  · exact .inl (.inr h)
  · cases h
  · cases h
  · exact .inr h
theorem SqF.keep {K : PySem.W.Frag} {H H' : Hp} {a : Addr} {xs : List V} (h : SqF K H a xs) (k : ∀ o u, H a = some (.frz o u) → H' a = some (.frz o u)) : SqF K H' a xs := by
  rcases h with ⟨o, h⟩ | h
  · exact .inl ⟨o, k _ _ h⟩
  · exact .inr h
theorem SqF.of {K : PySem.W.Frag} {H : Hp} {a : Addr} {xs : List V} (h : SqL K H a xs) (n : ∀ ys, ¬ H a = some (.lst ys)) : SqF K H a xs := by
  rcases h with (h | h) | h
  · exact (n _ h).elim
  · exact .inl h
  · exact .inr (.inr h)
structure RdAt (K : PySem.W.Frag) (CR : Addr) (H : Hp) (r a : Addr) (ns : List Int) (p : Nat) : Prop where
  byts : Byts ns
  obj : ∃ dr, H r = some (.ins CR dr (rf a p))
  seq : SqF K H a (ns.map V.int)
  le : p ≤ ns.length
theorem RdAt.oth {K : PySem.W.Frag} {CR : Addr} {H H' : Hp} {r a : Addr} {ns : List Int} {p q : Nat} (R : RdAt K CR H r a ns p) (o : Oth r H H') (hq : q ≤ ns.length) (h : ∃ dr, H' r = some (.ins CR dr (rf a q))) : RdAt K CR H' r a ns q := by
  obtain ⟨dr, h1⟩ := R.obj
  exact ⟨R.byts, h, R.seq.keep fun ob u e => o _ _ (ne_of e h1 (by intro z; cases z)) e, hq⟩
theorem RdAt.same {K : PySem.W.Frag} {CR : Addr} {H H' : Hp} {r a : Addr} {ns : List Int} {p : Nat} (R : RdAt K CR H r a ns p) (o : Same H H') : RdAt K CR H' r a ns p := by
  obtain ⟨dr, h1⟩ := R.obj
  exact ⟨R.byts, ⟨dr, o _ _ h1⟩, R.seq.keep fun ob u e => o _ _ e, R.le⟩
theorem RdAt.lst {K : PySem.W.Frag} {CR : Addr} {H : Hp} {r a l : Addr} {ns : List Int} {p : Nat} {xs ys : List V} (R : RdAt K CR H r a ns p) (e : H l = some (.lst xs)) : RdAt K CR (upd H l (.lst ys)) r a ns p := by
  obtain ⟨dr, h1⟩ := R.obj
  exact ⟨R.byts, ⟨dr, by rw [upd_ne (ne_of h1 e (by intro z; cases z))]; exact h1⟩, R.seq.keep fun ob u q => by rw [upd_ne (ne_of q e (by intro z; cases z))]; exact q, R.le⟩
def spXI (C : Addr) : Sp := fun vs H Q _ => ∃ (x : Addr) (n : Int), vs = [.ref x, .int n] ∧ H x = some (xn x C none) ∧ ∀ d H', H' x = some (xn x C (some d)) → H' d = some (.xd [("place", .int n)]) → Q .non H'
def spRI (C : Addr) : Sp := fun vs H Q _ => ∃ (r dr a : Addr), vs = [.ref r, .ref a] ∧ H r = some (.ins C dr []) ∧ ∀ H', H' r = some (.ins C dr (rf a 0)) → Oth r H H' → Q .non H'
def spTake (K : PySem.W.Frag) (CE CR : Addr) : Sp := fun vs H Q E => ∃ (r a : Addr) (ns : List Int) (p lo hi : Nat), vs = [.ref r, .int lo, .int hi] ∧ RdAt K CR H r a ns p ∧
  Rk CE E (numAt lo hi ANY p ((byt ns).drop p)) fun n q => ∀ H', RdAt K CR H' r a ns q → Oth r H H' → Q (.int n) H'
def spRow (K : PySem.W.Frag) (CE CR : Addr) : Sp := fun vs H Q E => ∃ (r a : Addr) (ns : List Int) (p m : Nat), vs = [.ref r, .int (m + 1 : Nat)] ∧ RdAt K CR H r a ns p ∧
  Rk CE E (numAt 0 m ANY p ((byt ns).drop p)) fun n q => ∀ H', RdAt K CR H' r a ns q → Oth r H H' → Q (.int n) H'
def spOther (K : PySem.W.Frag) (CE CR : Addr) : Sp := fun vs H Q E => ∃ (r a : Addr) (ns : List Int) (p x : Nat) (v : V), vs = [.ref r, v] ∧ ((v = .non ∧ 8 < x) ∨ v = .int x) ∧ RdAt K CR H r a ns p ∧
  Rk CE E (numAt 0 8 x p ((byt ns).drop p)) fun n q => ∀ H', RdAt K CR H' r a ns q → Oth r H H' → Q (.int n) H'
def spEnd (K : PySem.W.Frag) (CE CR : Addr) : Sp := fun vs H Q E => ∃ (r a : Addr) (ns : List Int) (p : Nat), vs = [.ref r] ∧ RdAt K CR H r a ns p ∧ (p < ns.length → Wrong CE E p) ∧ (p = ns.length → Q .non H)
structure TR (K : PySem.W.Frag) (mg : Str → Option Value) (CE NE fE CR fR fTk fTr fTo fTe : Addr) : Prop where
  xc : XCls K CE NE fE
  nx : PySem.W.nsIn K NE "place" = some none
  mgE : mg "WrongByte" = some (.ref CE)
  ve : mg "ValueError" = none
  len : mg "len" = none
  mgR : mg "ByteReader" = some (.ref CR)
  cl : Cls K CR
  nD : NoAttr K CR "data"
  nP : NoAttr K CR "place"
  mkR : Mk K CR fR
  mTk : Meth K CR "take" fTk
  mTr : Meth K CR "take_row" fTr
  mTo : Meth K CR "take_other_tincture" fTo
  mTe : Meth K CR "take_end" fTe
  t9 : ∃ t, mg "TINCTURE_ROWS" = some (.int 9 t)
section
variable {P : Program} {w : World} {K : PySem.W.Frag} {mg : Str → Option Value} {base : Heap} {CE NE fE CR fR fTk fTr fTo fTe : Addr}
theorem ty_place : typeLookup (.type "ValueError") "place" = pure none := by rw [typeLookup_type, builtinLookup_eq_fast]; first | rfl | kernel_rfl
theorem scXI : FnScope ["self", "place"] ["self", "place"] (defScope sXI) := ⟨rfl, rfl, rfl, by decide +kernel, rfl, by decide +kernel, by decide +kernel⟩
theorem ok_xi {fd : FuncData} (F : Fun K "__init__" "WrongByte.__init__" sXI fE fd) (T : TR K mg CE NE fE CR fR fTk fTr fTo fTe) : FnOk P w K mg base (CXx P w) 1 fE fd ["self", "place"] (spXI CE) := by
  refine F.okX scXI (fun vs H Q E h => ?_) (fun cdv A outer s H vs Q E hr h => ?_)
  · obtain ⟨x, n, rfl, _⟩ := h
    rfl
  · obtain ⟨x, n, rfl, hx, k⟩ := h
    refine ⟨_, pss_cons (ps_expr (pe_xinit rfl T.ve (pa_cons (pv 0) (pa_cons (pv 1) pa_nil)))) (pss_one (ps_xfld (pv 0) (pv 1) ty_place rfl)), ?_⟩
    refine ⟨_, rfl, _, rfl, x, CE, NE, fE, none, _, rfl, (by show 1 ≤ 1000; decide), hx, T.xc, _, rfl, _, rfl, x, CE, NE, fE, rfl, hx, T.xc, T.nx, fun d hd => ?_⟩
    exact k d _ (by rw [upd_ne (ne_of_none hx hd), upd_same]) upd_same
theorem raise_wrong {E : XK} {n : Nat} (hW : Wrong CE E n) (H1 : Hp) : ∀ x, H1 x = none → spXI CE [.ref x, .int n] (upd H1 x (xn x CE none)) (fun v H2 => v = .non ∧ ∃ d, H2 x = some (xn x CE (some d)) ∧ E (.ref CE) (some d) (upd H2 x (xo x CE d true))) E0 :=
  fun x _ => ⟨x, n, rfl, upd_same, fun d H' h1 h2 => ⟨rfl, d, h1, hW d _ (by rw [upd_ne (ne_of h2 h1 (by intro z; cases z))]; exact h2)⟩⟩
theorem scRI : FnScope ["self", "data"] ["self", "data"] (defScope sRI) := ⟨rfl, rfl, rfl, by decide +kernel, rfl, by decide +kernel, by decide +kernel⟩
theorem ok_ri {fd : FuncData} (F : Fun K "__init__" "ByteReader.__init__" sRI fR fd) (T : TR K mg CE NE fE CR fR fTk fTr fTo fTe) : FnOk P w K mg base (CXx P w) 1 fR fd ["self", "data"] (spRI CR) := by
  refine F.okX scRI (fun vs H Q E h => ?_) (fun cdv A outer s H vs Q E hr h => ?_)
  · obtain ⟨r, dr, a, rfl, _⟩ := h
    rfl
  · obtain ⟨r, dr, a, rfl, hr0, k⟩ := h
    refine ⟨_, pss_cons (ps_fld (pv 0) (pv 1) rfl) (pss_one (ps_fld (pv 0) pe_int rfl)), ?_⟩
    refine ⟨_, rfl, _, rfl, r, CR, dr, [], rfl, hr0, T.cl, T.nD, (by show 0 < 1000; decide), _, rfl, r, CR, dr, _, rfl, upd_same, T.cl, T.nP, (by show 1 < 1000; decide), ?_⟩
    rw [upd_upd]
    exact k _ upd_same (Oth.upd _ _ _)
theorem scTk : FnScope ["self", "least", "most", "byte"] ["self", "least", "most"] (defScope sTk) := ⟨rfl, rfl, rfl, by decide +kernel, rfl, by decide +kernel, by decide +kernel⟩
theorem ok_take {fdE fd : FuncData} (F : Fun K "take" "ByteReader.take" sTk fTk fd) (T : TR K mg CE NE fE CR fR fTk fTr fTo fTe) (GI : FnOk P w K mg base (CXx P w) 1 fE fdE ["self", "place"] (spXI CE)) (bI : Binds K fdE ["self", "place"] []) :
    FnOk P w K mg base (CXx P w) 3 fTk fd ["self", "least", "most"] (spTake K CE CR) := by
  refine F.okX scTk (fun vs H Q E h => ?_) (fun cdv A outer s H vs Q E hr h => ?_)
  · obtain ⟨r, a, ns, p, lo, hi, rfl, _⟩ := h
    rfl
  · obtain ⟨r, a, ns, p, lo, hi, rfl, R, k⟩ := h
    obtain ⟨hb, ⟨dr, hR⟩, hS, hp⟩ := id R
    refine ⟨_, pss_cons (ps_if (pt_cmpR op_eq (pe_fld (pv 0) rfl) (pe_callB call_len_seq (by rfl) T.len PySem.boot_len (pa_cons (pe_fld (pv 0) rfl) pa_nil)) (nomark _)) (pss_one (ps_raise T.xc GI hr rfl T.mgE bI rfl rfl flies (pa_cons (pe_fld (pv 0) rfl) pa_nil))) pss_nil)
      (pss_cons (ps_set (i := 3) scTk.nd rfl (Or.inl rfl) (pe_ix ix_list (pe_fld (pv 0) rfl) (pe_fld (pv 0) rfl) (fun _ _ => rfl)))
      (pss_cons (ps_if (PW.pt (pw_or (pt_cmpR op_lt (pv 3) (pv 1) (nomark _)) (pw_or1 (pt_cmpR op_gt (pv 3) (pv 2) (nomark _))))) (pss_one (ps_raise T.xc GI hr rfl T.mgE bI rfl rfl flies (pa_cons (pe_fld (pv 0) rfl) pa_nil))) pss_nil)
      (pss_cons (ps_fld (pv 0) (pe_op op_add (pe_fld (pv 0) rfl) pe_int) rfl)
      (pss_one (ps_ret (pv 3)))))), ?_⟩
    refine ⟨_, rfl, r, CR, dr, _, _, rfl, hR, T.cl, T.nP, rf_place a p, _, rfl, r, CR, dr, _, _, rfl, hR, T.cl, T.nD, rf_data a p, a, _, rfl, .inl hS.l, rfl, _, rfl, ?_⟩
    rw [List.length_map]
    by_cases hpl : p = ns.length
    · refine iteP (decide_eq_true (by rw [hpl])) ?_
      rw [num_end (by rw [byt_len]; omega)] at k
      exact ⟨_, rfl, r, CR, dr, _, _, rfl, hR, T.cl, T.nP, rf_place a p, (by show 1 ≤ 1000; decide), raise_wrong k H⟩
    · refine iteN (by exact fun z => hpl (by have := of_decide_eq_true z; injection this with e; omega)) ?_
      have hlt : p < ns.length := by omega
      obtain ⟨z, hz⟩ : ∃ z, ns[p]? = some z := ⟨_, List.getElem?_eq_getElem hlt⟩
      have hzb := hb z (List.mem_of_getElem? hz)
      refine ⟨_, rfl, r, CR, dr, _, _, rfl, hR, T.cl, T.nD, rf_data a p, _, rfl, r, CR, dr, _, _, rfl, hR, T.cl, T.nP, rf_place a p, a, _, _, _, rfl, rfl, hS.l, at_of (j := p) (v := V.int z) rfl (by rw [List.getElem?_map, hz]; rfl), ?_⟩
      rw [num_at hb hz] at k
      have bad : ∀ D σ, Wrong CE E p → (σ : L2.St)[0]? = some (some (V.ref r)) → tRaise CE (spXI CE) E (tCons (tFld K (tVar 0) "place") tNil) D σ H := fun D σ q h0 =>
        ⟨_, h0, r, CR, dr, _, _, rfl, hR, T.cl, T.nP, rf_place a p, (by show 1 ≤ 1000; decide), raise_wrong q H⟩
      refine ⟨_, rfl, _, rfl, _, _, rfl, rfl, _, rfl, ?_⟩
      by_cases h1 : z < lo
      · refine iteP (decide_eq_true h1) (iteP rfl ?_)
        rw [if_pos (.inl h1)] at k
        exact bad _ _ k rfl
      · refine iteN (by rw [decide_eq_false h1]; exact Bool.false_ne_true) ?_
        refine ⟨_, rfl, _, rfl, _, _, rfl, rfl, _, rfl, ?_⟩
        by_cases h2 : (hi : Int) < z
        · refine iteP (decide_eq_true h2) ?_
          rw [if_pos (.inr (.inl h2))] at k
          exact bad _ _ k rfl
        · refine iteN (by rw [decide_eq_false h2]; exact Bool.false_ne_true) ?_
          rw [if_neg (by unfold ANY; omega)] at k
          refine ⟨_, rfl, r, CR, dr, _, _, rfl, hR, T.cl, T.nP, rf_place a p, _, _, rfl, rfl, _, rfl, r, CR, dr, _, rfl, hR, T.cl, T.nP, rf_len a p, _, rfl, ?_⟩
          have e1 : putF "place" (V.int ((p : Int) + 1)) (rf a p) = rf a (p + 1) := rf_put a p (p + 1)
          have e2 : V.int z = V.int ((z.toNat : Nat) : Int) := by rw [Int.toNat_of_nonneg hzb.1]
          show Q (V.int z) (upd H r (.ins CR dr (putF "place" (V.int ((p : Int) + 1)) (rf a p))))
          rw [e1, e2]
          exact k _ (R.oth (Oth.upd _ _ _) hlt ⟨dr, upd_same⟩) (Oth.upd _ _ _)
theorem scTr : FnScope ["self", "rows"] ["self", "rows"] (defScope sTr) := ⟨rfl, rfl, rfl, by decide +kernel, rfl, by decide +kernel, by decide +kernel⟩
theorem ok_row {fdT fd : FuncData} (F : Fun K "take_row" "ByteReader.take_row" sTr fTr fd) (T : TR K mg CE NE fE CR fR fTk fTr fTo fTe) (G : FnOk P w K mg base (CXx P w) 3 fTk fdT ["self", "least", "most"] (spTake K CE CR)) (b : Binds K fdT ["self", "least", "most"] []) :
    FnOk P w K mg base (CXx P w) 4 fTr fd ["self", "rows"] (spRow K CE CR) := by
  refine F.okX scTr (fun vs H Q E h => ?_) (fun cdv A outer s H vs Q E hr h => ?_)
  · obtain ⟨r, a, ns, p, m, rfl, _⟩ := h
    rfl
  · obtain ⟨r, a, ns, p, m, rfl, R, k⟩ := h
    obtain ⟨hb, ⟨dr, hR⟩, hS, hp⟩ := id R
    refine ⟨_, pss_one (ps_ret (pe_meth (pv 0) T.cl T.mTk G hr b .nil (passX rfl flies) (pa_cons pe_int (pa_cons (pe_op op_sub (pv 1) pe_int) pa_nil)))), ?_⟩
    refine ⟨_, rfl, r, dr, _, rfl, hR, rf_no a p (by decide +kernel) (by decide +kernel), _, rfl, _, _, rfl, rfl, r, a, ns, p, 0, m, ?_, R, k⟩
    dsimp only
    rw [show (((m + 1 : Nat) : Int) - 1) = (m : Int) by omega]
    rfl
theorem scTo : FnScope ["self", "first", "tincture"] ["self", "first"] (defScope sTo) := ⟨rfl, rfl, rfl, by decide +kernel, rfl, by decide +kernel, by decide +kernel⟩
theorem ok_other {fdE fdT fd : FuncData} (F : Fun K "take_other_tincture" "ByteReader.take_other_tincture" sTo fTo fd) (T : TR K mg CE NE fE CR fR fTk fTr fTo fTe) (GI : FnOk P w K mg base (CXx P w) 1 fE fdE ["self", "place"] (spXI CE)) (bI : Binds K fdE ["self", "place"] [])
    (G : FnOk P w K mg base (CXx P w) 4 fTr fdT ["self", "rows"] (spRow K CE CR)) (b : Binds K fdT ["self", "rows"] []) : FnOk P w K mg base (CXx P w) 5 fTo fd ["self", "first"] (spOther K CE CR) := by
  refine F.okX scTo (fun vs H Q E h => ?_) (fun cdv A outer s H vs Q E hr h => ?_)
  · obtain ⟨r, a, ns, p, x, v, rfl, _⟩ := h
    rfl
  · obtain ⟨r, a, ns, p, x, v, rfl, hv, R, k⟩ := h
    obtain ⟨hb, ⟨dr, hR⟩, hS, hp⟩ := id R
    obtain ⟨t9, h9⟩ := T.t9
    have hr2 : Room 2 _ := hr.mono (by decide)
    refine ⟨_, pss_cons (ps_set (i := 2) scTo.nd rfl (Or.inl rfl) (pe_meth (pv 0) T.cl T.mTr G hr b .nil (passX rfl flies) (pa_cons (pe_glob (v := .int 9) rfl h9 ⟨t9, rfl⟩) pa_nil)))
      (pss_cons (ps_if (pt_cmpR op_eq (pv 2) (pv 1) (nomark _)) (pss_one (ps_raise T.xc GI hr2 rfl T.mgE bI rfl rfl flies (pa_cons (pe_op op_sub (pe_fld (pv 0) rfl) pe_int) pa_nil))) pss_nil)
      (pss_one (ps_ret (pv 2)))), ?_⟩
    refine ⟨_, rfl, r, dr, _, rfl, hR, rf_no a p (by decide +kernel) (by decide +kernel), r, a, ns, p, 8, rfl, R, ?_⟩
    rw [num_other] at k
    cases e : numAt 0 8 ANY p ((byt ns).drop p) with
    | error q => rw [e] at k; exact k
    | ok t =>
      obtain ⟨e1, e2, e3, e4, e5⟩ := num_ok e
      rw [e] at k
      intro H' R' o'
      obtain ⟨dr', hR'⟩ := R'.obj
      have ep : t.2.1 = p + 1 := by rw [e1]
      have sc : scal (V.int (t.1 : Nat)) v = true := by
        rcases hv with ⟨rfl, _⟩ | rfl <;> rfl
      refine ⟨_, rfl, _, rfl, sc, _, rfl, ?_⟩
      simp only at k
      by_cases hx : t.1 = x
      · rw [if_pos hx] at k
        have ev : V.int (t.1 : Nat) = v := by
          rcases hv with ⟨_, h8⟩ | rfl
          · omega
          · rw [hx]
        refine iteP (decide_eq_true ev) ?_
        refine ⟨_, rfl, r, CR, dr', _, _, rfl, hR', T.cl, T.nP, rf_place a _, _, _, rfl, rfl, (by show 1 ≤ 1000; decide), ?_⟩
        dsimp only
        rw [show ((t.2.1 : Nat) : Int) - 1 = (p : Int) by rw [ep]; omega]
        exact raise_wrong k H'
      · rw [if_neg hx] at k
        have ev : ¬ V.int (t.1 : Nat) = v := by
          rcases hv with ⟨rfl, _⟩ | rfl
          · intro z; cases z
          · intro z; injection z with z; exact hx (by omega)
        refine iteN (by rw [decide_eq_false ev]; exact Bool.false_ne_true) ?_
        exact ⟨_, rfl, k H' R' o'⟩
theorem scTe : FnScope ["self"] ["self"] (defScope sTe) := ⟨rfl, rfl, rfl, by decide +kernel, rfl, by decide +kernel, by decide +kernel⟩
theorem ok_end {fdE fd : FuncData} (F : Fun K "take_end" "ByteReader.take_end" sTe fTe fd) (T : TR K mg CE NE fE CR fR fTk fTr fTo fTe) (GI : FnOk P w K mg base (CXx P w) 1 fE fdE ["self", "place"] (spXI CE)) (bI : Binds K fdE ["self", "place"] []) :
    FnOk P w K mg base (CXx P w) 3 fTe fd ["self"] (spEnd K CE CR) := by
  refine F.okX scTe (fun vs H Q E h => ?_) (fun cdv A outer s H vs Q E hr h => ?_)
  · obtain ⟨r, a, ns, p, rfl, _⟩ := h
    rfl
  · obtain ⟨r, a, ns, p, rfl, R, k1, k2⟩ := h
    obtain ⟨hb, ⟨dr, hR⟩, hS, hp⟩ := id R
    refine ⟨_, pss_one (ps_if (pt_cmpR op_lt (pe_fld (pv 0) rfl) (pe_callB call_len_seq (by rfl) T.len PySem.boot_len (pa_cons (pe_fld (pv 0) rfl) pa_nil)) (nomark _)) (pss_one (ps_raise T.xc GI hr rfl T.mgE bI rfl rfl flies (pa_cons (pe_fld (pv 0) rfl) pa_nil))) pss_nil), ?_⟩
    refine ⟨_, rfl, r, CR, dr, _, _, rfl, hR, T.cl, T.nP, rf_place a p, _, rfl, r, CR, dr, _, _, rfl, hR, T.cl, T.nD, rf_data a p, a, _, rfl, .inl hS.l, _, _, rfl, rfl, _, rfl, ?_⟩
    rw [List.length_map]
    by_cases hpl : p < ns.length
    · refine iteP (decide_eq_true (by omega)) ?_
      exact ⟨_, rfl, r, CR, dr, _, _, rfl, hR, T.cl, T.nP, rf_place a p, (by show 1 ≤ 1000; decide), raise_wrong (k1 hpl) H⟩
    · refine iteN (by exact fun z => hpl (by have := of_decide_eq_true z; omega)) ?_
      exact k2 (by omega)
end
abbrev vn (n : Nat) : V := .int (n : Int)
def spRR (K : PySem.W.Frag) (CE CR : Addr) : Sp := fun vs H Q E => ∃ (r a : Addr) (ns : List Int) (p : Nat), vs = [.ref r] ∧ RdAt K CR H r a ns p ∧
  Rk CE E (rowAt 31 30 9 p ((byt ns).drop p)) fun row q => ∀ H' l, RdAt K CR H' r a ns q → Oth r H H' → H l = none → H' l = some (.lst (row.map vn)) → Q (.ref l) H'
def spRD (K : PySem.W.Frag) (CE : Addr) : Sp := fun vs H Q E => ∃ (a : Addr) (ns : List Int), vs = [.ref a] ∧ Byts ns ∧ SqF K H a (ns.map V.int) ∧
  match readDrawing (byt ns) with
  | .error e => Wrong CE E e
  | .ok d => ∀ H' l, Same H H' → H l = none → H' l = some (.lst (d.flatten.map vn)) → Q (.ref l) H'
structure TD (K : PySem.W.Frag) (mg : Str → Option Value) (aM fRR fRD : Addr) : Prop where
  rng : mg "range" = none
  cols : ∃ t, mg "COLUMNS" = some (.int 30 t)
  rows : ∃ t, mg "ROWS" = some (.int 36 t)
  ahead : mg "AHEAD" = some (.ref aM)
  magic : ∀ H, SqT K H aM [.int 83, .int 72, .int 68, .int 49]
  mRR : mg "read_row" = some (.ref fRR)
  mRD : mg "read_drawing" = some (.ref fRD)
section
variable {P : Program} {w : World} {K : PySem.W.Frag} {mg : Str → Option Value} {base : Heap} {CE NE fE CR fR fTk fTr fTo fTe aM fRR fRD : Addr}
theorem flat1 {α : Type} (n : Nat) (x : α) : (List.replicate n [x]).flatten = List.replicate n x := by
  induction n with
  | zero => rfl
  | succ n ih => rw [List.replicate_succ, List.flatten_cons, ih]; rfl
theorem scRR : FnScope ["reader", "row", "tincture", "length"] ["reader"] (defScope sRR) := ⟨rfl, rfl, rfl, by decide +kernel, rfl, by decide +kernel, by decide +kernel⟩
theorem ok_rr {fdK fdO fd : FuncData} (F : Fun K "read_row" "read_row" sRR fRR fd) (T : TR K mg CE NE fE CR fR fTk fTr fTo fTe) (U : TD K mg aM fRR fRD) (GK : FnOk P w K mg base (CXx P w) 3 fTk fdK ["self", "least", "most"] (spTake K CE CR)) (bK : Binds K fdK ["self", "least", "most"] [])
    (GO : FnOk P w K mg base (CXx P w) 5 fTo fdO ["self", "first"] (spOther K CE CR)) (bO : Binds K fdO ["self", "first"] []) : FnOk P w K mg base (CXx P w) 6 fRR fd ["reader"] (spRR K CE CR) := by
  refine F.okX scRR (fun vs H Q E h => ?_) (fun cdv A outer s H vs Q E hr h => ?_)
  · obtain ⟨r, a, ns, p, rfl, _⟩ := h
    rfl
  · obtain ⟨r, a, ns, p0, rfl, R0, k⟩ := h
    obtain ⟨t30, h30⟩ := U.cols
    have hr3 : Room 3 _ := hr.mono (by decide)
    refine ⟨_, pss_cons (ps_set (i := 1) scRR.nd rfl (Or.inl rfl) (pe_lst pa_nil))
      (pss_cons (ps_set (i := 2) scRR.nd rfl (Or.inl rfl) pe_non)
      (pss_cons (ps_while PassesOwn.leaving (pt_cmpR op_lt (pe_callB call_len_seq (by rfl) T.len PySem.boot_len (pa_cons (pv 1) pa_nil)) (pe_glob (v := .int 30) rfl h30 ⟨t30, rfl⟩) (nomark _))
        (pss_cons (ps_set (i := 3) scRR.nd rfl (Or.inl rfl) (pe_meth (pv 0) T.cl T.mTk GK hr3 bK .nil (passX rfl flies) (pa_cons pe_int (pa_cons (pe_op op_sub (pe_glob (v := .int 30) rfl h30 ⟨t30, rfl⟩) (pe_callB call_len_seq (by rfl) T.len PySem.boot_len (pa_cons (pv 1) pa_nil))) pa_nil))))
        (pss_cons (ps_set (i := 2) scRR.nd rfl (Or.inl rfl) (pe_meth (pv 0) T.cl T.mTo GO hr bO .nil (passX rfl flies) (pa_cons (pv 2) pa_nil)))
        (pss_one (ps_expr (pe_bm PySem.F.plainAttrs_list PySem.F.slot_list_extend PySem.F.type_list_extend mt_extend (pv 1) (pa_cons (pe_op op_rep (pe_lst (pa_cons (pv 2) pa_nil)) (pv 3)) pa_nil)))))))
      (pss_one (ps_ret (pv 1))))), ?_⟩
    refine ⟨Nat.zero_le _, fun l hl => ?_⟩
    have sz : (30 : Nat) ≤ sizeLine := by rw [sizeLine_eq]; omega
    let G : List Nat → Except Nat (List Nat × Nat × Bytes) → Prop := fun rs x => match x with
      | .error e => Wrong CE E e
      | .ok t => ∀ H' l, RdAt K CR H' r a ns t.2.1 → Oth r H H' → H l = none → H' l = some (.lst ((rs ++ t.1).map vn)) → Q (.ref l) H'
    have g0 : G [] (rowAt 31 30 9 p0 ((byt ns).drop p0)) := by
      cases e : rowAt 31 30 9 p0 ((byt ns).drop p0) with
      | error e' => rw [e] at k; exact k
      | ok t => rw [e] at k; exact k
    have s0 : Same H (upd H l (.lst [])) := fun b o e => by rw [upd_ne (ne_of_none e hl)]; exact e
    refine ⟨fun m σ H' => ∃ (rs : List Nat) (last p f : Nat) (tv : V) (lv : Option V), m = 30 - rs.length ∧ σ = [some (.ref r), some (.ref l), some tv, lv] ∧ H' l = some (.lst (rs.map vn)) ∧ RdAt K CR H' r a ns p ∧ rs.length ≤ 30 ∧ 30 - rs.length ≤ f ∧
      ((tv = .non ∧ 8 < last) ∨ tv = .int last) ∧ Oth r H H' ∧ G rs (rowAt (f + 1) (30 - rs.length) last p ((byt ns).drop p)), ⟨30, [], 9, p0, 30, .non, none, rfl, rfl, upd_same, R0.same s0, by simp, by simp, .inl ⟨rfl, by decide⟩, fun b o _ e => s0 b o e, g0⟩, ?_⟩
    rintro m σ H1 ⟨rs, last, p, f, tv, lv, rfl, rfl, hl1, R1, hle, hf, htv, o1, g⟩
    obtain ⟨hb, ⟨dr, hR⟩, hS, hp⟩ := id R1
    refine ⟨_, rfl, l, _, rfl, .inl (SqL.of hl1), _, _, rfl, rfl, _, rfl, ?_⟩
    rw [List.length_map]
    by_cases hlt : rs.length < 30
    · refine iteP (decide_eq_true (by omega)) ?_
      refine ⟨_, fun σ' H' h => h, ?_⟩
      obtain ⟨f', rfl⟩ : ∃ f', f = f' + 1 := ⟨f - 1, by omega⟩
      have kk : (30 : Int) - ((rs.map vn).length : Int) = ((30 - rs.length : Nat) : Int) := by rw [List.length_map]; omega
      rw [row_step hb (by omega) (by omega) hp] at g
      refine ⟨_, rfl, r, dr, _, rfl, hR, rf_no a p (by decide +kernel) (by decide +kernel), _, rfl, l, _, rfl, .inl (SqL.of hl1), _, _, rfl, rfl, r, a, ns, p, 1, 30 - rs.length, ?_, R1, ?_⟩
      · dsimp only
        rw [kk]
        rfl
      cases e1 : numAt 1 (30 - rs.length) ANY p ((byt ns).drop p) with
      | error e => rw [e1] at g; exact g
      | ok n =>
        obtain ⟨en, _, en1, en2, _⟩ := num_ok e1
        have ep : n.2.1 = p + 1 := by rw [en]
        have eb : n.2.2 = (byt ns).drop (p + 1) := by rw [en]
        rw [e1] at g
        simp only [ep, eb] at g
        intro H2 R2 o2
        obtain ⟨dr2, hR2⟩ := R2.obj
        rw [ep] at R2 hR2
        have hl2 : H2 l = some (.lst (rs.map vn)) := o2 l _ (ne_of hl1 hR (by intro z; cases z)) hl1
        refine ⟨_, rfl, r, dr2, _, rfl, hR2, rf_no a _ (by decide +kernel) (by decide +kernel), _, rfl, r, a, ns, p + 1, last, tv, rfl, htv, R2, ?_⟩
        cases e2 : numAt 0 8 last (p + 1) ((byt ns).drop (p + 1)) with
        | error e => rw [e2] at g; exact g
        | ok t =>
          obtain ⟨et, _, _, et8, _⟩ := num_ok e2
          have ep2 : t.2.1 = p + 2 := by rw [et]
          have eb2 : t.2.2 = (byt ns).drop (p + 2) := by rw [et]
          rw [e2] at g
          simp only [ep2, eb2] at g
          intro H3 R3 o3
          rw [ep2] at R3
          obtain ⟨dr3, hR3⟩ := R3.obj
          have hl3 : H3 l = some (.lst (rs.map vn)) := o3 l _ (ne_of hl2 hR2 (by intro z; cases z)) hl2
          refine ⟨_, rfl, .inl ⟨rfl, _, SqL.of hl3⟩, _, rfl, (by show 1 ≤ sizeLine; omega), fun l1 hl1' => ?_⟩
          refine ⟨_, rfl, l1, _, _, rfl, rfl, upd_same, (by omega), (by omega), (by show 1 * ((n.1 : Nat) : Int).toNat ≤ sizeLine; omega), fun l2 hl2' => ?_⟩
          have hl4 : (upd (upd H3 l1 (.lst [V.int (t.1 : Nat)])) l2 (.lst (List.replicate ((n.1 : Nat) : Int).toNat [V.int (t.1 : Nat)]).flatten)) l = some (.lst (rs.map vn)) := by
            have n1 : l ≠ l1 := ne_of_none hl3 hl1'
            have z : upd H3 l1 (.lst [V.int (t.1 : Nat)]) l = some (.lst (rs.map vn)) := by rw [upd_ne n1]; exact hl3
            rw [upd_ne (ne_of_none z hl2')]
            exact z
          have er : (List.replicate ((n.1 : Nat) : Int).toNat [V.int (t.1 : Nat)]).flatten = (List.replicate n.1 t.1).map vn := by
            rw [Int.toNat_natCast, List.map_replicate]
            exact flat1 n.1 _
          refine ⟨l, l2, _, _, rfl, rfl, hl4, upd_same, ?_, ?_⟩
          · rw [er]
            simp only [List.length_map, List.length_replicate]
            omega
          · rw [er]
            have sm : Same H3 (upd (upd H3 l1 (.lst [V.int (t.1 : Nat)])) l2 (.lst ((List.replicate n.1 t.1).map vn))) := fun b o e => by
              have z : upd H3 l1 (.lst [V.int (t.1 : Nat)]) b = some o := by rw [upd_ne (ne_of_none e hl1')]; exact e
              rw [upd_ne (ne_of_none z hl2')]
              exact z
            have nr : l ≠ r := ne_of hl3 hR3 (by intro z; cases z)
            refine ⟨30 - (rs ++ List.replicate n.1 t.1).length, ?_, rs ++ List.replicate n.1 t.1, t.1, p + 2, f', _, _, rfl, rfl, ?_, ?_, ?_, ?_, .inr rfl, ?_, ?_⟩
            · rw [List.length_append, List.length_replicate]; omega
            · rw [upd_same, List.map_append]
            · exact (R3.same sm).lst (sm _ _ hl3)
            · rw [List.length_append, List.length_replicate]; omega
            · rw [List.length_append, List.length_replicate]; omega
            · intro b o nb e
              rw [upd_ne (fun z => by subst z; rw [hl] at e; cases e)]
              exact sm _ _ (o3 b o nb (o2 b o nb (o1 b o nb e)))
            · rw [List.length_append, List.length_replicate, show 30 - (rs.length + n.1) = 30 - rs.length - n.1 by omega]
              cases e3 : rowAt (f' + 1) (30 - rs.length - n.1) t.1 (p + 2) ((byt ns).drop (p + 2)) with
              | error e => rw [e3] at g; exact g
              | ok x =>
                rw [e3] at g
                show ∀ H' l, _ → _ → _ → _ → _
                rw [List.append_assoc]
                exact g
    · refine iteN (by exact fun z => hlt (by have := of_decide_eq_true z; omega)) ?_
      have e0 : 30 - rs.length = 0 := by omega
      rw [e0, row_done] at g
      refine ⟨_, rfl, ?_⟩
      exact g H1 l R1 o1 hl (by rw [List.append_nil]; exact hl1)

theorem scRD : FnScope ["data", "reader", "byte", "drawn", "y"] ["data"] (defScope sRD) := ⟨rfl, rfl, rfl, by decide +kernel, rfl, by decide +kernel, by decide +kernel⟩
theorem ok_rd {fdR fdK fdE2 fdRR fd : FuncData} (F : Fun K "read_drawing" "read_drawing" sRD fRD fd) (T : TR K mg CE NE fE CR fR fTk fTr fTo fTe) (U : TD K mg aM fRR fRD) (GR : FnOk P w K mg base (CXx P w) 1 fR fdR ["self", "data"] (spRI CR)) (bR : Binds K fdR ["self", "data"] [])
    (GK : FnOk P w K mg base (CXx P w) 3 fTk fdK ["self", "least", "most"] (spTake K CE CR)) (bK : Binds K fdK ["self", "least", "most"] [])
    (GE : FnOk P w K mg base (CXx P w) 3 fTe fdE2 ["self"] (spEnd K CE CR)) (bE : Binds K fdE2 ["self"] [])
    (GW : FnOk P w K mg base (CXx P w) 6 fRR fdRR ["reader"] (spRR K CE CR)) (bW : Binds K fdRR ["reader"] []) (kW : PySem.W.keepIn K (.ref fRR) = true) : FnOk P w K mg base (CXx P w) 7 fRD fd ["data"] (spRD K CE) := by
  refine F.okX scRD (fun vs H Q E h => ?_) (fun cdv A outer s H vs Q E hr h => ?_)
  · obtain ⟨a, ns, rfl, _⟩ := h
    rfl
  · obtain ⟨a, ns, rfl, hb, hS, k⟩ := h
    obtain ⟨t36, h36⟩ := U.rows
    have hr3 : Room 3 _ := hr.mono (by decide)
    have hr2 : Room 2 _ := hr.mono (by decide)
    refine ⟨_, pss_cons (ps_set (i := 1) scRD.nd rfl (Or.inl rfl) (pe_make T.mkR GR hr2 rfl T.mgR bR .nil passN (pa_cons (pv 0) pa_nil)))
      (pss_cons (ps_for PassesOwn.leaving rfl (pi_tup (pe_glob (v := .ref aM) rfl U.ahead rfl)) (pg_name (i := 2) scRD.nd rfl (Or.inl rfl))
        (pss_one (ps_expr (pe_meth (pv 1) T.cl T.mTk GK hr3 bK .nil (passX rfl flies) (pa_cons (pv 2) (pa_cons (pv 2) pa_nil))))))
      (pss_cons (ps_set (i := 3) scRD.nd rfl (Or.inl rfl) (pe_lst pa_nil))
      (pss_cons (ps_for PassesOwn.leaving rfl (pi_range1 rfl U.rng (pa_cons (pe_glob (v := .int 36) rfl h36 ⟨t36, rfl⟩) pa_nil)) (pg_name (i := 4) scRD.nd rfl (Or.inl rfl))
        (pss_one (ps_expr (pe_bm PySem.F.plainAttrs_list PySem.F.slot_list_extend PySem.F.type_list_extend mt_extend (pv 3) (pa_cons (pe_call GW hr rfl U.mRR kW bW .nil (passX rfl flies) (pa_cons (pv 1) pa_nil)) pa_nil)))))
      (pss_cons (ps_expr (pe_meth0 (pv 1) T.cl T.mTe GE hr3 bE .nil (passX rfl flies)))
      (pss_one (ps_ret (pv 3))))))), ?_⟩
    refine ⟨_, rfl, fun r dr0 nr nd ne => ?_⟩
    refine ⟨r, dr0, a, rfl, upd_same, fun H1 hr1 o1 => ⟨rfl, ?_⟩⟩
    have s1 : Same H H1 := fun b o e => by
      have n1 : b ≠ r := ne_of_none e nr
      refine o1 b o n1 ?_
      rw [upd_ne n1, upd_ne (ne_of_none e nd)]
      exact e
    have R1 : RdAt K CR H1 r a ns 0 := ⟨hb, ⟨dr0, hr1⟩, hS.keep fun ob u e => s1 _ _ e, Nat.zero_le _⟩
    let B := byt ns
    -- the four bytes ahead
    let G : Except Nat Drawing → List Nat → Prop := fun x acc => match x with
      | .error e => Wrong CE E e
      | .ok d => ∀ H' l, Same H H' → H l = none → H' l = some (.lst ((acc ++ d.flatten).map vn)) → Q (.ref l) H'
    have g0 : G (match differs 0 MAGIC (B.drop 0) with | some p => .error p | none => rowsAt COL 4 (B.drop 4)) [] := by
      have z : readDrawing (byt ns) = (match differs 0 MAGIC (B.drop 0) with | some p => .error p | none => rowsAt COL 4 (B.drop 4)) := rfl
      rw [← z]
      cases e : readDrawing (byt ns) with
      | error e' => rw [e] at k; exact k
      | ok d => rw [e] at k; exact k
    refine ⟨aM, rfl, ⟨_, U.magic _⟩, for_tup (K := K) (a := aM) (xs := [.int 83, .int 72, .int 68, .int 49]) (fun i σ H' => ∃ bv : Option V, σ = [some (.ref a), some (.ref r), bv, none, none] ∧ RdAt K CR H' r a ns i ∧ Oth r H1 H' ∧
        G (match differs i (MAGIC.drop i) (B.drop i) with | some p => .error p | none => rowsAt COL 4 (B.drop 4)) []) ⟨none, rfl, R1, Oth.refl _ _, g0⟩ (fun i σ H' _ _ => U.magic _) ?_ ?_⟩
    · rintro i y σ H2 hi ⟨bv, rfl, R2, o2, g⟩
      obtain ⟨dr2, hR2⟩ := R2.obj
      obtain ⟨c, hc, hy⟩ : ∃ c : UInt8, MAGIC.drop i = c :: MAGIC.drop (i + 1) ∧ y = V.int ((c.toNat : Nat) : Int) := by
        match i, hi with
        | 0, hi => exact ⟨0x53, rfl, (Option.some.inj hi).symm⟩
        | 1, hi => exact ⟨0x48, rfl, (Option.some.inj hi).symm⟩
        | 2, hi => exact ⟨0x44, rfl, (Option.some.inj hi).symm⟩
        | 3, hi => exact ⟨0x31, rfl, (Option.some.inj hi).symm⟩
        | j + 4, hi => simp at hi
      subst hy
      rw [hc, num_magic] at g
      refine ⟨_, rfl, r, dr2, _, rfl, hR2, rf_no a _ (by decide +kernel) (by decide +kernel), _, rfl, _, rfl, r, a, ns, i, c.toNat, c.toNat, rfl, R2, ?_⟩
      cases e1 : numAt c.toNat c.toNat ANY i ((byt ns).drop i) with
      | error e => rw [e1] at g; exact g
      | ok n =>
        obtain ⟨en, _, _, _, _⟩ := num_ok e1
        have ep : n.2.1 = i + 1 := by rw [en]
        have eb : n.2.2 = (byt ns).drop (i + 1) := by rw [en]
        rw [e1] at g
        simp only [ep, eb] at g
        intro H3 R3 o3
        rw [ep] at R3
        exact ⟨_, rfl, R3, o2.trans o3, g⟩
    · rintro σ H2 ⟨bv, rfl, R2, o2, g⟩
      have g1 : G (rowsAt 36 4 ((byt ns).drop 4)) [] := g
      refine ⟨Nat.zero_le _, fun l hl => ?_⟩
      have s2 : Same H2 (upd H2 l (.lst [])) := fun b o e => by rw [upd_ne (ne_of_none e hl)]; exact e
      have hlH : H l = none := by
        cases q : H l with
        | none => rfl
        | some o =>
          have z := o2 l o (ne_of_none q nr) (s1 _ _ q)
          rw [hl] at z; cases z
      have hlH1 : H1 l = none := by
        cases q : H1 l with
        | none => rfl
        | some o =>
          have z := o2 l o (fun y => by rw [y] at hl; obtain ⟨d2, h2⟩ := R2.obj; rw [hl] at h2; cases h2) q
          rw [hl] at z; cases z
      refine ⟨36, rfl, by decide, by decide, for_range (n := 36) (fun i σ H' => ∃ (yv : Option V) (acc : List Nat) (p : Nat), σ = [some (.ref a), some (.ref r), bv, some (.ref l), yv] ∧ H' l = some (.lst (acc.map vn)) ∧ acc.length = 30 * i ∧ RdAt K CR H' r a ns p ∧ Oth r H1 H' ∧
        G (rowsAt (36 - i) p ((byt ns).drop p)) acc) ⟨none, [], 4, rfl, upd_same, rfl, R2.same s2, fun b o n e => s2 _ _ (o2 b o n e), g1⟩ ?_ ?_⟩
      · rintro i σ H3 hi ⟨yv, acc, p, rfl, hl3, hacc, R3, o3, g⟩
        obtain ⟨dr3, hR3⟩ := R3.obj
        obtain ⟨j, hj⟩ : ∃ j, 36 - i = j + 1 := ⟨35 - i, by omega⟩
        have hj2 : 36 - (i + 1) = j := by omega
        rw [hj] at g
        have rs : rowsAt (j + 1) p ((byt ns).drop p) = (match rowAt 31 30 9 p ((byt ns).drop p) with | .error e => .error e | .ok x => match rowsAt j x.2.1 x.2.2 with | .error e => .error e | .ok d => .ok (x.1 :: d)) := rfl
        rw [rs] at g
        refine ⟨_, rfl, .inl ⟨rfl, _, SqL.of hl3⟩, _, rfl, r, a, ns, p, rfl, R3, ?_⟩
        cases e1 : rowAt 31 30 9 p ((byt ns).drop p) with
        | error e => rw [e1] at g; exact g
        | ok x =>
          obtain ⟨e2, e3⟩ := row_ok (by rw [byt_len]; exact R3.le) e1
          have e4 := row_len e1
          rw [e1] at g
          simp only [e2] at g
          intro H4 q R4 o4 hq hq4
          have nlr : l ≠ r := ne_of hl3 hR3 (by intro z; cases z)
          have hl4 : H4 l = some (.lst (acc.map vn)) := o4 l _ nlr hl3
          refine ⟨l, q, _, _, rfl, rfl, hl4, hq4, ?_, ?_⟩
          · rw [List.length_map, List.length_map, hacc, e4, sizeLine_eq]; omega
          · refine ⟨_, acc ++ x.1, x.2.1, rfl, by rw [upd_same, List.map_append], by rw [List.length_append, hacc, e4]; omega, R4.lst hl4, ?_, ?_⟩
            · intro b o n e
              rw [upd_ne (fun z => by subst z; rw [hlH1] at e; cases e)]
              exact o4 b o n (o3 b o n e)
            · rw [hj2]
              cases e5 : rowsAt j x.2.1 ((byt ns).drop x.2.1) with
              | error e => rw [e5] at g; exact g
              | ok d =>
                rw [e5] at g
                show ∀ H' l, _ → _ → _ → _
                rw [List.append_assoc]
                exact g
      · rintro σ H3 ⟨yv, acc, p, rfl, hl3, hacc, R3, o3, g⟩
        obtain ⟨dr3, hR3⟩ := R3.obj
        refine ⟨_, rfl, r, dr3, _, rfl, hR3, rf_no a _ (by decide +kernel) (by decide +kernel), r, a, ns, p, rfl, R3, fun hp => ?_, fun hp => ?_⟩
        · have z : rowsAt 0 p ((byt ns).drop p) = .error p := by
            show (if (byt ns).drop p = [] then _ else _) = _
            rw [if_neg (by rw [List.drop_eq_nil_iff, byt_len]; omega)]
          have g2 : G (rowsAt 0 p ((byt ns).drop p)) acc := g
          rw [z] at g2
          exact g2
        · have z : rowsAt 0 p ((byt ns).drop p) = .ok [] := by
            show (if (byt ns).drop p = [] then _ else _) = _
            rw [if_pos (by rw [List.drop_eq_nil_iff, byt_len]; omega)]
          have g2 : G (rowsAt 0 p ((byt ns).drop p)) acc := g
          rw [z] at g2
          refine ⟨_, rfl, ?_⟩
          exact g2 H3 l (fun b o e => o3 b o (ne_of_none e nr) (s1 _ _ e)) hlH (by rw [hl3]; simp)
end
abbrev ptV (i : Nat) : List V := [.int (pt i).1, .int (pt i).2]
def TupK (H H' : Hp) : Prop := ∀ b xs, H b = some (.tup xs) → H' b = some (.tup xs)
theorem TupK.of {H H' : Hp} (s : Same H H') : TupK H H' := fun b xs e => s b _ e
theorem TupK.lst {H : Hp} {l : Addr} {xs ys : List V} (e : H l = some (.lst xs)) : TupK H (upd H l (.lst ys)) := fun b zs q => by
  rw [upd_ne (fun z => by rw [z, e] at q; cases q)]; exact q
theorem TupK.trans {H H1 H2 : Hp} (a : TupK H H1) (b : TupK H1 H2) : TupK H H2 := fun c xs e => b c xs (a c xs e)
def Sel (H : Hp) (ts : List Addr) (js : List Nat) : Prop := ts.length = js.length ∧ ∀ (k : Nat) (t : Addr) (j : Nat), ts[k]? = some t → js[k]? = some j → H t = some (.tup (ptV j))
theorem Sel.nil (H : Hp) : Sel H [] [] := ⟨rfl, fun k t j h => by simp at h⟩
theorem Sel.keep {H H' : Hp} {ts : List Addr} {js : List Nat} (S : Sel H ts js) (k : TupK H H') : Sel H' ts js := ⟨S.1, fun i t j a b => k _ _ (S.2 i t j a b)⟩
theorem Sel.snoc {H H' : Hp} {ts : List Addr} {js : List Nat} {t : Addr} {j : Nat} (S : Sel H ts js) (k : TupK H H') (h : H' t = some (.tup (ptV j))) : Sel H' (ts ++ [t]) (js ++ [j]) := by
  refine ⟨by rw [List.length_append, List.length_append, S.1]; rfl, fun i t' j' a b => ?_⟩
  by_cases hi : i < ts.length
  · rw [List.getElem?_append_left hi] at a
    rw [List.getElem?_append_left (by rw [← S.1]; exact hi)] at b
    exact k _ _ (S.2 i t' j' a b)
  · rw [List.getElem?_append_right (by omega)] at a
    rw [List.getElem?_append_right (by rw [← S.1]; omega), ← S.1] at b
    cases e : i - ts.length with
    | zero =>
      rw [e] at a b
      simp only [List.getElem?_cons_zero, Option.some.injEq] at a b
      rw [← a, ← b]; exact h
    | succ n => rw [e] at a; simp at a
def spDP : Sp := fun vs H Q _ => vs = [] ∧ ∀ (H' : Hp) (l : Addr) (ts : List Addr), Same H H' → H l = none → H' l = some (.lst (ts.map V.ref)) → Sel H' ts (List.range 1080) → Q (.ref l) H'
structure TE5 (K : PySem.W.Frag) (mg : Str → Option Value) (fDP fOP fPA fDO : Addr) : Prop where
  step : ∃ t, mg "STEP" = some (.int 16 t)
  marg : ∃ t, mg "MARGIN" = some (.int 8 t)
  zip : mg "zip" = none
  mDP : mg "drawn_points" = some (.ref fDP)
  mOP : mg "is_open_point" = some (.ref fOP)
  mPA : mg "points_apart" = some (.ref fPA)
  mDO : mg "distance_at_open_points" = some (.ref fDO)
section
variable {P : Program} {w : World} {K : PySem.W.Frag} {mg : Str → Option Value} {base : Heap} {CE NE fE CR fR fTk fTr fTo fTe aM fRR fRD fDP fOP fPA fDO : Addr}
theorem same_new {H : Hp} {l : Addr} {o : HO} (n : H l = none) : Same H (upd H l o) := fun b u e => by rw [upd_ne (ne_of_none e n)]; exact e
theorem scDP : FnScope ["points", "y", "x"] [] (defScope sDP) := ⟨rfl, rfl, rfl, by decide +kernel, rfl, by decide +kernel, by decide +kernel⟩
theorem ok_dp {fd : FuncData} (F : Fun K "drawn_points" "drawn_points" sDP fDP fd) (U : TD K mg aM fRR fRD) (W : TE5 K mg fDP fOP fPA fDO) : FnOk P w K mg base (CXx P w) 1 fDP fd [] spDP := by
  refine F.okX scDP (fun vs H Q E h => ?_) (fun cdv A outer s H vs Q E hr h => ?_)
  · obtain ⟨rfl, _⟩ := h
    rfl
  · obtain ⟨rfl, k⟩ := h
    obtain ⟨t36, h36⟩ := U.rows
    obtain ⟨t30, h30⟩ := U.cols
    obtain ⟨t16, h16⟩ := W.step
    obtain ⟨t8, h8⟩ := W.marg
    refine ⟨_, pss_cons (ps_set (i := 0) scDP.nd rfl (Or.inl rfl) (pe_lst pa_nil))
      (pss_cons (ps_for PassesOwn.leaving rfl (pi_range1 rfl U.rng (pa_cons (pe_glob (v := .int 36) rfl h36 ⟨t36, rfl⟩) pa_nil)) (pg_name (i := 1) scDP.nd rfl (Or.inl rfl))
        (pss_one (ps_for PassesOwn.leaving rfl (pi_range1 rfl U.rng (pa_cons (pe_glob (v := .int 30) rfl h30 ⟨t30, rfl⟩) pa_nil)) (pg_name (i := 2) scDP.nd rfl (Or.inl rfl))
          (pss_one (ps_expr (pe_bm PySem.F.plainAttrs_list PySem.F.slot_list_append PySem.F.type_list_append mt_append (pv 0)
            (pa_cons (pe_tup (pa_cons (pe_op op_add (pe_op op_mul (pe_glob (v := .int 16) rfl h16 ⟨t16, rfl⟩) (pv 2)) (pe_glob (v := .int 8) rfl h8 ⟨t8, rfl⟩)) (pa_cons (pe_op op_add (pe_op op_mul (pe_glob (v := .int 16) rfl h16 ⟨t16, rfl⟩) (pv 1)) (pe_glob (v := .int 8) rfl h8 ⟨t8, rfl⟩)) pa_nil))) pa_nil)))))))
      (pss_one (ps_ret (pv 0)))), ?_⟩
    refine ⟨Nat.zero_le _, fun l hl => ?_⟩
    refine ⟨36, rfl, by decide, by decide, for_range (n := 36) (fun i σ H' => ∃ (yv xv : Option V) (ts : List Addr), σ = [some (.ref l), yv, xv] ∧ H' l = some (.lst (ts.map V.ref)) ∧ Sel H' ts (List.range (30 * i)) ∧ Same H H') ⟨none, none, [], rfl, upd_same, Sel.nil _, same_new hl⟩ ?_ ?_⟩
    · rintro i σ H1 hi ⟨yv, xv, ts, rfl, hl1, S1, s1⟩
      refine ⟨30, rfl, by decide, by decide, for_range (n := 30) (fun j σ H' => ∃ (xv : Option V) (ts : List Addr), σ = [some (.ref l), some (.int i), xv] ∧ H' l = some (.lst (ts.map V.ref)) ∧ Sel H' ts (List.range (30 * i + j)) ∧ Same H H') ⟨xv, ts, ?_, hl1, S1, s1⟩ ?_ ?_⟩
      · show [some (V.ref l), some (V.int (0 + (i : Int))), xv] = _
        rw [Int.zero_add]
      · rintro j σ H2 hj ⟨xv, ts, rfl, hl2, S2, s2⟩
        refine ⟨_, rfl, .inl ⟨rfl, _, SqL.of hl2⟩, _, rfl, _, _, rfl, rfl, .inl (by decide), _, _, rfl, rfl, _, rfl, _, _, rfl, rfl, .inl (by decide), _, _, rfl, rfl, (by show 2 ≤ sizeLine; rw [sizeLine_eq]; omega), fun p hp => ?_⟩
        have hlen : ts.length = 30 * i + j := by rw [S2.1, List.length_range]
        have nl : l ≠ p := ne_of_none hl2 hp
        have hl3 : upd H2 p (.tup [V.int (16 * (0 + (j : Int)) + 8), V.int (16 * (i : Int) + 8)]) l = some (.lst (ts.map V.ref)) := by rw [upd_ne nl]; exact hl2
        refine ⟨l, _, _, rfl, rfl, hl3, by rw [List.length_map, hlen, sizeLine_eq]; omega, some (V.int (0 + (j : Int))), ts ++ [p], rfl, by rw [upd_same, List.map_append]; rfl, ?_, ?_⟩
        · show Sel _ (ts ++ [p]) (List.range (30 * i + j + 1))
          rw [List.range_succ]
          refine S2.snoc ((TupK.of (same_new hp)).trans (TupK.lst hl3)) ?_
          rw [upd_ne (Ne.symm nl), upd_same]
          have e1 : (30 * i + j) % 30 = j := by omega
          have e2 : (30 * i + j) / 30 = i := by omega
          show some (HO.tup [V.int (16 * (0 + (j : Int)) + 8), V.int (16 * (i : Int) + 8)]) = some (HO.tup [V.int (16 * (((30 * i + j) % 30 : Nat) : Int) + 8), V.int (16 * (((30 * i + j) / 30 : Nat) : Int) + 8)])
          rw [e1, e2, Int.zero_add]
        · intro b o e
          have e3 := s2 b o e
          rw [upd_ne (fun z => by rw [z, hl] at e; cases e), upd_ne (ne_of_none e3 hp)]
          exact e3
      · rintro σ H2 ⟨xv, ts, rfl, hl2, S2, s2⟩
        exact ⟨_, _, ts, rfl, hl2, S2, s2⟩
    · rintro σ H1 ⟨yv, xv, ts, rfl, hl1, S1, s1⟩
      refine ⟨_, rfl, ?_⟩
      exact k H1 l ts s1 hl hl1 S1

def spOP : Sp := fun vs H Q _ => ∃ (p r : Int), vs = [.int p, .int r] ∧ Q (.bl (openPoint (p, r))) H
theorem scOP : FnScope ["p", "r"] ["p", "r"] (defScope sOP) := ⟨rfl, rfl, rfl, by decide +kernel, rfl, by decide +kernel, by decide +kernel⟩
theorem ok_op {fd : FuncData} (F : Fun K "is_open_point" "is_open_point" sOP fOP fd) : FnOk P w K mg base (CXx P w) 1 fOP fd ["p", "r"] spOP := by
  refine F.okX scOP (fun vs H Q E h => ?_) (fun cdv A outer s H vs Q E hr h => ?_)
  · obtain ⟨p, r, rfl, _⟩ := h
    rfl
  · obtain ⟨p, r, rfl, k⟩ := h
    refine ⟨_, pss_one (ps_ret (pe_and (pe_cmpR op_ge (pv 1) pe_int (nomark _)) (pe_one (pe_not (pe_and (pe_cmpR op_lt (pv 0) pe_int (nomark _)) (pe_one (pe_cmpR op_lt (pv 1) pe_int (nomark _)))))))), ?_⟩
    refine ⟨_, rfl, _, _, rfl, rfl, _, rfl, ?_⟩
    unfold openPoint at k
    by_cases h1 : (96 : Int) ≤ r
    · refine iteP (decide_eq_true h1) ?_
      refine ⟨_, rfl, _, _, rfl, rfl, _, rfl, ?_⟩
      by_cases h2 : p < 160
      · refine iteP (decide_eq_true h2) ?_
        refine ⟨_, rfl, _, _, rfl, rfl, _, rfl, ?_⟩
        simpa [h1, h2] using k
      · refine iteN (by rw [decide_eq_false h2]; exact Bool.false_ne_true) ?_
        refine ⟨_, rfl, ?_⟩
        simpa [h1, h2] using k
    · refine iteN (by rw [decide_eq_false h1]; exact Bool.false_ne_true) ?_
      simpa [h1] using k

def spPA : Sp := fun vs H Q _ => ∃ (a b : Addr) (x y : List Nat), vs = [.ref a, .ref b] ∧ H a = some (.lst (x.map vn)) ∧ H b = some (.lst (y.map vn)) ∧ x.length = 1080 ∧ y.length = 1080 ∧
  ∀ (H' : Hp) (l : Addr) (ts : List Addr), Same H H' → H' l = some (.lst (ts.map V.ref)) → Sel H' ts (dif x y 1080) → Q (.ref l) H'
theorem scPA : FnScope ["one", "other", "point", "mine", "yours"] ["one", "other"] (defScope sPA) := ⟨rfl, rfl, rfl, by decide +kernel, rfl, by decide +kernel, by decide +kernel⟩
theorem ok_pa {fdD fd : FuncData} (F : Fun K "points_apart" "points_apart" sPA fPA fd) (W : TE5 K mg fDP fOP fPA fDO) (GD : FnOk P w K mg base (CXx P w) 1 fDP fdD [] spDP) (bD : Binds K fdD [] []) (kD : PySem.W.keepIn K (.ref fDP) = true) :
    FnOk P w K mg base (CXx P w) 2 fPA fd ["one", "other"] spPA := by
  refine F.okX scPA (fun vs H Q E h => ?_) (fun cdv A outer s H vs Q E hr h => ?_)
  · obtain ⟨a, b, x, y, rfl, _⟩ := h
    rfl
  · obtain ⟨a, b, x, y, rfl, ha, hb, lx, ly, k⟩ := h
    refine ⟨_, pss_one (ps_ret (pe_lc (own := [("point", 2), ("mine", 3), ("yours", 4)]) (g := gTup K 3 (gCons (gName 2) (gCons (gName 3) (gCons (gName 4) gNil)))) rfl scPA.nd (pi_zip3 rfl W.zip (pa_cons (pe_call0 GD hr rfl W.mDP kD bD .nil passN) (pa_cons (pv 0) (pa_cons (pv 1) pa_nil)))) (blkOk_by (by kernel_rfl))
      (fun _ _ _ _ _ => pg_tup (n := 3) rfl (pgs_cons (pg_name (i := 2) scPA.nd rfl (Or.inl rfl) (.inr rfl)) (pgs_cons (pg_name (i := 3) scPA.nd rfl (Or.inl rfl) (.inr rfl)) (pgs_cons (pg_name (i := 4) scPA.nd rfl (Or.inl rfl) (.inr rfl)) pgs_nil))))
      (fun _ _ _ _ _ => pts_one (pt_cmpR op_ne (pv 3) (pv 4) (nomark _))) (fun _ _ _ _ _ => pv 2))), ?_⟩
    refine ⟨rfl, fun H1 l0 ts s1 hl0 hl1 S1 => ?_⟩
    have hlen : ts.length = 1080 := by rw [S1.1, List.length_range]
    refine ⟨_, rfl, _, rfl, l0, a, b, _, _, _, rfl, SqL.of hl1, SqL.of (s1 _ _ ha), SqL.of (s1 _ _ hb), fun D hD => lc_zip3 (K := K) (a := l0) (b := a) (c := b) (xs := ts.map V.ref) (ys := x.map vn) (zs := y.map vn) 1080 (by rw [List.length_map]; exact hlen) (by rw [List.length_map]; exact lx) (by rw [List.length_map]; exact ly)
      (fun i H' => ∃ us : List Addr, H' D = some (.lst (us.map V.ref)) ∧ Sel H' us (dif x y i) ∧ Same H1 H') ⟨[], upd_same, Sel.nil _, same_new hD⟩ (fun i H' _ z => ?_) ?_ ?_⟩
    · obtain ⟨us, z1, z2, z3⟩ := z
      exact ⟨SqL.of (z3 _ _ hl1), SqL.of (z3 _ _ (s1 _ _ ha)), SqL.of (z3 _ _ (s1 _ _ hb))⟩
    · rintro i X Y Z T H2 hX hY hZ hT ⟨us, hD2, S2, s2⟩
      rw [List.getElem?_map, Option.map_eq_some_iff] at hX hY hZ
      obtain ⟨t, ht, rfl⟩ := hX
      obtain ⟨m, hm, rfl⟩ := hY
      obtain ⟨n, hn, rfl⟩ := hZ
      refine ⟨T, _, rfl, SqT.of upd_same, rfl, _, _, rfl, _, _, rfl, _, _, rfl, rfl, rfl, ?_⟩
      refine ⟨_, rfl, _, rfl, rfl, _, rfl, ?_⟩
      have nD : D ≠ T := ne_of_none hD2 hT
      have sT : Same H2 (upd H2 T (.tup [V.ref t, vn m, vn n])) := same_new hT
      have tt : H2 t = some (.tup (ptV i)) := s2 _ _ (S1.2 i t i ht (by
        have hi : i < ts.length := (List.getElem?_eq_some_iff.mp ht).1
        rw [hlen] at hi
        rw [List.getElem?_range hi]))
      by_cases hmn : m = n
      · refine iteN (by simp [hmn]) ?_
        refine ⟨us, sT _ _ hD2, ?_, fun b o e => sT _ _ (s2 _ _ e)⟩
        rw [dif_succ, if_pos (by rw [hm, hn, hmn]), List.append_nil]
        exact S2.keep (TupK.of sT)
      · refine iteP (by simp only [Bool.not_eq_true', decide_eq_false_iff_not]; intro z; injection z with z; exact hmn (by omega)) ?_
        have hD3 : upd H2 T (.tup [V.ref t, vn m, vn n]) D = some (.lst (us.map V.ref)) := sT _ _ hD2
        have hle : us.length ≤ 1080 := by
          rw [S2.1]
          refine Nat.le_trans (dif_le x y i) ?_
          have hi : i < ts.length := (List.getElem?_eq_some_iff.mp ht).1
          omega
        refine ⟨_, rfl, _, hD3, by rw [List.length_map, sizeLine_eq]; omega, us ++ [t], by rw [upd_same, List.map_append]; rfl, ?_, fun b o e => ?_⟩
        · rw [dif_succ, if_neg (by rw [hm, hn]; intro z; injection z with z; exact hmn z)]
          refine S2.snoc ((TupK.of sT).trans (TupK.lst hD3)) ?_
          have nt : t ≠ D := fun z => by rw [z, hD2] at tt; cases tt
          rw [upd_ne nt]
          exact sT _ _ tt
        · rw [upd_ne (fun z => by rw [z, hD] at e; cases e)]
          exact sT _ _ (s2 _ _ e)
    · rintro H2 ⟨us, hD2, S2, s2⟩
      exact k H2 D us (fun b o e => s2 _ _ (s1 _ _ e)) hD2 S2

def spDO : Sp := fun vs H Q _ => ∃ (a b : Addr) (x y : List Nat), vs = [.ref a, .ref b] ∧ H a = some (.lst (x.map vn)) ∧ H b = some (.lst (y.map vn)) ∧ x.length = 1080 ∧ y.length = 1080 ∧
  ∀ H', Same H H' → Q (vn ((dif x y 1080).filter fun i => openPoint (pt i)).length) H'
theorem scDO : FnScope ["one", "other", "p", "r"] ["one", "other"] (defScope sDO) := ⟨rfl, rfl, rfl, by decide +kernel, rfl, by decide +kernel, by decide +kernel⟩
theorem ok_do {fdA fdO fd : FuncData} (F : Fun K "distance_at_open_points" "distance_at_open_points" sDO fDO fd) (T : TR K mg CE NE fE CR fR fTk fTr fTo fTe) (W : TE5 K mg fDP fOP fPA fDO) (GA : FnOk P w K mg base (CXx P w) 2 fPA fdA ["one", "other"] spPA) (bA : Binds K fdA ["one", "other"] []) (kA : PySem.W.keepIn K (.ref fPA) = true)
    (GO : FnOk P w K mg base (CXx P w) 1 fOP fdO ["p", "r"] spOP) (bO : Binds K fdO ["p", "r"] []) (kO : PySem.W.keepIn K (.ref fOP) = true) : FnOk P w K mg base (CXx P w) 3 fDO fd ["one", "other"] spDO := by
  refine F.okX scDO (fun vs H Q E h => ?_) (fun cdv A outer s H vs Q E hr h => ?_)
  · obtain ⟨a, b, x, y, rfl, _⟩ := h
    rfl
  · obtain ⟨a, b, x, y, rfl, ha, hb, lx, ly, k⟩ := h
    have hr1 : Room 1 _ := hr.mono (by decide)
    refine ⟨_, pss_one (ps_ret (pe_callB call_len_seq (by rfl) T.len PySem.boot_len (pa_cons (pe_lc (own := [("p", 2), ("r", 3)]) (g := gTup K 2 (gCons (gName 2) (gCons (gName 3) gNil))) rfl scDO.nd (pi_list (pe_call GA hr rfl W.mPA kA bA .nil passN (pa_cons (pv 0) (pa_cons (pv 1) pa_nil)))) (blkOk_by (by kernel_rfl))
      (fun _ _ _ _ _ => pg_tup (n := 2) rfl (pgs_cons (pg_name (i := 2) scDO.nd rfl (Or.inl rfl) (.inr rfl)) (pgs_cons (pg_name (i := 3) scDO.nd rfl (Or.inl rfl) (.inr rfl)) pgs_nil)))
      (fun _ _ _ _ _ => pts_one (pt_val (pe_call GO hr1 rfl W.mOP kO bO .nil passN (pa_cons (pv 2) (pa_cons (pv 3) pa_nil))))) (fun _ _ _ _ _ => pv 2)) pa_nil))), ?_⟩
    refine ⟨_, rfl, _, rfl, a, b, x, y, rfl, ha, hb, lx, ly, fun H1 l ts s1 hl S1 => ?_⟩
    have hlen : ts.length = (dif x y 1080).length := S1.1
    have hle := dif_le x y 1080
    refine ⟨l, rfl, ⟨_, SqL.of hl⟩, fun D hD => lc_list (K := K) (a := l) (xs := ts.map V.ref) (fun i H' => ∃ zs : List V, H' D = some (.lst zs) ∧ zs.length = (((dif x y 1080).take i).filter fun i => openPoint (pt i)).length ∧ Same H1 H') ⟨[], upd_same, rfl, same_new hD⟩ (fun i H' _ z => ?_) ?_ ?_⟩
    · obtain ⟨zs, z1, z2, z3⟩ := z
      exact SqL.of (z3 _ _ hl)
    · rintro i X H2 hX ⟨zs, hD2, hz, s2⟩
      rw [List.getElem?_map, Option.map_eq_some_iff] at hX
      obtain ⟨t, ht, rfl⟩ := hX
      have hi : i < ts.length := (List.getElem?_eq_some_iff.mp ht).1
      obtain ⟨j, hj⟩ : ∃ j, (dif x y 1080)[i]? = some j := ⟨_, List.getElem?_eq_getElem (by omega)⟩
      have tt : H2 t = some (.tup (ptV j)) := s2 _ _ (S1.2 i t j ht hj)
      have et : (dif x y 1080).take (i + 1) = (dif x y 1080).take i ++ [j] := by rw [List.take_succ, hj]; rfl
      refine ⟨t, _, rfl, SqT.of tt, rfl, _, _, rfl, _, _, rfl, rfl, rfl, ?_⟩
      refine ⟨_, rfl, _, rfl, (pt j).1, (pt j).2, rfl, _, rfl, ?_⟩
      by_cases ho : openPoint (pt j) = true
      · refine iteP ho ?_
        have hl2 : zs.length ≤ 1080 := by
          rw [hz]
          exact Nat.le_trans (List.length_filter_le _ _) (Nat.le_trans (List.length_take_le' _ _) hle)
        refine ⟨_, rfl, zs, hD2, by rw [sizeLine_eq]; omega, _, upd_same, ?_, fun b o e => ?_⟩
        · rw [et, List.filter_append, List.length_append, List.length_append, hz, List.filter_cons_of_pos (p := fun i => openPoint (pt i)) ho]
          rfl
        · rw [upd_ne (fun z => by rw [z, hD] at e; cases e)]
          exact s2 _ _ e
      · refine iteN ho ?_
        refine ⟨zs, hD2, ?_, s2⟩
        rw [et, List.filter_append, List.length_append, hz, List.filter_cons_of_neg (p := fun i => openPoint (pt i)) ho]
        rfl
    · rintro H2 ⟨zs, hD2, hz, s2⟩
      refine ⟨D, zs, rfl, .inl (SqL.of hD2), ?_⟩
      rw [List.length_map, hlen, List.take_length] at hz
      rw [hz]
      exact k H2 fun b o e => s2 _ _ (s1 _ _ e)
end
def NoP (C : Addr) (E : XK) (z : Int) (n : Nat) : Prop := ∀ d H', H' d = some (.xd [("place", .int n), ("number", .int z)]) → E (.ref C) (some d) H'
def spNI (C : Addr) : Sp := fun vs H Q _ => ∃ (x : Addr) (z n : Int), vs = [.ref x, .int z, .int n] ∧ H x = some (xn x C none) ∧ ∀ d H', H' x = some (xn x C (some d)) → H' d = some (.xd [("place", .int n), ("number", .int z)]) → (∀ b o, b ≠ x → H b = some o → H' b = some o) → Q .non H'
structure TN (K : PySem.W.Frag) (mg : Str → Option Value) (CN NN fN fPr : Addr) : Prop where
  xc : XCls K CN NN fN
  nx : PySem.W.nsIn K NN "place" = some none
  nz : PySem.W.nsIn K NN "number" = some none
  mgN : mg "NoPair" = some (.ref CN)
  m1 : ∃ t, mg "NO_DRAWING" = some (.int (-1) t)
  m3 : ∃ t, mg "OTHER_NO_DRAWING" = some (.int (-3) t)
  mPr : mg "read_pair" = some (.ref fPr)
section
variable {P : Program} {w : World} {K : PySem.W.Frag} {mg : Str → Option Value} {base : Heap} {CE NE fE CR fR fTk fTr fTo fTe aM fRR fRD fDP fOP fPA fDO CN NN fN fPr : Addr}
theorem ty_number : typeLookup (.type "ValueError") "number" = pure none := by rw [typeLookup_type, builtinLookup_eq_fast]; first | rfl | kernel_rfl
theorem scNI : FnScope ["self", "number", "place"] ["self", "number", "place"] (defScope sNI) := ⟨rfl, rfl, rfl, by decide +kernel, rfl, by decide +kernel, by decide +kernel⟩
theorem ok_ni {fd : FuncData} (F : Fun K "__init__" "NoPair.__init__" sNI fN fd) (T : TR K mg CE NE fE CR fR fTk fTr fTo fTe) (N : TN K mg CN NN fN fPr) : FnH P w K mg base fN fd ["self", "number", "place"] (spNI CN) := by
  refine F.okH scNI (fun vs H Q E h => ?_) (fun cdv A outer s H vs Q h => ?_)
  · obtain ⟨x, z, n, rfl, _⟩ := h
    rfl
  · obtain ⟨x, z, n, rfl, hx, k⟩ := h
    refine ⟨_, pss_cons (ps_expr (pe_xinit rfl T.ve (pa_cons (pv 0) (pa_cons (pv 1) (pa_cons (pv 2) pa_nil))))) (pss_cons (ps_xfld (pv 0) (pv 1) ty_number rfl) (pss_one (ps_xfld2 (f1 := "number") (pv 0) (pv 2) ty_place (by decide +kernel) rfl))), ?_⟩
    refine ⟨_, rfl, _, rfl, _, rfl, x, CN, NN, fN, none, _, rfl, (by show 2 ≤ 1000; decide), hx, N.xc, _, rfl, _, rfl, x, CN, NN, fN, rfl, hx, N.xc, N.nz, fun d hd => ?_⟩
    have nxd : x ≠ d := ne_of_none hx hd
    refine ⟨_, rfl, _, rfl, x, CN, NN, fN, d, _, rfl, by rw [upd_ne nxd, upd_same], upd_same, N.xc, N.nx, ?_⟩
    refine k d _ (by rw [upd_ne nxd, upd_ne nxd, upd_same]) upd_same (fun b o nb e => ?_)
    have nbd : b ≠ d := ne_of_none e hd
    rw [upd_ne nbd, upd_ne nbd, upd_ne nb]
    exact e
def tRN (K : PySem.W.Frag) (CN : Addr) (z : Int) (i : Nat) (E : XK) (x : Addr) : TS := tRaiseF CN x (spNI CN) E (tCons (tC (.int z)) (tCons (tXGet K (tVar i) "place") tNil))
theorem raise_no {E : XK} {n : Nat} {z : Int} {i m : Nat} (hi : i < m) (T : TR K mg CE NE fE CR fR fTk fTr fTo fTe) (hN : NoP CN E z n) : Wrong CE (ETryR CE i m (tRN K CN z i E)) n := by
  intro d H' hd
  refine ⟨rfl, d, _, rfl, hd, rfl, fun x hx => ?_⟩
  refine ⟨V.ref x, ?_, x, CE, NE, fE, d, true, _, _, rfl, hx, T.xc, T.nx, hd, look1 _ _, (by show 2 ≤ 1000; decide), ⟨_, hx⟩, fun y hy => ?_⟩
  · rw [List.getElem?_set_self (by rw [List.length_replicate]; exact hi)]
  · refine ⟨y, z, n, rfl, upd_same, fun d2 H2 h1 h2 h3 => ⟨rfl, d2, h1, ⟨CE, d, ?_⟩, ⟨_, .int z, h2, ?_⟩, ?_⟩⟩
    · have nxy : x ≠ y := ne_of_none hx hy
      exact h3 x _ nxy (by rw [upd_ne nxy]; exact hx)
    · rfl
    · exact hN d2 _ (by rw [upd_ne (ne_of h2 h1 (by intro z; cases z))]; exact h2)
def spPr (K : PySem.W.Frag) (CN : Addr) : Sp := fun vs H Q E => ∃ (a b : Addr) (ns ms : List Int), vs = [.ref a, .ref b] ∧ Byts ns ∧ Byts ms ∧ SqF K H a (ns.map V.int) ∧ SqF K H b (ms.map V.int) ∧
  match readDrawing (byt ns) with
  | .error p => NoP CN E (-1) p
  | .ok x => match readDrawing (byt ms) with
    | .error p => NoP CN E (-3) p
    | .ok y => ∀ (H' : Hp) (l m t : Addr), H' l = some (.lst (x.flatten.map vn)) → H' m = some (.lst (y.flatten.map vn)) → H' t = some (.tup [.ref l, .ref m]) → Q (.ref t) H'
def tryH2 (s : List Stmt) (i : Nat) : List Stmt := match s.getD i (.Pass ⟨0, 0, 0, 0⟩) with
  | .Try _ [.ExceptHandler _ _ b _] _ _ _ => b
  | _ => []
theorem scPr : FnScope ["d", "e", "one", "other", "fault"] ["d", "e"] (defScope sPr) := ⟨rfl, rfl, rfl, by decide +kernel, rfl, by decide +kernel, by decide +kernel⟩
theorem ok_pr {fdD fdN fd : FuncData} (F : Fun K "read_pair" "read_pair" sPr fPr fd) (T : TR K mg CE NE fE CR fR fTk fTr fTo fTe) (U : TD K mg aM fRR fRD) (N : TN K mg CN NN fN fPr)
    (GD : FnOk P w K mg base (CXx P w) 7 fRD fdD ["data"] (spRD K CE)) (bD : Binds K fdD ["data"] []) (kD : PySem.W.keepIn K (.ref fRD) = true) (GN : FnH P w K mg base fN fdN ["self", "number", "place"] (spNI CN)) (bN : Binds K fdN ["self", "number", "place"] []) :
    FnOk P w K mg base (CXx P w) 8 fPr fd ["d", "e"] (spPr K CN) := by
  refine F.okX scPr (fun vs H Q E h => ?_) (fun cdv A outer s H vs Q E hr h => ?_)
  · obtain ⟨a, b, ns, ms, rfl, _⟩ := h
    rfl
  · obtain ⟨a, b, ns, ms, rfl, hbn, hbm, hSa, hSb, k⟩ := h
    obtain ⟨t1, h1⟩ := N.m1
    obtain ⟨t3, h3⟩ := N.m3
    have hdp : (A.deeper (envOfC "read_pair" (defScope sPr) s.heap.objs.size fPr cdv)).depth + 1 < recursionLimit := by have := hr.dp; omega
    have hS1 : ∀ z E', Flies ((cxOf (CXx P w) P w K mg base ["d", "e", "one", "other", "fault"] "read_pair" (defScope sPr) fPr cdv A outer s H E).handR z E') E →
        PSs ((cxOf (CXx P w) P w K mg base ["d", "e", "one", "other", "fault"] "read_pair" (defScope sPr) fPr cdv A outer s H E).handR z E') (tryH2 (defBody sPr) 0) (tRN K CN (-1) 4 E z) := fun z E' fl =>
      pss_one (ps_raiseF (z := z) N.xc GN rfl hdp rfl N.mgN bN rfl fl (pa_cons (pe_glob (v := .int (-1)) rfl h1 ⟨t1, rfl⟩) (pa_cons (pe_xget (pv 4) ty_place rfl) pa_nil)))
    have hS3 : ∀ z E', Flies ((cxOf (CXx P w) P w K mg base ["d", "e", "one", "other", "fault"] "read_pair" (defScope sPr) fPr cdv A outer s H E).handR z E') E →
        PSs ((cxOf (CXx P w) P w K mg base ["d", "e", "one", "other", "fault"] "read_pair" (defScope sPr) fPr cdv A outer s H E).handR z E') (tryH2 (defBody sPr) 1) (tRN K CN (-3) 4 E z) := fun z E' fl =>
      pss_one (ps_raiseF (z := z) N.xc GN rfl hdp rfl N.mgN bN rfl fl (pa_cons (pe_glob (v := .int (-3)) rfl h3 ⟨t3, rfl⟩) (pa_cons (pe_xget (pv 4) ty_place rfl) pa_nil)))
    refine ⟨_, pss_cons (ps_tryR (i := 4) (n := "fault") T.xc rfl rfl rfl rfl T.mgE scPr.nd rfl rfl fliesF hS1
        (fun pins D fl => pss_one (ps_set (i := 2) scPr.nd rfl (Or.inl rfl) (pe_call GD hr rfl U.mRD kD bD .nil (passX rfl fl) (pa_cons (pv 0) pa_nil)))))
      (pss_cons (ps_tryR (i := 4) (n := "fault") T.xc rfl rfl rfl rfl T.mgE scPr.nd rfl rfl fliesF hS3
        (fun pins D fl => pss_one (ps_set (i := 3) scPr.nd rfl (Or.inl rfl) (pe_call GD hr rfl U.mRD kD bD .nil (passX rfl fl) (pa_cons (pv 1) pa_nil)))))
      (pss_one (ps_ret (pe_tup (pa_cons (pv 2) (pa_cons (pv 3) pa_nil)))))), ?_⟩
    refine ⟨_, rfl, a, ns, rfl, hbn, hSa, ?_⟩
    cases e : readDrawing (byt ns) with
    | error p =>
      rw [e] at k
      exact raise_no (by show 4 < 5; decide) T k
    | ok x =>
      rw [e] at k
      intro H1 l s1 hl hl1
      refine ⟨_, rfl, b, ms, rfl, hbm, hSb.keep (fun o u z => s1 _ _ z), ?_⟩
      cases e2 : readDrawing (byt ms) with
      | error p =>
        rw [e2] at k
        exact raise_no (by show 4 < 5; decide) T k
      | ok y =>
        rw [e2] at k
        intro H2 m s2 hm hm2
        refine ⟨_, rfl, _, rfl, (by show 2 ≤ sizeLine; rw [sizeLine_eq]; omega), fun t ht => ?_⟩
        have hl2 := s2 _ _ hl1
        exact k _ l m t (by rw [upd_ne (ne_of_none hl2 ht)]; exact hl2) (by rw [upd_ne (ne_of_none hm2 ht)]; exact hm2) upd_same

def tHN (K : PySem.W.Frag) (i : Nat) : TS := tRet (tLst (tCons (tXGet K (tVar i) "number") (tCons (tXGet K (tVar i) "place") tNil)))
theorem tell_no {z : Int} {n i m : Nat} {D : Ends} (hi : i < m) (N : TN K mg CN NN fN fPr) (k : ∀ (H' : Hp) (p : Addr), H' p = some (.lst [.int z, .int n]) → D.rt (.ref p) H') : NoP CN (ETry CN i m (tHN K i) D) z n := by
  intro d H' hd
  refine ⟨rfl, d, rfl, fun x q hx hq => ?_⟩
  have hv : ((List.replicate m (none : Option V)).set i (some (.ref x)))[i]? = some (some (V.ref x)) := List.getElem?_set_self (by rw [List.length_replicate]; exact hi)
  refine ⟨V.ref x, hv, x, CN, NN, fN, d, q, _, .int z, rfl, hx, N.xc, N.nz, hd, rfl, V.ref x, hv, x, CN, NN, fN, d, q, _, .int n, rfl, hx, N.xc, N.nx, hd, rfl, (by show 2 ≤ sizeLine; rw [sizeLine_eq]; omega), fun l hl => ?_⟩
  exact k _ l upd_same
end
section
variable {P : Program} {w : World} {K : PySem.W.Frag} {mg : Str → Option Value} {base : Heap} {CE NE fE CR fR fTk fTr fTo fTe aM fRR fRD fDP fOP fPA fDO CN NN fN fPr fTL : Addr}
def spTL : Sp := fun vs H Q _ => ∃ (a b : Addr) (x y : List Nat), vs = [.ref a, .ref b] ∧ H a = some (.lst (x.map vn)) ∧ H b = some (.lst (y.map vn)) ∧ x.length = 1080 ∧ y.length = 1080 ∧
  ∀ H', Same H H' → Q (.bl (decide ((((dif x y 1080).filter fun i => openPoint (pt i)).length : Int) < 68))) H'
theorem scTL : FnScope ["one", "other"] ["one", "other"] (defScope sTL) := ⟨rfl, rfl, rfl, by decide +kernel, rfl, by decide +kernel, by decide +kernel⟩
theorem ok_tl {fdO fd : FuncData} (F : Fun K "too_like" "too_like" sTL fTL fd) (W : TE5 K mg fDP fOP fPA fDO) (hE : ∃ t, mg "ENOUGH_APART" = some (.int 68 t))
    (GO : FnOk P w K mg base (CXx P w) 3 fDO fdO ["one", "other"] spDO) (bO : Binds K fdO ["one", "other"] []) (kO : PySem.W.keepIn K (.ref fDO) = true) : FnOk P w K mg base (CXx P w) 4 fTL fd ["one", "other"] spTL := by
  refine F.okX scTL (fun vs H Q E h => ?_) (fun cdv A outer s H vs Q E hr h => ?_)
  · obtain ⟨a, b, x, y, rfl, _⟩ := h
    rfl
  · obtain ⟨a, b, x, y, rfl, ha, hb, lx, ly, k⟩ := h
    obtain ⟨tE, hE⟩ := hE
    refine ⟨_, pss_one (ps_ret (pe_cmpR op_lt (pe_call GO hr rfl W.mDO kO bO .nil passN (pa_cons (pv 0) (pa_cons (pv 1) pa_nil))) (pe_glob (v := .int 68) rfl hE ⟨tE, rfl⟩) (nomark _))), ?_⟩
    refine ⟨_, rfl, _, rfl, a, b, x, y, rfl, ha, hb, lx, ly, fun H1 s1 => ?_⟩
    exact ⟨_, _, rfl, rfl, k H1 s1⟩
def spLk (K : PySem.W.Frag) : Sp := fun vs H Q _ => ∃ (a b : Addr) (ns ms : List Int), vs = [.ref a, .ref b] ∧ Byts ns ∧ Byts ms ∧ SqF K H a (ns.map V.int) ∧ SqF K H b (ms.map V.int) ∧ ∀ (H' : Hp) (p : Addr), H' p = some (.lst ((PyWqbabn.like ns ms).map V.int)) → Q (.ref p) H'
def tryH (s : List Stmt) : List Stmt := match s with
  | .Try _ [.ExceptHandler _ _ b _] _ _ _ :: _ => b
  | _ => []
theorem scLk : FnScope ["d", "e", "pair", "fault"] ["d", "e"] (defScope sLk) := ⟨rfl, rfl, rfl, by decide +kernel, rfl, by decide +kernel, by decide +kernel⟩
theorem ok_lk {f : Addr} {fdP fdT fd : FuncData} (F : Fun K "like" "like" sLk f fd) (N : TN K mg CN NN fN fPr) (mTL : mg "too_like" = some (.ref fTL))
    (GP : FnOk P w K mg base (CXx P w) 8 fPr fdP ["d", "e"] (spPr K CN)) (bP : Binds K fdP ["d", "e"] []) (kP : PySem.W.keepIn K (.ref fPr) = true)
    (GT : FnOk P w K mg base (CXx P w) 4 fTL fdT ["one", "other"] spTL) (bT : Binds K fdT ["one", "other"] []) (kT : PySem.W.keepIn K (.ref fTL) = true) : FnOk P w K mg base (CXx P w) 9 f fd ["d", "e"] (spLk K) := by
  refine F.okX scLk (fun vs H Q E h => ?_) (fun cdv A outer s H vs Q E hr h => ?_)
  · obtain ⟨a, b, ns, ms, rfl, _⟩ := h
    rfl
  · obtain ⟨a, b, ns, ms, rfl, hbn, hbm, hSa, hSb, k⟩ := h
    have hr4 : Room 4 _ := hr.mono (by decide)
    have hS1 : ∀ x, PSs ((cxOf (CXx P w) P w K mg base ["d", "e", "pair", "fault"] "like" (defScope sLk) f cdv A outer s H E).hand x) (tryH (defBody sLk)) (tHN K 3) := fun x =>
      pss_one (ps_ret (pe_lst (pa_cons (pe_xget (pv 3) ty_number rfl) (pa_cons (pe_xget (pv 3) ty_place rfl) pa_nil))))
    refine ⟨_, pss_cons (ps_try (i := 3) (n := "fault") N.xc rfl rfl rfl N.mgN scLk.nd rfl rfl hS1
        (fun pins D fl => pss_one (ps_set (i := 2) scLk.nd rfl (Or.inl rfl) (pe_call GP hr rfl N.mPr kP bP .nil (passX rfl fl) (pa_cons (pv 0) (pa_cons (pv 1) pa_nil))))))
      (pss_cons (ps_if (pt_val (pe_call GT hr4 rfl mTL kT bT .nil passN (pa_cons (pe_ix ix_tup (pv 2) pe_int (fun _ _ => rfl)) (pa_cons (pe_ix ix_tup (pv 2) pe_int (fun _ _ => rfl)) pa_nil)))) (pss_one (ps_ret (pe_lst (pa_cons pe_int pa_nil)))) pss_nil)
      (pss_one (ps_ret (pe_lst (pa_cons pe_int pa_nil))))), ?_⟩
    rw [like_eq hbn hbm] at k
    unfold two at k
    refine ⟨_, rfl, _, rfl, a, b, ns, ms, rfl, hbn, hbm, hSa, hSb, ?_⟩
    cases e : readDrawing (byt ns) with
    | error p =>
      rw [e] at k
      exact tell_no (by show 3 < 4; decide) N fun H' q hq => k H' q hq
    | ok x =>
      rw [e] at k
      dsimp only at k ⊢
      cases e2 : readDrawing (byt ms) with
      | error p =>
        rw [e2] at k
        exact tell_no (by show 3 < 4; decide) N fun H' q hq => k H' q hq
      | ok y =>
        rw [e2] at k
        dsimp only at k ⊢
        have lx := draw_len e
        have ly := draw_len e2
        intro H1 l m t hl hm ht
        rw [apart_open lx ly] at k
        refine ⟨_, rfl, t, _, _, _, rfl, rfl, SqT.of ht, at_of (j := 0) (v := V.ref l) rfl rfl, _, rfl, t, _, _, _, rfl, rfl, SqT.of ht, at_of (j := 1) (v := V.ref m) rfl rfl, l, m, _, _, rfl, hl, hm, lx, ly, fun H2 s2 => ⟨_, rfl, ?_⟩⟩
        by_cases h1 : ((dif x.flatten y.flatten 1080).filter fun i => openPoint (pt i)).length < 68
        · refine iteP (decide_eq_true (by omega)) ?_
          refine ⟨(by show 1 ≤ sizeLine; rw [sizeLine_eq]; omega), fun p hp => ?_⟩
          refine k _ p ?_
          rw [upd_same, if_pos h1]
          rfl
        · refine iteN (by exact fun z => h1 (by have := of_decide_eq_true z; omega)) ?_
          refine ⟨(by show 1 ≤ sizeLine; rw [sizeLine_eq]; omega), fun p hp => ?_⟩
          refine k _ p ?_
          rw [upd_same, if_neg h1]
          rfl
end
theorem sqt_of {K : PySem.W.Frag} {aM : Addr} {od : Option Addr} {t0 t1 t2 t3 : Tok} {n : Nat} {sl : Array (Option Value)} (l : K.lookup aM = some ⟨.type "tuple", od, .seq #[.int 83 t0, .int 72 t1, .int 68 t2, .int 49 t3] n, sl⟩) :
    ∀ H, SqT K H aM [.int 83, .int 72, .int 68, .int 49] := fun H =>
  .inr ⟨_, #[.int 83 t0, .int 72 t1, .int 68 t2, .int 49 t3], _, l, rfl, rfl, (by show 4 ≤ sizeLine; rw [sizeLine_eq]; omega), .cons ⟨t0, rfl⟩ (.cons ⟨t1, rfl⟩ (.cons ⟨t2, rfl⟩ (.cons ⟨t3, rfl⟩ .nil)))⟩
theorem ar1 {us : List Value} (h : us.length = 1) : ∃ a0, us = [a0] := match us, h with | [a0], _ => ⟨a0, rfl⟩
theorem ar2 {us : List Value} (h : us.length = 2) : ∃ a0 a1, us = [a0, a1] := match us, h with | [a0, a1], _ => ⟨a0, a1, rfl⟩
theorem ar3 {us : List Value} (h : us.length = 3) : ∃ a0 a1 a2, us = [a0, a1, a2] := match us, h with | [a0, a1, a2], _ => ⟨a0, a1, a2, rfl⟩
theorem all_mk {P : Program} {w : World} {K : PySem.W.Frag} {h : Heap} {mg : Str → Option Value} {fa CE CN CR NE NN aM fDO fDP fE fLk fN fOP fPA fPr fR fRD fRR fTL fTe fTk fTo fTr : Addr} (X : K.In h) (G : h.Ns mainGlobals mg) (hfa : mg "like" = some (.ref fa))
    {CEnm CEqn : Str} {CEbs CEsub : List Value} {CEsn : List Str} {CEab : Bool} {CEcol : Option Bool} {CEdd : Option Addr} {CEk0 CEk1 CEk2 CEk3 CEk5 : Option Value} {NEoc : Value} {NEod : Option Addr} {NEes : Array DictEntry} {NEen : Nat} {NEsl : Array (Option Value)} {CNnm CNqn : Str} {CNbs CNsub : List Value} {CNsn : List Str} {CNab : Bool} {CNcol : Option Bool} {CNdd : Option Addr} {CNk0 CNk1 CNk2 CNk3 CNk5 : Option Value} {NNoc : Value} {NNod : Option Addr} {NNes : Array DictEntry} {NNen : Nat} {NNsl : Array (Option Value)} {fEod fEan : Option Addr} {fEsl : Array (Option Value)} {fEoc fEkV fEdc fEpm fEcd fEct : Value} {fRod fRan : Option Addr} {fRsl : Array (Option Value)} {fRoc fRkV fRdc fRpm fRcd fRct : Value} {fTkod fTkan : Option Addr} {fTksl : Array (Option Value)} {fTkoc fTkkV fTkdc fTkpm fTkcd fTkct : Value} {fTrod fTran : Option Addr} {fTrsl : Array (Option Value)} {fTroc fTrkV fTrdc fTrpm fTrcd fTrct : Value} {fTood fToan : Option Addr} {fTosl : Array (Option Value)} {fTooc fTokV fTodc fTopm fTocd fToct : Value} {fTeod fTean : Option Addr} {fTesl : Array (Option Value)} {fTeoc fTekV fTedc fTepm fTecd fTect : Value} {fDPod fDPan : Option Addr} {fDPsl : Array (Option Value)} {fDPoc fDPkV fDPdc fDPpm fDPcd fDPct : Value} {fOPod fOPan : Option Addr} {fOPsl : Array (Option Value)} {fOPoc fOPkV fOPdc fOPpm fOPcd fOPct : Value} {fPAod fPAan : Option Addr} {fPAsl : Array (Option Value)} {fPAoc fPAkV fPAdc fPApm fPAcd fPAct : Value} {fDOod fDOan : Option Addr} {fDOsl : Array (Option Value)} {fDOoc fDOkV fDOdc fDOpm fDOcd fDOct : Value} {fRRod fRRan : Option Addr} {fRRsl : Array (Option Value)} {fRRoc fRRkV fRRdc fRRpm fRRcd fRRct : Value} {fRDod fRDan : Option Addr} {fRDsl : Array (Option Value)} {fRDoc fRDkV fRDdc fRDpm fRDcd fRDct : Value} {fNod fNan : Option Addr} {fNsl : Array (Option Value)} {fNoc fNkV fNdc fNpm fNcd fNct : Value} {fProd fPran : Option Addr} {fPrsl : Array (Option Value)} {fProc fPrkV fPrdc fPrpm fPrcd fPrct : Value} {fTLod fTLan : Option Addr} {fTLsl : Array (Option Value)} {fTLoc fTLkV fTLdc fTLpm fTLcd fTLct : Value} {fLkod fLkan : Option Addr} {fLksl : Array (Option Value)} {fLkoc fLkkV fLkdc fLkpm fLkcd fLkct : Value} {t9t : Tok} {colst : Tok} {rowst : Tok} {stpt : Tok} {mrgt : Tok} {nodt : Tok} {ondt : Tok} {enat : Tok} {aMod : Option Addr} {aM0 aM1 aM2 aM3 : Tok} {aMn : Nat} {aMsl : Array (Option Value)}
    (aCE : PySem.W.nsIn K mainGlobals "WrongByte" = some (some (.ref CE)))
    (lCE : K.lookup CE = some (excClassObj CEnm CEqn CE NE CEbs Xc.bmV true CEsn CEsub CEab CEcol CEdd CEk0 CEk1 CEk2 CEk3 CEk5 "ValueError.__new__"))
    (lNE : K.lookup NE = some ⟨NEoc, NEod, .dict NEes NEen, NEsl⟩)
    (oNE : (NEes.toList.all fun e => match e.key with | .str _ _ => true | _ => false) = true)
    (iNE : PySem.W.nsIn K NE "__init__" = some (some (.ref fE)))
    (n0NE : PySem.W.nsIn K NE "__setattr__" = some none)
    (n1NE : PySem.W.nsIn K NE "__getattribute__" = some none)
    (n2NE : PySem.W.nsIn K NE "__getattr__" = some none)
    (n3NE : PySem.W.nsIn K NE "place" = some none)
    (pCE : PySem.W.keepIn K (.ref CE) = true)
    (aCN : PySem.W.nsIn K mainGlobals "NoPair" = some (some (.ref CN)))
    (lCN : K.lookup CN = some (excClassObj CNnm CNqn CN NN CNbs Xc.bmV true CNsn CNsub CNab CNcol CNdd CNk0 CNk1 CNk2 CNk3 CNk5 "ValueError.__new__"))
    (lNN : K.lookup NN = some ⟨NNoc, NNod, .dict NNes NNen, NNsl⟩)
    (oNN : (NNes.toList.all fun e => match e.key with | .str _ _ => true | _ => false) = true)
    (iNN : PySem.W.nsIn K NN "__init__" = some (some (.ref fN)))
    (n0NN : PySem.W.nsIn K NN "__setattr__" = some none)
    (n1NN : PySem.W.nsIn K NN "__getattribute__" = some none)
    (n2NN : PySem.W.nsIn K NN "__getattr__" = some none)
    (n3NN : PySem.W.nsIn K NN "number" = some none)
    (n4NN : PySem.W.nsIn K NN "place" = some none)
    (pCN : PySem.W.keepIn K (.ref CN) = true)
    (aCR : PySem.W.nsIn K mainGlobals "ByteReader" = some (some (.ref CR)))
    (pgCR : PySem.W.plainGet K CR Str.empty = true)
    (hdCR : PySem.W.hasDictIn K CR = true)
    (poCR : PySem.W.plainOver K CR = true)
    (saCR : PySem.W.findIn K (.ref CR) "__setattr__" = some (some (.builtin "object.__setattr__")))
    (mkCR : PySem.W.makesIn K CR = true)
    (kcCR : PySem.W.keepIn K (.ref CR) = true)
    (noCR_data : PySem.W.findIn K (.ref CR) "data" = some none)
    (noCR_place : PySem.W.findIn K (.ref CR) "place" = some none)
    (ifE : PySem.W.isFn K (.ref fE) = true)
    (lfE : K.lookup fE = some ⟨fEoc, fEod, .func (PySem.W.fnOf "__init__" "WrongByte.__init__" (defArgs sXI) (defBody sXI) (defScope sXI) .none fEkV fEdc fEpm fEan fEcd fEct), fEsl⟩)
    (cfE : PySem.W.codeIn K fEcd "WrongByte.__init__" = true)
    (kfE : PySem.W.keepIn K (.ref fE) = true)
    (afR : PySem.W.findIn K (.ref CR) "__init__" = some (some (.ref fR)))
    (ifR : PySem.W.isFn K (.ref fR) = true)
    (lfR : K.lookup fR = some ⟨fRoc, fRod, .func (PySem.W.fnOf "__init__" "ByteReader.__init__" (defArgs sRI) (defBody sRI) (defScope sRI) .none fRkV fRdc fRpm fRan fRcd fRct), fRsl⟩)
    (cfR : PySem.W.codeIn K fRcd "ByteReader.__init__" = true)
    (kfR : PySem.W.keepIn K (.ref fR) = true)
    (afTk : PySem.W.findIn K (.ref CR) "take" = some (some (.ref fTk)))
    (ifTk : PySem.W.isFn K (.ref fTk) = true)
    (lfTk : K.lookup fTk = some ⟨fTkoc, fTkod, .func (PySem.W.fnOf "take" "ByteReader.take" (defArgs sTk) (defBody sTk) (defScope sTk) .none fTkkV fTkdc fTkpm fTkan fTkcd fTkct), fTksl⟩)
    (cfTk : PySem.W.codeIn K fTkcd "ByteReader.take" = true)
    (kfTk : PySem.W.keepIn K (.ref fTk) = true)
    (afTr : PySem.W.findIn K (.ref CR) "take_row" = some (some (.ref fTr)))
    (ifTr : PySem.W.isFn K (.ref fTr) = true)
    (lfTr : K.lookup fTr = some ⟨fTroc, fTrod, .func (PySem.W.fnOf "take_row" "ByteReader.take_row" (defArgs sTr) (defBody sTr) (defScope sTr) .none fTrkV fTrdc fTrpm fTran fTrcd fTrct), fTrsl⟩)
    (cfTr : PySem.W.codeIn K fTrcd "ByteReader.take_row" = true)
    (kfTr : PySem.W.keepIn K (.ref fTr) = true)
    (afTo : PySem.W.findIn K (.ref CR) "take_other_tincture" = some (some (.ref fTo)))
    (ifTo : PySem.W.isFn K (.ref fTo) = true)
    (lfTo : K.lookup fTo = some ⟨fTooc, fTood, .func (PySem.W.fnOf "take_other_tincture" "ByteReader.take_other_tincture" (defArgs sTo) (defBody sTo) (defScope sTo) .none fTokV fTodc fTopm fToan fTocd fToct), fTosl⟩)
    (cfTo : PySem.W.codeIn K fTocd "ByteReader.take_other_tincture" = true)
    (kfTo : PySem.W.keepIn K (.ref fTo) = true)
    (afTe : PySem.W.findIn K (.ref CR) "take_end" = some (some (.ref fTe)))
    (ifTe : PySem.W.isFn K (.ref fTe) = true)
    (lfTe : K.lookup fTe = some ⟨fTeoc, fTeod, .func (PySem.W.fnOf "take_end" "ByteReader.take_end" (defArgs sTe) (defBody sTe) (defScope sTe) .none fTekV fTedc fTepm fTean fTecd fTect), fTesl⟩)
    (cfTe : PySem.W.codeIn K fTecd "ByteReader.take_end" = true)
    (kfTe : PySem.W.keepIn K (.ref fTe) = true)
    (afDP : PySem.W.nsIn K mainGlobals "drawn_points" = some (some (.ref fDP)))
    (ifDP : PySem.W.isFn K (.ref fDP) = true)
    (lfDP : K.lookup fDP = some ⟨fDPoc, fDPod, .func (PySem.W.fnOf "drawn_points" "drawn_points" (defArgs sDP) (defBody sDP) (defScope sDP) .none fDPkV fDPdc fDPpm fDPan fDPcd fDPct), fDPsl⟩)
    (cfDP : PySem.W.codeIn K fDPcd "drawn_points" = true)
    (kfDP : PySem.W.keepIn K (.ref fDP) = true)
    (afOP : PySem.W.nsIn K mainGlobals "is_open_point" = some (some (.ref fOP)))
    (ifOP : PySem.W.isFn K (.ref fOP) = true)
    (lfOP : K.lookup fOP = some ⟨fOPoc, fOPod, .func (PySem.W.fnOf "is_open_point" "is_open_point" (defArgs sOP) (defBody sOP) (defScope sOP) .none fOPkV fOPdc fOPpm fOPan fOPcd fOPct), fOPsl⟩)
    (cfOP : PySem.W.codeIn K fOPcd "is_open_point" = true)
    (kfOP : PySem.W.keepIn K (.ref fOP) = true)
    (afPA : PySem.W.nsIn K mainGlobals "points_apart" = some (some (.ref fPA)))
    (ifPA : PySem.W.isFn K (.ref fPA) = true)
    (lfPA : K.lookup fPA = some ⟨fPAoc, fPAod, .func (PySem.W.fnOf "points_apart" "points_apart" (defArgs sPA) (defBody sPA) (defScope sPA) .none fPAkV fPAdc fPApm fPAan fPAcd fPAct), fPAsl⟩)
    (cfPA : PySem.W.codeIn K fPAcd "points_apart" = true)
    (kfPA : PySem.W.keepIn K (.ref fPA) = true)
    (afDO : PySem.W.nsIn K mainGlobals "distance_at_open_points" = some (some (.ref fDO)))
    (ifDO : PySem.W.isFn K (.ref fDO) = true)
    (lfDO : K.lookup fDO = some ⟨fDOoc, fDOod, .func (PySem.W.fnOf "distance_at_open_points" "distance_at_open_points" (defArgs sDO) (defBody sDO) (defScope sDO) .none fDOkV fDOdc fDOpm fDOan fDOcd fDOct), fDOsl⟩)
    (cfDO : PySem.W.codeIn K fDOcd "distance_at_open_points" = true)
    (kfDO : PySem.W.keepIn K (.ref fDO) = true)
    (afRR : PySem.W.nsIn K mainGlobals "read_row" = some (some (.ref fRR)))
    (ifRR : PySem.W.isFn K (.ref fRR) = true)
    (lfRR : K.lookup fRR = some ⟨fRRoc, fRRod, .func (PySem.W.fnOf "read_row" "read_row" (defArgs sRR) (defBody sRR) (defScope sRR) .none fRRkV fRRdc fRRpm fRRan fRRcd fRRct), fRRsl⟩)
    (cfRR : PySem.W.codeIn K fRRcd "read_row" = true)
    (kfRR : PySem.W.keepIn K (.ref fRR) = true)
    (afRD : PySem.W.nsIn K mainGlobals "read_drawing" = some (some (.ref fRD)))
    (ifRD : PySem.W.isFn K (.ref fRD) = true)
    (lfRD : K.lookup fRD = some ⟨fRDoc, fRDod, .func (PySem.W.fnOf "read_drawing" "read_drawing" (defArgs sRD) (defBody sRD) (defScope sRD) .none fRDkV fRDdc fRDpm fRDan fRDcd fRDct), fRDsl⟩)
    (cfRD : PySem.W.codeIn K fRDcd "read_drawing" = true)
    (kfRD : PySem.W.keepIn K (.ref fRD) = true)
    (ifN : PySem.W.isFn K (.ref fN) = true)
    (lfN : K.lookup fN = some ⟨fNoc, fNod, .func (PySem.W.fnOf "__init__" "NoPair.__init__" (defArgs sNI) (defBody sNI) (defScope sNI) .none fNkV fNdc fNpm fNan fNcd fNct), fNsl⟩)
    (cfN : PySem.W.codeIn K fNcd "NoPair.__init__" = true)
    (kfN : PySem.W.keepIn K (.ref fN) = true)
    (afPr : PySem.W.nsIn K mainGlobals "read_pair" = some (some (.ref fPr)))
    (ifPr : PySem.W.isFn K (.ref fPr) = true)
    (lfPr : K.lookup fPr = some ⟨fProc, fProd, .func (PySem.W.fnOf "read_pair" "read_pair" (defArgs sPr) (defBody sPr) (defScope sPr) .none fPrkV fPrdc fPrpm fPran fPrcd fPrct), fPrsl⟩)
    (cfPr : PySem.W.codeIn K fPrcd "read_pair" = true)
    (kfPr : PySem.W.keepIn K (.ref fPr) = true)
    (afTL : PySem.W.nsIn K mainGlobals "too_like" = some (some (.ref fTL)))
    (ifTL : PySem.W.isFn K (.ref fTL) = true)
    (lfTL : K.lookup fTL = some ⟨fTLoc, fTLod, .func (PySem.W.fnOf "too_like" "too_like" (defArgs sTL) (defBody sTL) (defScope sTL) .none fTLkV fTLdc fTLpm fTLan fTLcd fTLct), fTLsl⟩)
    (cfTL : PySem.W.codeIn K fTLcd "too_like" = true)
    (kfTL : PySem.W.keepIn K (.ref fTL) = true)
    (afLk : PySem.W.nsIn K mainGlobals "like" = some (some (.ref fLk)))
    (ifLk : PySem.W.isFn K (.ref fLk) = true)
    (lfLk : K.lookup fLk = some ⟨fLkoc, fLkod, .func (PySem.W.fnOf "like" "like" (defArgs sLk) (defBody sLk) (defScope sLk) .none fLkkV fLkdc fLkpm fLkan fLkcd fLkct), fLksl⟩)
    (cfLk : PySem.W.codeIn K fLkcd "like" = true)
    (kfLk : PySem.W.keepIn K (.ref fLk) = true)
    (at9 : PySem.W.nsIn K mainGlobals "TINCTURE_ROWS" = some (some (.int 9 t9t)))
    (acols : PySem.W.nsIn K mainGlobals "COLUMNS" = some (some (.int 30 colst)))
    (arows : PySem.W.nsIn K mainGlobals "ROWS" = some (some (.int 36 rowst)))
    (astp : PySem.W.nsIn K mainGlobals "STEP" = some (some (.int 16 stpt)))
    (amrg : PySem.W.nsIn K mainGlobals "MARGIN" = some (some (.int 8 mrgt)))
    (anod : PySem.W.nsIn K mainGlobals "NO_DRAWING" = some (some (.int (-1) nodt)))
    (aond : PySem.W.nsIn K mainGlobals "OTHER_NO_DRAWING" = some (some (.int (-3) ondt)))
    (aena : PySem.W.nsIn K mainGlobals "ENOUGH_APART" = some (some (.int 68 enat)))
    (aaM : PySem.W.nsIn K mainGlobals "AHEAD" = some (some (.ref aM)))
    (laM : K.lookup aM = some ⟨.type "tuple", aMod, .seq #[.int 83 aM0, .int 72 aM1, .int 68 aM2, .int 49 aM3] aMn, aMsl⟩)
    (z_ValueError : PySem.W.nsIn K mainGlobals "ValueError" = some none)
    (z_len : PySem.W.nsIn K mainGlobals "len" = some none)
    (z_range : PySem.W.nsIn K mainGlobals "range" = some none)
    (z_zip : PySem.W.nsIn K mainGlobals "zip" = some none) :
    ∃ fd : FuncData, (∀ (s : Shared) (us : List Value), us.length = (["d", "e"] : List Str).length → BindsTo s fd ⟨us, []⟩ ((["d", "e"] : List Str).zip us)) ∧ ∀ base : Heap, K.In base → base.Ns mainGlobals mg → FnOk P w K mg base (CXx P w) 9 fa fd ["d", "e"] (spLk K) := by
  have e := hfa.symm.trans (PySem.W.mg_of X G afLk)
  cases e
  have okNE : PySem.W.nsOkIn K NE = true := by unfold PySem.W.nsOkIn; rw [lNE]; dsimp only; rw [← Array.all_toList]; exact oNE
  have xCE : XCls K CE NE fE := ⟨⟨_, _, _, _, _, _, _, _, _, _, _, _, _, lCE⟩, okNE, iNE, n0NE, n1NE, n2NE, ifE, pCE⟩
  have okNN : PySem.W.nsOkIn K NN = true := by unfold PySem.W.nsOkIn; rw [lNN]; dsimp only; rw [← Array.all_toList]; exact oNN
  have xCN : XCls K CN NN fN := ⟨⟨_, _, _, _, _, _, _, _, _, _, _, _, _, lCN⟩, okNN, iNN, n0NN, n1NN, n2NN, ifN, pCN⟩
  have FfE := fun_mk (st := sXI) lfE cfE kfE
  have bfE := FfE.binds (ps := ["self", "place"]) fun _ _ _ _ _ _ us hl => by obtain ⟨q0, q1, rfl⟩ := ar2 hl; rfl
  have FfR := fun_mk (st := sRI) lfR cfR kfR
  have bfR := FfR.binds (ps := ["self", "data"]) fun _ _ _ _ _ _ us hl => by obtain ⟨q0, q1, rfl⟩ := ar2 hl; rfl
  have FfTk := fun_mk (st := sTk) lfTk cfTk kfTk
  have bfTk := FfTk.binds (ps := ["self", "least", "most"]) fun _ _ _ _ _ _ us hl => by obtain ⟨q0, q1, q2, rfl⟩ := ar3 hl; rfl
  have FfTr := fun_mk (st := sTr) lfTr cfTr kfTr
  have bfTr := FfTr.binds (ps := ["self", "rows"]) fun _ _ _ _ _ _ us hl => by obtain ⟨q0, q1, rfl⟩ := ar2 hl; rfl
  have FfTo := fun_mk (st := sTo) lfTo cfTo kfTo
  have bfTo := FfTo.binds (ps := ["self", "first"]) fun _ _ _ _ _ _ us hl => by obtain ⟨q0, q1, rfl⟩ := ar2 hl; rfl
  have FfTe := fun_mk (st := sTe) lfTe cfTe kfTe
  have bfTe := FfTe.binds (ps := ["self"]) fun _ _ _ _ _ _ us hl => by obtain ⟨q0, rfl⟩ := ar1 hl; rfl
  have FfDP := fun_mk (st := sDP) lfDP cfDP kfDP
  have bfDP := FfDP.binds (ps := []) fun _ _ _ _ _ _ us hl => by obtain rfl := List.length_eq_zero_iff.mp hl; rfl
  have FfOP := fun_mk (st := sOP) lfOP cfOP kfOP
  have bfOP := FfOP.binds (ps := ["p", "r"]) fun _ _ _ _ _ _ us hl => by obtain ⟨q0, q1, rfl⟩ := ar2 hl; rfl
  have FfPA := fun_mk (st := sPA) lfPA cfPA kfPA
  have bfPA := FfPA.binds (ps := ["one", "other"]) fun _ _ _ _ _ _ us hl => by obtain ⟨q0, q1, rfl⟩ := ar2 hl; rfl
  have FfDO := fun_mk (st := sDO) lfDO cfDO kfDO
  have bfDO := FfDO.binds (ps := ["one", "other"]) fun _ _ _ _ _ _ us hl => by obtain ⟨q0, q1, rfl⟩ := ar2 hl; rfl
  have FfRR := fun_mk (st := sRR) lfRR cfRR kfRR
  have bfRR := FfRR.binds (ps := ["reader"]) fun _ _ _ _ _ _ us hl => by obtain ⟨q0, rfl⟩ := ar1 hl; rfl
  have FfRD := fun_mk (st := sRD) lfRD cfRD kfRD
  have bfRD := FfRD.binds (ps := ["data"]) fun _ _ _ _ _ _ us hl => by obtain ⟨q0, rfl⟩ := ar1 hl; rfl
  have FfN := fun_mk (st := sNI) lfN cfN kfN
  have bfN := FfN.binds (ps := ["self", "number", "place"]) fun _ _ _ _ _ _ us hl => by obtain ⟨q0, q1, q2, rfl⟩ := ar3 hl; rfl
  have FfPr := fun_mk (st := sPr) lfPr cfPr kfPr
  have bfPr := FfPr.binds (ps := ["d", "e"]) fun _ _ _ _ _ _ us hl => by obtain ⟨q0, q1, rfl⟩ := ar2 hl; rfl
  have FfTL := fun_mk (st := sTL) lfTL cfTL kfTL
  have bfTL := FfTL.binds (ps := ["one", "other"]) fun _ _ _ _ _ _ us hl => by obtain ⟨q0, q1, rfl⟩ := ar2 hl; rfl
  have FfLk := fun_mk (st := sLk) lfLk cfLk kfLk
  have bfLk := FfLk.binds (ps := ["d", "e"]) fun _ _ _ _ _ _ us hl => by obtain ⟨q0, q1, rfl⟩ := ar2 hl; rfl
  have T : TR K mg CE NE fE CR fR fTk fTr fTo fTe := ⟨xCE, n3NE, PySem.W.mg_of X G aCE, PySem.W.mg_none_of X G z_ValueError, PySem.W.mg_none_of X G z_len, PySem.W.mg_of X G aCR, ⟨pgCR, hdCR, poCR, saCR⟩, noCR_data, noCR_place, ⟨mkCR, afR, ifR, kcCR⟩,
    ⟨afTk, ifTk, kfTk⟩, ⟨afTr, ifTr, kfTr⟩, ⟨afTo, ifTo, kfTo⟩, ⟨afTe, ifTe, kfTe⟩, ⟨_, PySem.W.mg_of X G at9⟩⟩
  have U : TD K mg aM fRR fRD := ⟨PySem.W.mg_none_of X G z_range, ⟨_, PySem.W.mg_of X G acols⟩, ⟨_, PySem.W.mg_of X G arows⟩, PySem.W.mg_of X G aaM, sqt_of laM, PySem.W.mg_of X G afRR, PySem.W.mg_of X G afRD⟩
  have W : TE5 K mg fDP fOP fPA fDO := ⟨⟨_, PySem.W.mg_of X G astp⟩, ⟨_, PySem.W.mg_of X G amrg⟩, PySem.W.mg_none_of X G z_zip, PySem.W.mg_of X G afDP, PySem.W.mg_of X G afOP, PySem.W.mg_of X G afPA, PySem.W.mg_of X G afDO⟩
  have N : TN K mg CN NN fN fPr := ⟨xCN, n4NN, n3NN, PySem.W.mg_of X G aCN, ⟨_, PySem.W.mg_of X G anod⟩, ⟨_, PySem.W.mg_of X G aond⟩, PySem.W.mg_of X G afPr⟩
  refine ⟨PySem.W.fnOf "like" "like" (defArgs sLk) (defBody sLk) (defScope sLk) .none fLkkV fLkdc fLkpm fLkan fLkcd fLkct, fun s us hu => by obtain ⟨q0, q1, rfl⟩ := ar2 hu; exact .of_eq rfl, fun base _ _ => ?_⟩
  · have GI : FnOk P w K mg base (CXx P w) 1 fE _ ["self", "place"] (spXI CE) := ok_xi FfE T
    have GR : FnOk P w K mg base (CXx P w) 1 fR _ ["self", "data"] (spRI CR) := ok_ri FfR T
    have GK : FnOk P w K mg base (CXx P w) 3 fTk _ ["self", "least", "most"] (spTake K CE CR) := ok_take FfTk T GI bfE
    have GW : FnOk P w K mg base (CXx P w) 4 fTr _ ["self", "rows"] (spRow K CE CR) := ok_row FfTr T GK bfTk
    have GO : FnOk P w K mg base (CXx P w) 5 fTo _ ["self", "first"] (spOther K CE CR) := ok_other FfTo T GI bfE GW bfTr
    have GE : FnOk P w K mg base (CXx P w) 3 fTe _ ["self"] (spEnd K CE CR) := ok_end FfTe T GI bfE
    have G1 : FnOk P w K mg base (CXx P w) 6 fRR _ ["reader"] (spRR K CE CR) := ok_rr FfRR T U GK bfTk GO bfTo
    have G2 : FnOk P w K mg base (CXx P w) 7 fRD _ ["data"] (spRD K CE) := ok_rd FfRD T U GR bfR GK bfTk GE bfTe G1 bfRR kfRR
    have G3 : FnOk P w K mg base (CXx P w) 1 fDP _ [] spDP := ok_dp FfDP U W
    have G4 : FnOk P w K mg base (CXx P w) 1 fOP _ ["p", "r"] spOP := ok_op FfOP
    have G5 : FnOk P w K mg base (CXx P w) 2 fPA _ ["one", "other"] spPA := ok_pa FfPA W G3 bfDP kfDP
    have G6 : FnOk P w K mg base (CXx P w) 3 fDO _ ["one", "other"] spDO := ok_do FfDO T W G5 bfPA kfPA G4 bfOP kfOP
    have G8 : FnH P w K mg base fN _ ["self", "number", "place"] (spNI CN) := ok_ni FfN T N
    have G9 : FnOk P w K mg base (CXx P w) 8 fPr _ ["d", "e"] (spPr K CN) := ok_pr FfPr T U N G2 bfRD kfRD G8 bfN
    have G7 : FnOk P w K mg base (CXx P w) 4 fTL _ ["one", "other"] spTL := ok_tl FfTL W ⟨_, PySem.W.mg_of X G aena⟩ G6 bfDO kfDO
    exact ok_lk FfLk N (PySem.W.mg_of X G afTL) G9 bfPr kfPr G7 bfTL kfTL
end Lk6
open PySem PySem.W PyProof.Rows
set_option maxRecDepth 100000 in
set_option maxHeartbeats 0 in
theorem PySem.Challenge.cw_shieldwords_s06_like_holds : PySem.Challenge.rw_shieldwords_s06_like.Holds := by
  w_on; k_headS; (case hw => exact ⟨[.list [], .list []], by decide +kernel, by decide +kernel⟩)
  k_fillS
  refine L2.walk_specX (r := PySem.Challenge.rw_shieldwords_s06_like) (k := 9) (CX := fun w => L2.CXx PySem.Challenge.rw_shieldwords_s06_like.prog w) (ps := ["d", "e"]) (sp := Lk6.spLk) (by decide +kernel) rfl rfl ⟨rfl, by decide, by decide⟩ (fun w h Y => PySem.W.kIn_of Y) ?F ?S ?C
  case F =>
    intro w mg fa h Y KX G hmg
    refine' Lk6.all_mk KX G hmg ?aCE ?lCE ?lNE ?oNE ?iNE ?n0NE ?n1NE ?n2NE ?n3NE ?pCE ?aCN ?lCN ?lNN ?oNN ?iNN ?n0NN ?n1NN ?n2NN ?n3NN ?n4NN ?pCN ?aCR ?pgCR ?hdCR ?poCR ?saCR ?mkCR ?kcCR ?noCR_data ?noCR_place ?ifE ?lfE ?cfE ?kfE ?afR ?ifR ?lfR ?cfR ?kfR ?afTk ?ifTk ?lfTk ?cfTk ?kfTk ?afTr ?ifTr ?lfTr ?cfTr ?kfTr ?afTo ?ifTo ?lfTo ?cfTo ?kfTo ?afTe ?ifTe ?lfTe ?cfTe ?kfTe ?afDP ?ifDP ?lfDP ?cfDP ?kfDP ?afOP ?ifOP ?lfOP ?cfOP ?kfOP ?afPA ?ifPA ?lfPA ?cfPA ?kfPA ?afDO ?ifDO ?lfDO ?cfDO ?kfDO ?afRR ?ifRR ?lfRR ?cfRR ?kfRR ?afRD ?ifRD ?lfRD ?cfRD ?kfRD ?ifN ?lfN ?cfN ?kfN ?afPr ?ifPr ?lfPr ?cfPr ?kfPr ?afTL ?ifTL ?lfTL ?cfTL ?kfTL ?afLk ?ifLk ?lfLk ?cfLk ?kfLk ?at9 ?acols ?arows ?astp ?amrg ?anod ?aond ?aena ?aaM ?laM ?z_ValueError ?z_len ?z_range ?z_zip
    (case aCE => k_is)
    (case lCE => k_is)
    (case lNE => k_is)
    (case oNE => first | rfl | decide +kernel)
    (case iNE => k_is)
    (case n0NE => k_is)
    (case n1NE => k_is)
    (case n2NE => k_is)
    (case n3NE => k_is)
    (case pCE => k_is)
    (case aCN => k_is)
    (case lCN => k_is)
    (case lNN => k_is)
    (case oNN => first | rfl | decide +kernel)
    (case iNN => k_is)
    (case n0NN => k_is)
    (case n1NN => k_is)
    (case n2NN => k_is)
    (case n3NN => k_is)
    (case n4NN => k_is)
    (case pCN => k_is)
    (case aCR => k_is)
    (case pgCR => k_is)
    (case hdCR => k_is)
    (case poCR => k_is)
    (case saCR => k_is)
    (case mkCR => k_is)
    (case kcCR => k_is)
    (case noCR_data => k_is)
    (case noCR_place => k_is)
    (case ifE => k_is)
    (case lfE => k_is)
    (case cfE => k_is)
    (case kfE => k_is)
    (case afR => k_is)
    (case ifR => k_is)
    (case lfR => k_is)
    (case cfR => k_is)
    (case kfR => k_is)
    (case afTk => k_is)
    (case ifTk => k_is)
    (case lfTk => k_is)
    (case cfTk => k_is)
    (case kfTk => k_is)
    (case afTr => k_is)
    (case ifTr => k_is)
    (case lfTr => k_is)
    (case cfTr => k_is)
    (case kfTr => k_is)
    (case afTo => k_is)
    (case ifTo => k_is)
    (case lfTo => k_is)
    (case cfTo => k_is)
    (case kfTo => k_is)
    (case afTe => k_is)
    (case ifTe => k_is)
    (case lfTe => k_is)
    (case cfTe => k_is)
    (case kfTe => k_is)
    (case afDP => k_is)
    (case ifDP => k_is)
    (case lfDP => k_is)
    (case cfDP => k_is)
    (case kfDP => k_is)
    (case afOP => k_is)
    (case ifOP => k_is)
    (case lfOP => k_is)
    (case cfOP => k_is)
    (case kfOP => k_is)
    (case afPA => k_is)
    (case ifPA => k_is)
    (case lfPA => k_is)
    (case cfPA => k_is)
    (case kfPA => k_is)
    (case afDO => k_is)
    (case ifDO => k_is)
    (case lfDO => k_is)
    (case cfDO => k_is)
    (case kfDO => k_is)
    (case afRR => k_is)
    (case ifRR => k_is)
    (case lfRR => k_is)
    (case cfRR => k_is)
    (case kfRR => k_is)
    (case afRD => k_is)
    (case ifRD => k_is)
    (case lfRD => k_is)
    (case cfRD => k_is)
    (case kfRD => k_is)
    (case ifN => k_is)
    (case lfN => k_is)
    (case cfN => k_is)
    (case kfN => k_is)
    (case afPr => k_is)
    (case ifPr => k_is)
    (case lfPr => k_is)
    (case cfPr => k_is)
    (case kfPr => k_is)
    (case afTL => k_is)
    (case ifTL => k_is)
    (case lfTL => k_is)
    (case cfTL => k_is)
    (case kfTL => k_is)
    (case afLk => k_is)
    (case ifLk => k_is)
    (case lfLk => k_is)
    (case cfLk => k_is)
    (case kfLk => k_is)
    (case at9 => k_is)
    (case acols => k_is)
    (case arows => k_is)
    (case astp => k_is)
    (case amrg => k_is)
    (case anod => k_is)
    (case aond => k_is)
    (case aena => k_is)
    (case aaM => k_is)
    (case laM => k_is)
    (case z_ValueError => k_is)
    (case z_len => k_is)
    (case z_range => k_is)
    (case z_zip => k_is)
  case S =>
    intro K H xs a hO hwi hask hx
    cases hx with
    | cons h1 h3 =>
        cases h3 with
        | cons h4 h5 =>
          cases h5
          cases h1 with
          | lst hs ha =>
            cases h4 with
            | lst hs2 ha2 =>
              have e := L2.ints_dw a.1 _ ha
              subst e
              have e2 := L2.ints_dw a.2.1 _ ha2
              subst e2
              have q : ((Codec.inLen 0 2500 a.1 && a.1.all (Codec.inInt 0 255)) && ((Codec.inLen 0 2500 a.2.1 && a.2.1.all (Codec.inInt 0 255)) && true)) = true := hwi
              rw [Bool.and_eq_true, Bool.and_eq_true, Bool.and_eq_true, Bool.and_eq_true] at q
              have nf : ∀ (b : PySem.Addr) (ys : List L2.V), ¬ H b = some (.lst ys) := fun b ys z => by
                rcases hO b with y | ⟨ob, u, y⟩ <;> (rw [y] at z; cases z)
              exact ⟨_, _, a.1, a.2.1, rfl, fun x hx => Codec.inInt_iff.mp (List.all_eq_true.mp q.1.2 x hx), fun x hx => Codec.inInt_iff.mp (List.all_eq_true.mp q.2.1.2 x hx), Lk6.SqF.of hs (nf _), Lk6.SqF.of hs2 (nf _), fun H' p hp => .lst (L2.SqL.of hp) (L2.dw_ints _)⟩
  case C =>
    rintro w H s e s' ⟨x, C, d, q, H', rfl, nx, os, bare, un, hok, hx, hq, hh, hE⟩
    exact hE
