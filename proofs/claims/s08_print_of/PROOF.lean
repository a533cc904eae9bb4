import PyProof.Rows.All
import Wide.All
import OpenK.AllK
import Wide.FinOn
import PyProof.EqAt
import PyProof.EqKinds
import PyProof.TupleCall
import Open.SpecLaws
import KE.OsHead
import KE.OsGo
import PyProof.StationsW
import PyProof.ExcArgsOwn
import PyProof.RulesAs
import PyProof.PassesOwn
import PyProof.ExcInit
import PyProof.InstStoreFacts
import PyProof.ExcAttrAll.ValueError
import KE.BitLaws
import PySem.Challenge.RW_shieldwords_s08_print_of
section
set_option genSizeOfSpec false
set_option Elab.async false
set_option linter.all false
set_option maxRecDepth 100000
namespace L2
open PySem PySem.Spec PyProof.Rows

noncomputable abbrev Key := Sum Int Str
noncomputable def keyIs : Key → Value → Bool
  | .inl k, v => Value.isInt k v
  | .inr x, v => Value.isStrOf x v
noncomputable def keyH (w : World) : Key → Int
  | .inl k => hashInt k
  | .inr x => hashStr w x
theorem keyIs_shape : ∀ {k : Key} {v : Value}, keyIs k v = true → (∃ i t, k = Sum.inl i ∧ v = Value.int i t) ∨ (∃ x t, k = Sum.inr x ∧ v = Value.str x t)
  | .inl i, v, h => by
    obtain ⟨t, e⟩ := Value.isInt_shape (k := i) (v := v) h
    exact .inl ⟨i, t, rfl, e⟩
  | .inr x, v, h => by
    obtain ⟨t, e⟩ := Value.isStrOf_shape (x := x) (v := v) h
    exact .inr ⟨x, t, rfl, e⟩
theorem key_ll (a b : Int) : decide ((Sum.inl a : Key) = Sum.inl b) = (a == b) := by
  by_cases e : a = b
  · subst e; simp
  · have h : ¬ (Sum.inl a : Key) = Sum.inl b := fun q => e (Sum.inl.inj q)
    rw [decide_eq_false h]
    exact (beq_eq_false_iff_ne.mpr e).symm
theorem key_rr (a b : Str) : decide ((Sum.inr a : Key) = Sum.inr b) = decide (a = b) := by
  by_cases e : a = b
  · subst e; simp
  · have h : ¬ (Sum.inr a : Key) = Sum.inr b := fun q => e (Sum.inr.inj q)
    rw [decide_eq_false h, decide_eq_false e]
theorem key_lr (a : Int) (b : Str) : decide ((Sum.inl a : Key) = Sum.inr b) = false := decide_eq_false (fun q => nomatch q)
theorem key_rl (a : Str) (b : Int) : decide ((Sum.inr a : Key) = Sum.inl b) = false := decide_eq_false (fun q => nomatch q)

noncomputable def mixKind (prog : Program) (w : World) : PySem.KeyKind prog w Key where
  is := keyIs
  hash := keyH w
  inj := fun v a b ha hb => by
    rcases keyIs_shape ha with ⟨i, t, rfl, rfl⟩ | ⟨x, t, rfl, rfl⟩
    · rcases keyIs_shape hb with ⟨j, u, rfl, e⟩ | ⟨y, u, rfl, e⟩
      · injection e with e1 _; rw [e1]
      · exact nomatch e
    · rcases keyIs_shape hb with ⟨j, u, rfl, e⟩ | ⟨y, u, rfl, e⟩
      · exact nomatch e
      · injection e with e1 _; rw [e1]
  byValue := fun k v h => by
    rcases keyIs_shape h with ⟨i, t, rfl, rfl⟩ | ⟨x, t, rfl, rfl⟩ <;> rfl
  pyHash := fun hv h => by
    rcases keyIs_shape hv with ⟨i, t, rfl, rfl⟩ | ⟨x, t, rfl, rfl⟩
    · exact wpAny_pyHash_int h
    · exact wpAny_pyHash_str h
  eqBool := fun hu hv h => by
    rcases keyIs_shape hu with ⟨i, t, rfl, rfl⟩ | ⟨x, t, rfl, rfl⟩
    · rcases keyIs_shape hv with ⟨j, u, rfl, rfl⟩ | ⟨y, u, rfl, rfl⟩
      · rw [key_ll] at h; exact wpAny_eqBool_int h
      · rw [key_lr] at h; exact SeqAt.EqAt.int_str i t y u _ _ _ _ h
    · rcases keyIs_shape hv with ⟨j, u, rfl, rfl⟩ | ⟨y, u, rfl, rfl⟩
      · rw [key_rl] at h; exact SeqAt.EqAt.str_int x t j u _ _ _ _ h
      · rw [key_rr] at h; exact wpAny_eqBool_str h
  «strs» := fun k x t v h => by
    rcases keyIs_shape h with ⟨i, u, rfl, e⟩ | ⟨y, u, rfl, e⟩
    · exact nomatch e
    · injection e with e1 _
      subst e1
      cases v <;> rfl

end L2

namespace L2
open PySem PySem.Spec PyProof.Rows

inductive V where
  | non | bl (b : Bool) | int (i : Int) | str (x : Str) | byt (b : Array UInt8) | flt (b : UInt64) | ref (a : Addr) | ty (n : String)
  deriving DecidableEq

noncomputable def RelV : V → Value → Prop
  | .non, u => u = Value.none
  | .bl b, u => u = Value.bool b
  | .int i, u => ∃ t, u = Value.int i t
  | .str x, u => ∃ t, u = Value.str x t
  | .byt b, u => ∃ t, u = Value.bytes b t
  | .flt b, u => ∃ t, u = Value.float b t
  | .ref a, u => u = Value.ref a
  | .ty n, u => u = Value.type n

noncomputable abbrev Vals : List V → List Value → Prop := Paired RelV
theorem Vals.length {xs : List V} {us : List Value} (r : Vals xs us) : xs.length = us.length := Paired.length r
theorem Vals.get : ∀ {xs : List V} {us : List Value} {i : Nat} {x : V}, Vals xs us → xs[i]? = some x → ∃ u, us[i]? = some u ∧ RelV x u
  | _, _, _, _, .nil, e => by simp at e
  | _, _, 0, _, .cons r _, e => by simp at e; subst e; exact ⟨_, rfl, r⟩
  | _, _, i + 1, x, .cons _ t, e => by
    obtain ⟨u, h1, h2⟩ := Vals.get (i := i) (x := x) t (by simpa using e)
    exact ⟨u, by simpa using h1, h2⟩
theorem Vals.append : ∀ {xs ys : List V} {us ws : List Value}, Vals xs us → Vals ys ws → Vals (xs ++ ys) (us ++ ws)
  | _, _, _, _, .nil, s => s
  | _, _, _, _, .cons r t, s => .cons r (Vals.append t s)
noncomputable def RelO : Option V → Option Value → Prop
  | some v, some u => RelV v u
  | none, none => True
  | _, _ => False
noncomputable def KV {κ : Type} : List (κ × V) → List (κ × Value) → Prop := Paired fun (p : κ × V) (q : κ × Value) => p.1 = q.1 ∧ RelV p.2 q.2

noncomputable def kV : Key → V
  | .inl i => .int i
  | .inr x => .str x

inductive HO where
  /-- a list -/
  | lst (xs : List V)
  /-- a tuple (never changes) -/
  | tup (xs : List V)
  /-- a dict whose keys are ints and texts; one whose keys are tuples of ints and texts (the empty one is both) -/
  | dK (kvs : List (Key × V)) | dT (kvs : List (List Key × V))
  /-- a set of ints: its members, its size -/
  | set (S : Int → Bool) (n : Nat)
  /-- an instance of the class at C, its dict at dx, its attributes -/
  | ins (C dx : Addr) (fs : List (Str × V))
  /-- the dict of the instance at x -/
  | own (x : Addr)
  /-- the dict of an exception -/
  | xd (fs : List (Str × V))
  /-- a bound method, f of x -/
  | met (f x : Addr)
  /-- a range object lo, lo + 1, .. below hi -/
  | rng (lo hi : Int)
  /-- a thing that is known to the object (the script; a dict while a loop walks it): read, never written while it is so -/
  | frz (o : Obj) (u : HO)
  /-- a code object's table -/
  | tbl (ps : Array Value)
  /-- any other thing, by what is true of its one object (a def of one's own: SetO a S n := HO.ext fun h => ..) -/
  | ext (φ : Heap → Prop)

noncomputable abbrev Hp := Addr → Option HO
noncomputable def upd (H : Hp) (a : Addr) (o : HO) : Hp := fun b => if b = a then some o else H b
theorem upd_same {H : Hp} {a : Addr} {o : HO} : upd H a o a = some o := by unfold upd; rw [if_pos rfl]
theorem upd_ne {H : Hp} {a b : Addr} {o : HO} (h : b ≠ a) : upd H a o b = H b := by unfold upd; rw [if_neg h]
theorem upd_upd {H : Hp} {a : Addr} {o u : HO} : upd (upd H a o) a u = upd H a u := by
  funext b; unfold upd; split <;> rfl
theorem ne_of {H : Hp} {a b : Addr} {o u : HO} (h : H a = some o) (h' : H b = some u) (d : o ≠ u) : a ≠ b := by
  intro e; subst e; rw [h] at h'; exact d (Option.some.inj h')
theorem ne_of_none {H : Hp} {a b : Addr} {o : HO} (h : H a = some o) (h' : H b = none) : a ≠ b := by
  intro e; subst e; rw [h] at h'; cases h'

section
variable (P : Program) (w : World)
noncomputable def ObjOk (H : Hp) (h : Heap) (a : Addr) : HO → Prop
  | .lst xs => xs.length ≤ sizeLine ∧ ∃ (its : List Value) (n : Nat), Vals xs its ∧ h.get? a = some { cls := .type "list", data := .seq its.toArray n }
  | .tup xs => xs.length ≤ sizeLine ∧ ∃ its : List Value, Vals xs its ∧ IsTup h a its.toArray
  | .dK kvs => kvs.length ≤ sizeLine ∧ (a == sysModules) = false ∧ ∃ vs, KV kvs vs ∧ h.DictOf (mixKind P w) a vs
  | .dT kvs => kvs.length ≤ sizeLine ∧ (a == sysModules) = false ∧ ∃ xs : List (List Key × Addr × Value),
      Paired (fun (p : List Key × V) (q : List Key × Addr × Value) => p.1 = q.1 ∧ H q.2.1 = some (.tup (p.1.map kV)) ∧ RelV p.2 q.2.2) kvs xs ∧
      ∃ o es ep, h.get? a = some o ∧ o.ExactDict ∧ o.data = .dict es ep ∧ es.toList = xs.map (entryOfKey (tupleKind (mixKind P w))) ∧ (xs.map (·.1)).Nodup
  | .set S n => h.SetOf (intKind P w) a S n
  | .ins C dx fs => H dx = some (.own a) ∧ fs.length ≤ 1000 ∧ dx ≠ a ∧ h.get? a = some (PySem.W.instObj C dx) ∧
      ∃ mA, h.Ns1 dx mA ∧ (∀ f, RelO (fs.lookup f) (mA f)) ∧ PySem.Within mA (fs.map (·.1))
  | .own _ => ∃ o, h.get? a = some o
  | .xd fs => ∃ mA, h.Ns1 a mA ∧ ∀ f, RelO (fs.lookup f) (mA f)
  | .rng lo hi => ∃ t u v, h.get? a = some { cls := .type "range", data := .fields #[.int lo t, .int hi u, .int 1 v] }
  | .frz o u => h.get? a = some o ∧ ObjOk H h a u
  | .tbl ps => h.get? a = some { cls := .none, data := .fields ps }
  | .met f x => h.get? a = some (PySem.W.methodObj (.ref f) (.ref x))
  | .ext φ => φ h ∧ (∃ o, h.get? a = some o) ∧ ∀ h1 h2 : Heap, φ h1 → (∀ o, h1.get? a = some o → h2.get? a = some o) → φ h2
noncomputable def HOk (H : Hp) (h : Heap) : Prop := ∀ a o, H a = some o → ObjOk P w H h a o
end

section
variable {P : Program} {w : World} {H H' : Hp} {h h' : Heap} {a : Addr} {o : HO}
theorem ObjOk.lt (x : ObjOk P w H h a o) : a < h.objs.size := by
  cases o with
  | lst xs => obtain ⟨_, _, _, _, e⟩ := x; exact Heap.lt_size e
  | tup xs => obtain ⟨_, _, _, p⟩ := x; exact p.lt
  | dK kvs => obtain ⟨_, _, _, _, o, _, _, e, _⟩ := x; exact Heap.lt_size e
  | dT kvs => obtain ⟨_, _, _, _, o, _, _, e, _⟩ := x; exact Heap.lt_size e
  | set S n => obtain ⟨o, _, _, _, e, _⟩ := x; exact Heap.lt_size e
  | ins C dx fs => obtain ⟨_, _, _, e, _⟩ := x; exact Heap.lt_size e
  | own y => obtain ⟨_, e⟩ := x; exact Heap.lt_size e
  | xd fs => obtain ⟨_, ⟨_, _, _, e, _⟩, _⟩ := x; exact Heap.lt_size e
  | rng lo hi => obtain ⟨_, _, _, e⟩ := x; exact Heap.lt_size e
  | frz ob u => obtain ⟨e, _⟩ := x; exact Heap.lt_size e
  | tbl ps => exact Heap.lt_size (show h.get? a = some _ from x)
  | met f y => exact Heap.lt_size (show h.get? a = some _ from x)
  | ext φ => obtain ⟨_, ⟨_, e⟩, _⟩ := x; exact Heap.lt_size e
theorem Paired.mapP {α β : Type} {F G : α → β → Prop} : ∀ {l₁ : List α} {l₂ : List β}, Paired F l₁ l₂ → (∀ a b, F a b → G a b) → Paired G l₁ l₂
  | _, _, .nil, _ => .nil
  | _, _, .cons r t, f => .cons (f _ _ r) (Paired.mapP t f)
theorem ObjOk.stay (x : ObjOk P w H h a o) (k : ∀ b u, (b = a ∨ H b = some (.own a)) → h.get? b = some u → h'.get? b = some u)
    (ho : ∀ b, H b = some (.own a) → H' b = some (.own a)) (ht : ∀ b xs, H b = some (.tup xs) → H' b = some (.tup xs)) : ObjOk P w H' h' a o := by
  induction o with
  | lst xs => obtain ⟨z, its, n, r, e⟩ := x; exact ⟨z, its, n, r, k _ _ (.inl rfl) e⟩
  | tup xs => obtain ⟨z, its, r, ob, e, c⟩ := x; exact ⟨z, its, r, ob, k _ _ (.inl rfl) e, c⟩
  | dK kvs => obtain ⟨z, y, vs, r, ob, es, ep, e, c⟩ := x; exact ⟨z, y, vs, r, ob, es, ep, k _ _ (.inl rfl) e, c⟩
  | dT kvs =>
    obtain ⟨z, y, xs, r, ob, es, ep, e, c⟩ := x
    exact ⟨z, y, xs, Paired.mapP r fun p q z => ⟨z.1, ht _ _ z.2.1, z.2.2⟩, ob, es, ep, k _ _ (.inl rfl) e, c⟩
  | set S n => obtain ⟨ob, es, ep, t, e, c⟩ := x; exact ⟨ob, es, ep, t, k _ _ (.inl rfl) e, c⟩
  | ins C dx fs =>
    obtain ⟨d, z, ne, e, mA, ⟨od, es, ep, e2, c⟩, r⟩ := x
    exact ⟨ho _ d, z, ne, k _ _ (.inl rfl) e, mA, ⟨od, es, ep, k _ _ (.inr d) e2, c⟩, r⟩
  | own y => obtain ⟨ob, e⟩ := x; exact ⟨ob, k _ _ (.inl rfl) e⟩
  | xd fs => obtain ⟨mA, ⟨od, es, ep, e, c⟩, r⟩ := x; exact ⟨mA, ⟨od, es, ep, k _ _ (.inl rfl) e, c⟩, r⟩
  | rng lo hi => obtain ⟨t, u, v, e⟩ := x; exact ⟨t, u, v, k _ _ (.inl rfl) e⟩
  | frz ob u ih => obtain ⟨e, q⟩ := x; exact ⟨k _ _ (.inl rfl) e, ih q⟩
  | tbl ps =>
    have e : h.get? a = some { cls := .none, data := .fields ps } := x
    show h'.get? a = some { cls := .none, data := .fields ps }
    exact k a _ (.inl rfl) e
  | met f y =>
    have e : h.get? a = some (PySem.W.methodObj (.ref f) (.ref y)) := x
    show h'.get? a = some (PySem.W.methodObj (.ref f) (.ref y))
    exact k a _ (.inl rfl) e
  | ext φ => obtain ⟨p, ⟨o, e⟩, st⟩ := x; exact ⟨st _ _ p fun o q => k _ _ (.inl rfl) q, ⟨o, k _ _ (.inl rfl) e⟩, st⟩
theorem HOk.lt (x : HOk P w H h) (e : H a = some o) : a < h.objs.size := (x a o e).lt
theorem HOk.fresh (x : HOk P w H h) (e : h.objs.size ≤ a) : H a = none := by
  cases q : H a with
  | none => rfl
  | some u => exact absurd (Nat.lt_of_lt_of_le (x.lt q) e) (Nat.lt_irrefl _)
theorem HOk.kept (x : HOk P w H h) (k : ∀ b u, h.get? b = some u → h'.get? b = some u) : HOk P w H h' := fun a o e =>
  (x a o e).stay (fun b u _ q => k b u q) (fun _ q => q) fun _ _ q => q
theorem HOk.laid (x : HOk P w H h) (k : ∀ b u, h.get? b = some u → h'.get? b = some u) (hp : h.objs.size ≤ a) (new : ObjOk P w (upd H a o) h' a o) : HOk P w (upd H a o) h' := fun b u e => by
  have hn := x.fresh hp
  by_cases hb : b = a
  · subst hb; rw [upd_same] at e; cases e; exact new
  · rw [upd_ne hb] at e
    exact (x b u e).stay (fun c v _ q => k c v q) (fun c q => by rw [upd_ne (ne_of_none q hn)]; exact q) fun c xs q => by rw [upd_ne (ne_of_none q hn)]; exact q
end

noncomputable def Rd (H : Hp) (a : Addr) (u : HO) : Prop := H a = some u ∨ ∃ o, H a = some (.frz o u)
theorem Rd.ok {P : Program} {w : World} {H : Hp} {h : Heap} {a : Addr} {u : HO} (r : Rd H a u) (x : HOk P w H h) : ObjOk P w H h a u := by
  rcases r with r | ⟨o, r⟩
  · exact x a u r
  · obtain ⟨_, q⟩ := x a _ r
    exact q
noncomputable def Mut : Option HO → Prop
  | some (.lst _) => True
  | some (.dK _) => True
  | some (.dT _) => True
  | some (.set _ _) => True
  | some (.ins _ _ _) => True
  | some (.ext _) => True
  | _ => False
section
variable {P : Program} {w : World} {H : Hp} {h h' : Heap} {x e : Addr} {o' : HO}
theorem HOk.write (ok : HOk P w H h) (mu : Mut (H x)) (he : e = x ∨ H e = some (.own x)) (k : ∀ b u, b ≠ e → h.get? b = some u → h'.get? b = some u) (heo : ∃ u, h'.get? e = some u)
    (new : ObjOk P w (upd H x o') h' x o') : HOk P w (upd H x o') h' := fun b u q => by
  have nown : ∀ c y, H c = some (.own y) → c ≠ x := fun c y r z => by subst z; rw [r] at mu; exact mu
  have ntup : ∀ c xs, H c = some (.tup xs) → c ≠ x := fun c xs r z => by subst z; rw [r] at mu; exact mu
  by_cases hb : b = x
  · subst hb; rw [upd_same] at q; cases q; exact new
  · rw [upd_ne hb] at q
    by_cases hbe : b = e
    · have q' : H b = some (.own x) := by
        rcases he with z | z
        · exact absurd (hbe.trans z) hb
        · rw [hbe]; exact z
      rw [q] at q'; cases q'
      obtain ⟨v, hv⟩ := heo
      exact ⟨v, by rw [hbe]; exact hv⟩
    · refine (ok b u q).stay (fun c v hc r => k c v ?_ r) (fun c r => by rw [upd_ne (nown c b r)]; exact r) fun c xs r => by rw [upd_ne (ntup c xs r)]; exact r
      rcases hc with rfl | hc
      · exact hbe
      · rintro rfl
        rcases he with z | z
        · exact nown c b hc z
        · rw [hc] at z; cases z; exact hb rfl
end

structure Un (fs ex : List Addr) (H H' : Hp) (h h' : Heap) : Prop where
  keep : ∀ b o, h.get? b = some o → H b = none → b ∉ fs → b ∉ ex → h'.get? b = some o
  slot : ∀ b o, h.get? b = some o → H b = none → b ∈ fs → b ∉ ex → ∃ sl, h'.get? b = some { o with slots := sl }
  free : ∀ b o, h.get? b = some o → H b = none → b ∉ ex → H' b = none
  there : ∀ b o, h.get? b = some o → b ∉ ex → ∃ o', h'.get? b = some o'
  tups : ∀ b xs, H b = some (.tup xs) → H' b = some (.tup xs)
  frzs : ∀ b o u, H b = some (.frz o u) → H' b = some (.frz o u)
  tbls : ∀ b ps, H b = some (.tbl ps) → ∃ more, H' b = some (.tbl (ps ++ more))
section
variable {fs fs' ex ex' : List Addr} {H H1 H2 : Hp} {h h1 h2 h' : Heap} {a x e : Addr} {o : HO}
theorem Un.any (u : Un fs ex H H1 h h1) {b : Addr} {ob : Obj} (q : h.get? b = some ob) (n : H b = none) (hx : b ∉ ex) : ∃ sl, h1.get? b = some { ob with slots := sl } := by
  by_cases hb : b ∈ fs
  · exact u.slot b ob q n hb hx
  · exact ⟨ob.slots, u.keep b ob q n hb hx⟩
theorem Un.kept (k : ∀ b u, h.get? b = some u → h'.get? b = some u) : Un fs ex H H h h' :=
  ⟨fun b ob q _ _ _ => k b ob q, fun b ob q _ _ _ => ⟨ob.slots, k b ob q⟩, fun _ _ _ n _ => n, fun b ob q _ => ⟨ob, k b ob q⟩, fun _ _ q => q, fun _ _ _ q => q, fun _ ps q => ⟨#[], by rw [q]; simp⟩⟩
theorem Un.refl : Un fs ex H H h h := Un.kept fun _ _ q => q
theorem Un.laid (k : ∀ b u, h.get? b = some u → h'.get? b = some u) (hp : h.objs.size ≤ a) (hn : H a = none) : Un fs ex H (upd H a o) h h' where
  keep := fun b u q _ _ _ => k b u q
  slot := fun b u q _ _ _ => ⟨u.slots, k b u q⟩
  free := fun b u q n _ => by rw [upd_ne (Nat.ne_of_lt (Nat.lt_of_lt_of_le (Heap.lt_size q) hp))]; exact n
  there := fun b u q _ => ⟨u, k b u q⟩
  tups := fun b xs q => by rw [upd_ne (ne_of_none q hn)]; exact q
  frzs := fun b u xs q => by rw [upd_ne (ne_of_none q hn)]; exact q
  tbls := fun b ps q => ⟨#[], by rw [upd_ne (ne_of_none q hn), q]; simp⟩
theorem Un.write (mu : Mut (H x)) (he : e = x ∨ H e = some (.own x)) (k : ∀ b u, b ≠ e → h.get? b = some u → h'.get? b = some u) (heo : ∃ u, h'.get? e = some u) : Un fs ex H (upd H x o) h h' := by
  have hx : ∀ b, H b = none → b ≠ x := fun b n z => by subst z; rw [n] at mu; exact mu
  have hb : ∀ b, H b = none → b ≠ e := fun b n z => by
    subst z
    rcases he with r | r
    · exact hx b n r
    · rw [n] at r; cases r
  have hm : ∀ b u, H b = some u → ¬ Mut (some u) → b ≠ x := fun b u q nm z => by subst z; rw [q] at mu; exact nm mu
  refine ⟨fun b u q n _ _ => k b u (hb b n) q, fun b u q n _ _ => ⟨u.slots, k b u (hb b n) q⟩, fun b u q n _ => by rw [upd_ne (hx b n)]; exact n, fun b u q _ => ?_,
    fun b xs q => by rw [upd_ne (hm b _ q fun z => z)]; exact q, fun b u xs q => by rw [upd_ne (hm b _ q fun z => z)]; exact q, fun b ps q => ⟨#[], by rw [upd_ne (hm b _ q fun z => z), q]; simp⟩⟩
  by_cases hbe : b = e
  · subst hbe; exact heo
  · exact ⟨u, k b u hbe q⟩
end

noncomputable def trk (h : Heap) (H : Hp) : List Addr := (List.range h.objs.size).filter fun a => (H a).isSome
noncomputable def hidT (h : Heap) (H : Hp) : Heap := PySem.W.hideAll h (trk h H)
theorem hidT_size (h : Heap) (H : Hp) : (hidT h H).objs.size = h.objs.size := PySem.W.hideAll_size _ _
theorem hidT_get {h : Heap} {H : Hp} {b : Addr} {o : Obj} (e : h.get? b = some o) (n : H b = none) : (hidT h H).get? b = some o :=
  PySem.W.hideAll_get _ e fun hm => by
    have q : (H b).isSome = true := (List.mem_filter.mp hm).2
    rw [n] at q; simp at q
theorem of_hidT {h : Heap} {H : Hp} {b : Addr} {o : Obj} (e : (hidT h H).get? b = some o) : h.get? b = some o ∧ H b = none := by
  have e' : h.get? b = some o := PySem.W.of_hideAll (trk h H) e
  refine ⟨e', ?_⟩
  cases q : H b with
  | none => rfl
  | some x =>
    have hm : b ∈ trk h H := List.mem_filter.mpr ⟨List.mem_range.mpr (Heap.lt_size e'), by simp [q]⟩
    have z : (hidT h H).get? b = none := PySem.W.hideAll_none (trk h H) hm
    rw [z] at e; cases e

noncomputable def allNews (g h : Heap) (L : Addr) : List (Addr × Obj) := (List.range h.objs.size).filterMap fun a => if a = L ∨ (g.get? a).isSome = true then none else (h.get? a).map fun o => (a, o)
noncomputable def rest (g h : Heap) (L d : Addr) : List (Addr × Obj) := (allNews g h L).filter fun p => decide (p.1 ≠ d)
end L2

namespace L2
open PySem PySem.Spec PyProof.Rows

structure Mod (K : PySem.W.Frag) (mg : Str → Option Value) (base : Heap) : Prop where
  kin : K.In base
  glob : base.Ns mainGlobals mg
  blt : ∃ mb, base.Ns builtinsNs mb ∧ ∀ x : Str, x ≠ "__name__" → mb x = bootBuiltins x
  nolimit : base.NoLimit

structure Cx where
  prog : Program
  w : World
  K : PySem.W.Frag
  mg : Str → Option Value
  base : Heap
  A : Around
  N : List Str
  s_0 : Shared
  H_0 : Hp
  env : Env
  outer : List Env
  stack : List Env
  ex : List Addr
  fn : Str → Bool
  calm : Bool
  pn : List (Addr × Obj)
  xe : Value → Shared → Prop
noncomputable def frs (l : List Env) : List Addr := l.filterMap (·.frame)
noncomputable abbrev Cx.fs (X : Cx) : List Addr := frs X.outer

noncomputable def Vis (sc : Scope) (x : Str) : Prop := sc.names.lookup x = some .local ∨ sc.names.lookup x = some .cell ∨ sc.names.lookup x = some .free
noncomputable def Loc (sc : Scope) (x : Str) : Prop := sc.names.lookup x = some .local ∨ sc.names.lookup x = some .cell
noncomputable def Look (env : Env) (h : Heap) (m : Str → Option Value) (x : Str) (u : Value) : Prop :=
  (env.kindOf x = some .local ∧ m x = some u) ∨ ((env.kindOf x = some .cell ∨ env.kindOf x = some .free) ∧ ∃ c, env.cells.lookup x = some c ∧ h.IsCell c (some u))

structure Cx.Ok (X : Cx) : Prop where
  mod : Mod X.K X.mg X.base
  kind : X.env.scope.kind = .function
  glob : X.env.globals = mainGlobals
  blt : X.env.builtins = builtinsNs
  above : X.s_0.heap.objs.size ≤ X.env.locals
  inj : ∀ x y c, X.env.cells.lookup x = some c → X.env.cells.lookup y = some c → x = y
  has : ∀ x, (X.env.kindOf x = some .cell ∨ X.env.kindOf x = some .free) → ∃ c, X.env.cells.lookup x = some c
  cab : ∀ x c, X.fn x = true → X.env.cells.lookup x = some c → X.s_0.heap.objs.size ≤ c
  hd : X.calm = true → X.A.handled = none
  frames : X.A.frames = some X.stack
  stk : X.stack = X.outer ∨ (X.stack = X.env :: X.outer ∧ X.env.frame = some X.env.locals)
  exf : ∀ b ∈ X.ex, b ≠ X.env.locals ∧ ∀ x c, X.env.cells.lookup x = some c → c ≠ b
  bs : ∀ b o, X.base.get? b = some o → X.s_0.heap.get? b = some o ∧ X.H_0 b = none
  bsz : X.base.objs.size ≤ X.s_0.heap.objs.size
  noex : ∀ b o, X.base.get? b = some o → b ∉ X.ex
  exfs : ∀ b ∈ X.ex, b ∉ X.fs
  funs : X.s_0.heap.FunFrames X.base X.outer
  frf : ∀ b ∈ X.fs, X.H_0 b = none

structure Inv (X : Cx) (pins : List (Addr × Obj)) (σ : List (Option V)) (H : Hp) (s : Shared) : Prop where
  ok : X.Ok
  os : s.os = X.s_0.os
  bare : AllBare s.gens
  base : Un X.fs X.ex X.H_0 H X.s_0.heap s.heap
  loc : ∃ m, s.heap.Ns X.env.locals m ∧ ∀ (i : Nat) (x : Str) (v : V), X.N[i]? = some x → σ[i]? = some (some v) → Vis X.env.scope x → ∃ u, RelV v u ∧ Look X.env s.heap m x u
  cell : ∀ x c, X.env.cells.lookup x = some c → ∃ v, s.heap.IsCell c v
  free : H X.env.locals = none
  freeC : ∀ x c, X.env.cells.lookup x = some c → H c = none
  pin : ∀ p ∈ X.pn ++ pins, s.heap.get? p.1 = some p.2 ∧ H p.1 = none ∧ p.1 ≠ X.env.locals ∧ p.1 ∉ X.fs ∧ ∀ v, p.2.data ≠ .cell v
  hok : HOk X.prog X.w H s.heap
  len : σ.length = X.N.length

section
variable {X : Cx} {pins : List (Addr × Obj)} {σ : List (Option V)} {H H' : Hp} {s : Shared} {h' : Heap}

theorem Cx.Ok.nofr (ok : X.Ok) {b : Addr} {o : Obj} (e : X.base.get? b = some o) : b ∉ X.fs := fun hb => by
  have := (ok.funs.mem hb).1
  rw [e] at this; cases this
theorem Inv.bs (I : Inv X pins σ H s) : ∀ b o, X.base.get? b = some o → s.heap.get? b = some o ∧ H b = none := fun b o e =>
  ⟨I.base.keep b o (I.ok.bs b o e).1 (I.ok.bs b o e).2 (I.ok.nofr e) (I.ok.noex b o e), I.base.free b o (I.ok.bs b o e).1 (I.ok.bs b o e).2 (I.ok.noex b o e)⟩
theorem Inv.bk (I : Inv X pins σ H s) : ∀ b o, X.base.get? b = some o → s.heap.get? b = some o := fun b o e => (I.bs b o e).1
theorem Inv.mod (I : Inv X pins σ H s) : Mod X.K X.mg X.base := I.ok.mod
theorem Inv.kIn (I : Inv X pins σ H s) : X.K.In s.heap := I.ok.mod.kin.keeps I.bk
theorem Inv.fr (I : Inv X pins σ H s) : ∃ m, Fr X.base X.env.locals s.heap m :=
  let ⟨m, hn, _⟩ := I.loc
  ⟨m, hn, I.bk, Nat.le_trans I.ok.bsz I.ok.above⟩
theorem Inv.lt (I : Inv X pins σ H s) : X.env.locals < s.heap.objs.size := let ⟨_, hn, _⟩ := I.loc; hn.lt
theorem Inv.sz (I : Inv X pins σ H s) : X.s_0.heap.objs.size ≤ s.heap.objs.size := Nat.le_trans I.ok.above (Nat.le_of_lt I.lt)
theorem Inv.nofs (I : Inv X pins σ H s) {a : Addr} (h : s.heap.objs.size ≤ a) : a ∉ X.fs := fun hb => by
  obtain ⟨_, o, ho, _⟩ := I.ok.funs.mem hb
  exact absurd (Nat.lt_of_lt_of_le (Heap.lt_size ho) (Nat.le_trans I.sz h)) (Nat.lt_irrefl _)
theorem Inv.cne (I : Inv X pins σ H s) : ∀ x c, X.env.cells.lookup x = some c → c ≠ X.env.locals := fun x c e z => by
  obtain ⟨v, o, ho, hd⟩ := I.cell x c e
  obtain ⟨m, ⟨o', es, ep, ho', hd', _⟩, _⟩ := I.loc
  rw [z, ho'] at ho; cases ho; rw [hd'] at hd; cases hd
theorem Inv.funs (I : Inv X pins σ H s) : s.heap.FunFrames X.base X.outer := by
  have all : ∀ (l : List Env), (∀ b ∈ frs l, b ∈ X.fs) → X.s_0.heap.FunFrames X.base l → s.heap.FunFrames X.base l := by
    intro l
    induction l with
    | nil => intro _ _; trivial
    | cons env r ih =>
      intro hs hl
      obtain ⟨hk, ⟨L, o, hf, hn, ho, hd⟩, hr⟩ := hl
      have hL : L ∈ X.fs := hs L (by unfold frs; rw [List.filterMap_cons, hf]; exact List.mem_cons_self)
      obtain ⟨sl, e⟩ := I.base.slot L o ho (I.ok.frf L hL) hL fun z => I.ok.exfs L z hL
      exact ⟨hk, ⟨L, _, hf, hn, e, hd⟩, ih (fun b hb => hs b (by unfold frs; rw [List.filterMap_cons, hf]; exact List.mem_cons_of_mem _ hb)) hr⟩
  exact all X.outer (fun _ hb => hb) I.ok.funs

theorem Inv.stack (I : Inv X pins σ H s) : s.heap.FunFrames X.base X.stack := by
  rcases I.ok.stk with e | ⟨e, hf⟩
  · rw [e]; exact I.funs
  · rw [e]
    obtain ⟨m, hn, _⟩ := I.loc
    refine .cons (by rw [I.ok.kind]; decide) hf hn ?_ I.funs
    exact Heap.get?_none_of_le (Nat.le_trans I.ok.bsz I.ok.above)
theorem Inv.stkSub (I : Inv X pins σ H s) : ∀ b ∈ frs X.stack, b ∈ X.env.locals :: X.fs := fun b hb => by
  rcases I.ok.stk with e | ⟨e, hf⟩
  · rw [e] at hb; exact List.mem_cons_of_mem _ hb
  · rw [e] at hb
    unfold frs at hb
    rw [List.filterMap_cons, hf] at hb
    exact hb
theorem Inv.stkFree (I : Inv X pins σ H s) : ∀ b ∈ frs X.stack, H b = none := fun b hb => by
  rcases List.mem_cons.mp (I.stkSub b hb) with e | hb
  · rw [e]; exact I.free
  · obtain ⟨_, o, ho, _⟩ := I.ok.funs.mem hb
    exact I.base.free b o ho (I.ok.frf b hb) fun z => I.ok.exfs b z hb

theorem Inv.step {g' : Array GenState} {t' : Nat} {d' : Drawn} {ch : List Addr} (I : Inv X pins σ H s)
    (hch : ∀ b ∈ ch, (b ∈ X.ex ∨ X.s_0.heap.objs.size ≤ b) ∧ b ≠ X.env.locals ∧ (∀ x c, X.env.cells.lookup x = some c → c ≠ b) ∧ ∀ p ∈ X.pn ++ pins, p.1 ≠ b)
    (keep : ∀ b o, b ≠ X.env.locals → b ∉ X.fs → b ∉ ch → s.heap.get? b = some o → H b = none → h'.get? b = some o)
    (slot : ∀ b o, b ≠ X.env.locals → b ∈ X.fs → b ∉ ch → s.heap.get? b = some o → H b = none → ∃ sl, h'.get? b = some { o with slots := sl }) (free : ∀ b o, b ∉ ch → s.heap.get? b = some o → H b = none → H' b = none)
    (there : ∀ b o, b ∉ ch → s.heap.get? b = some o → ∃ o', h'.get? b = some o')
    (tups : ∀ b xs, H b = some (.tup xs) → H' b = some (.tup xs)) (frzs : ∀ b o u, H b = some (.frz o u) → H' b = some (.frz o u)) (tbls : ∀ b ps, H b = some (.tbl ps) → ∃ more, H' b = some (.tbl (ps ++ more)))
    (ns : ∀ m, s.heap.Ns X.env.locals m → h'.Ns X.env.locals m) (hok : HOk X.prog X.w H' h') (hg : AllBare g') :
    Inv X pins σ H' { s with heap := h', gens := g', drawn := d', toks := t' } := by
  have neL : ∀ b o, X.s_0.heap.get? b = some o → b ≠ X.env.locals := fun b o e => Nat.ne_of_lt (Nat.lt_of_lt_of_le (Heap.lt_size e) I.ok.above)
  have neC : ∀ b o, X.s_0.heap.get? b = some o → b ∉ X.ex → b ∉ ch := fun b o e hx hb => by
    rcases (hch b hb).1 with z | z
    · exact hx z
    · exact absurd (Nat.lt_of_lt_of_le (Heap.lt_size e) z) (Nat.lt_irrefl _)
  have cellK : ∀ x c, X.env.cells.lookup x = some c → ∀ v, s.heap.IsCell c v → h'.IsCell c v := fun x c e v ⟨o, ho, hd⟩ => by
    have nch : c ∉ ch := fun z => (hch c z).2.2.1 x c e rfl
    by_cases hc : c ∈ X.fs
    · obtain ⟨sl, q⟩ := slot c o (I.cne x c e) hc nch ho (I.freeC x c e)
      exact ⟨_, q, hd⟩
    · exact ⟨o, keep c o (I.cne x c e) hc nch ho (I.freeC x c e), hd⟩
  refine ⟨I.ok, I.os, hg, ⟨fun b o e n hb hx => ?_, fun b o e n hb hx => ?_, fun b o e n hx => ?_, fun b o e hx => ?_, fun b xs e => tups b xs (I.base.tups b xs e), fun b o xs e => frzs b o xs (I.base.frzs b o xs e), fun b ps e => ?_⟩, ?_, fun x c e => ?_, ?_, fun x c e => ?_, fun p hp => ?_, hok, I.len⟩
  · exact keep b o (neL b o e) hb (neC b o e hx) (I.base.keep b o e n hb hx) (I.base.free b o e n hx)
  · obtain ⟨sl, e1⟩ := I.base.slot b o e n hb hx
    obtain ⟨sl', e2⟩ := slot b _ (neL b o e) hb (neC b o e hx) e1 (I.base.free b o e n hx)
    exact ⟨sl', e2⟩
  · obtain ⟨o', e1⟩ := I.base.there b o e hx
    exact free b o' (neC b o e hx) e1 (I.base.free b o e n hx)
  · obtain ⟨o', e1⟩ := I.base.there b o e hx
    exact there b o' (neC b o e hx) e1
  · obtain ⟨m1, e1⟩ := I.base.tbls b ps e
    obtain ⟨m2, e2⟩ := tbls b _ e1
    exact ⟨m1 ++ m2, by rw [e2, Array.append_assoc]⟩
  · obtain ⟨m, hn, hl⟩ := I.loc
    refine ⟨m, ns m hn, fun i x v e1 e2 e3 => ?_⟩
    obtain ⟨u, r, l⟩ := hl i x v e1 e2 e3
    refine ⟨u, r, ?_⟩
    rcases l with l | ⟨k, c, e, z⟩
    · exact .inl l
    · exact .inr ⟨k, c, e, cellK x c e _ z⟩
  · obtain ⟨v, z⟩ := I.cell x c e
    exact ⟨v, cellK x c e v z⟩
  · obtain ⟨m, ⟨o, _, _, ho, _⟩, _⟩ := I.loc
    exact free _ o (fun z => (hch _ z).2.1 rfl) ho I.free
  · obtain ⟨v, o, ho, hd⟩ := I.cell x c e
    exact free c o (fun z => (hch c z).2.2.1 x c e rfl) ho (I.freeC x c e)
  · obtain ⟨e, n, ne, nf, d⟩ := I.pin p hp
    have nch : p.1 ∉ ch := fun z => (hch p.1 z).2.2.2 p hp rfl
    exact ⟨keep p.1 p.2 ne nf nch e n, free p.1 p.2 nch e n, ne, nf, d⟩
theorem Inv.un {t' : Nat} (I : Inv X pins σ H s) (u : Un X.fs [] H H' s.heap h') (hok : HOk X.prog X.w H' h') : Inv X pins σ H' { s with heap := h', toks := t' } := by
  obtain ⟨m, ⟨o, es, ep, ho, r⟩, _⟩ := id I.loc
  obtain ⟨sl, hL⟩ := u.any ho I.free (by simp)
  exact I.step (g' := s.gens) (d' := s.drawn) (ch := []) (fun _ z => nomatch z) (fun b o _ hb _ e n => u.keep b o e n hb (by simp)) (fun b o _ hb _ e n => u.slot b o e n hb (by simp)) (fun b o _ e n => u.free b o e n (by simp)) (fun b o _ e => u.there b o e (by simp)) u.tups u.frzs u.tbls (fun m' hm => by
    obtain ⟨o', es', ep', ho', r'⟩ := hm
    rw [ho] at ho'; cases ho'
    exact ⟨_, es', ep', hL, r'⟩) hok I.bare
theorem Inv.call {g' : Array GenState} {t' : Nat} {d' : Drawn} {ch : List Addr} (I : Inv X pins σ H s) (u : Un (frs X.stack) ch H H' s.heap h') (hok : HOk X.prog X.w H' h') (hg : AllBare g')
    (hch : ∀ b ∈ ch, (b ∈ X.ex ∨ X.s_0.heap.objs.size ≤ b) ∧ b ≠ X.env.locals ∧ (∀ x c, X.env.cells.lookup x = some c → c ≠ b) ∧ ∀ p ∈ X.pn ++ pins, p.1 ≠ b) :
    Inv X pins σ H' { s with heap := h', gens := g', drawn := d', toks := t' } := by
  obtain ⟨m, ⟨o, es, ep, ho, r⟩, _⟩ := id I.loc
  obtain ⟨sl, hL⟩ := u.any ho I.free fun z => (hch _ z).2.1 rfl
  exact I.step (ch := ch) hch (fun b o hL hb hc e n => u.keep b o e n (fun z => (List.mem_cons.mp (I.stkSub b z)).elim hL hb) hc) (fun b o _ _ hc e n => u.any e n hc) (fun b o hc e n => u.free b o e n hc) (fun b o hc e => u.there b o e hc) u.tups u.frzs u.tbls (fun m' hm => by
    obtain ⟨o', es', ep', ho', r'⟩ := hm
    rw [ho] at ho'; cases ho'
    exact ⟨_, es', ep', hL, r'⟩) hok hg
theorem Inv.turned {t' : Nat} {it : Addr} (I : Inv X pins σ H s) (k : ∀ b o, b ≠ it → s.heap.get? b = some o → h'.get? b = some o) (hn : H it = none) (hL : it ≠ X.env.locals)
    (h1 : it ∈ X.ex ∨ X.s_0.heap.objs.size ≤ it) (h2 : ∀ x c, X.env.cells.lookup x = some c → c ≠ it) (h3 : ∀ p ∈ X.pn ++ pins, p.1 ≠ it) : Inv X pins σ H { s with heap := h', toks := t' } := by
  have nit : ∀ b u, H b = some u → b ≠ it := fun b u e z => by rw [z, hn] at e; cases e
  refine I.step (g' := s.gens) (d' := s.drawn) (ch := [it]) (fun b hb => ?_) (fun b o _ _ hc e _ => k b o (fun z => hc (by simp [z])) e) (fun b o _ _ hc e _ => ⟨o.slots, k b o (fun z => hc (by simp [z])) e⟩) (fun _ _ _ _ n => n)
    (fun b o hc e => ⟨o, k b o (fun z => hc (by simp [z])) e⟩) (fun _ _ e => e) (fun _ _ _ e => e) (fun b ps e => ⟨#[], by rw [e]; simp⟩) (fun m hm => ?_) (fun b u e => ?_) I.bare
  · have e : b = it := by simpa using hb
    subst e
    exact ⟨h1, hL, h2, h3⟩
  · obtain ⟨o, es, ep, ho, r⟩ := hm
    exact ⟨o, es, ep, k _ o (Ne.symm hL) ho, r⟩
  · refine (I.hok b u e).stay (fun c v hc q => k c v ?_ q) (fun _ q => q) fun _ _ q => q
    rcases hc with z | z
    · rw [z]; exact nit b u e
    · exact nit c _ z
theorem Inv.tok (I : Inv X pins σ H s) (t : Nat) : Inv X pins σ H { s with toks := t } := I.un (h' := s.heap) (t' := t) Un.refl I.hok
theorem Inv.kept {t' : Nat} (I : Inv X pins σ H s) (k : ∀ b u, s.heap.get? b = some u → h'.get? b = some u) : Inv X pins σ H { s with heap := h', toks := t' } := I.un (Un.kept k) (I.hok.kept k)
theorem Inv.laid {a : Addr} {o : HO} {t' : Nat} (I : Inv X pins σ H s) (k : ∀ b u, s.heap.get? b = some u → h'.get? b = some u) (hp : s.heap.objs.size ≤ a) (new : ObjOk X.prog X.w (upd H a o) h' a o) :
    Inv X pins σ (upd H a o) { s with heap := h', toks := t' } := I.un (Un.laid k hp (I.hok.fresh hp)) (I.hok.laid k hp new)
theorem Inv.write {x e : Addr} {o : HO} {t' : Nat} (I : Inv X pins σ H s) (mu : Mut (H x)) (he : e = x ∨ H e = some (.own x)) (k : ∀ b u, b ≠ e → s.heap.get? b = some u → h'.get? b = some u) (heo : ∃ u, h'.get? e = some u)
    (new : ObjOk X.prog X.w (upd H x o) h' x o) : Inv X pins σ (upd H x o) { s with heap := h', toks := t' } := I.un (Un.write mu he k heo) (I.hok.write mu he k heo new)
theorem Inv.weak {σ' : List (Option V)} (I : Inv X pins σ H s) (hl : σ'.length = σ.length) (w : ∀ (i : Nat) v, σ'[i]? = some (some v) → σ[i]? = some (some v)) : Inv X pins σ' H s :=
  ⟨I.ok, I.os, I.bare, I.base, let ⟨m, hn, hl'⟩ := I.loc; ⟨m, hn, fun i x v e1 e2 e3 => hl' i x v e1 (w i v e2) e3⟩, I.cell, I.free, I.freeC, I.pin, I.hok, hl.trans I.len⟩
theorem Inv.pins_of {pins' : List (Addr × Obj)} (I : Inv X pins σ H s) (h : ∀ p ∈ pins', s.heap.get? p.1 = some p.2 ∧ H p.1 = none ∧ p.1 ≠ X.env.locals ∧ p.1 ∉ X.fs ∧ ∀ v, p.2.data ≠ .cell v) : Inv X pins' σ H s :=
  ⟨I.ok, I.os, I.bare, I.base, I.loc, I.cell, I.free, I.freeC, fun p hp => (List.mem_append.mp hp).elim (fun z => I.pin p (List.mem_append_left _ z)) (h p), I.hok, I.len⟩

theorem nodup_ix {N : List Str} (hN : N.Nodup) {i j : Nat} {x : Str} (a : N[i]? = some x) (b : N[j]? = some x) : i = j := by
  obtain ⟨h1, e1⟩ := List.getElem?_eq_some_iff.mp a
  obtain ⟨h2, e2⟩ := List.getElem?_eq_some_iff.mp b
  exact (List.getElem_inj hN).mp (e1.trans e2.symm)

theorem store_ok2 {M : Model} {A : Around} {E : Value → Shared → Prop} {i : Nat} {x : Str} {v : V} {u : Value} {Q : Unit → Shared → Prop} (I : Inv X pins σ H s) (hN : X.N.Nodup) (hi : X.N[i]? = some x) (hx : Loc X.env.scope x) (r : RelV v u)
    (h : ∀ s', Inv X pins (σ.set i (some v)) H s' → (∃ a, Heap.SameBut a s.heap s'.heap ∧ (a = X.env.locals ∨ X.env.cells.lookup x = some a)) → Q () s') (hf : X.fn x = true ∨ X.env.scope.names.lookup x = some .local := by first | exact .inl rfl | exact .inr rfl | assumption) : wpAny M A (storeName X.env x u) Q E s := by
  obtain ⟨m, hn, hl⟩ := id I.loc
  have hcls : (X.env.scope.kind == .class || (X.env.scope.kind == .module && X.env.locals != X.env.globals)) = false := by rw [I.ok.kind]; rfl
  have hiσ : i < σ.length := by rw [I.len]; exact (List.getElem?_eq_some_iff.mp hi).1
  have cne := I.cne
  have tracked : ∀ {a : Addr} {h' : Heap}, (∃ o, s.heap.get? a = some o ∧ H a = none) → Heap.SameBut a s.heap h' → HOk X.prog X.w H h' := fun {a h'} ha hs b ob e => by
    obtain ⟨_, _, hfree⟩ := ha
    refine (I.hok b ob e).stay (fun c w' hc q => (hs.2 c ?_).trans q) (fun _ q => q) fun _ _ q => q
    rintro rfl
    rcases hc with rfl | hc
    · rw [hfree] at e; cases e
    · rw [hfree] at hc; cases hc
  rcases hx with hk | hk
  · refine wpAny_storeName_local hk hn (fun h' hn' hs => ?_) hcls
    obtain ⟨oL, _, _, hoL, _⟩ := id hn
    refine h _ ⟨I.ok, I.os, I.bare, ⟨fun b o e n hb hx => ?_, fun b o e n hb hx => ?_, I.base.free, fun b o e hx => ?_, I.base.tups, I.base.frzs, I.base.tbls⟩, ⟨_, hn', fun j y v' e1 e2 e3 => ?_⟩, fun y c e => ?_, I.free, I.freeC, fun p hp => ?_, tracked ⟨oL, hoL, I.free⟩ hs, by simpa using I.len⟩ ⟨_, hs, .inl rfl⟩
    · exact (hs.2 b (Nat.ne_of_lt (Nat.lt_of_lt_of_le (Heap.lt_size e) I.ok.above))).trans (I.base.keep b o e n hb hx)
    · obtain ⟨sl, e1⟩ := I.base.slot b o e n hb hx
      exact ⟨sl, (hs.2 b (Nat.ne_of_lt (Nat.lt_of_lt_of_le (Heap.lt_size e) I.ok.above))).trans e1⟩
    · obtain ⟨o', e1⟩ := I.base.there b o e hx
      exact ⟨o', (hs.2 b (Nat.ne_of_lt (Nat.lt_of_lt_of_le (Heap.lt_size e) I.ok.above))).trans e1⟩
    · by_cases hj : j = i
      · subst hj
        rw [hi] at e1; cases e1
        rw [List.getElem?_set_self hiσ] at e2
        cases e2
        exact ⟨u, r, .inl ⟨hk, by simp⟩⟩
      · rw [List.getElem?_set_ne (Ne.symm hj)] at e2
        obtain ⟨u', r', q⟩ := hl j y v' e1 e2 e3
        refine ⟨u', r', ?_⟩
        rcases q with ⟨k, e⟩ | ⟨k, c, e, z⟩
        · refine .inl ⟨k, ?_⟩
          have : y ≠ x := fun e => hj (nodup_ix hN e1 (e ▸ hi))
          simp [this, e]
        · exact .inr ⟨k, c, e, z.sameBut hs (cne y c e)⟩
    · obtain ⟨w', z⟩ := I.cell y c e
      exact ⟨w', z.sameBut hs (cne y c e)⟩
    · obtain ⟨e, n, ne, nf, d⟩ := I.pin p hp
      exact ⟨(hs.2 p.1 ne).trans e, n, ne, nf, d⟩
  · have hfn : X.fn x = true := by
      rcases hf with z | z
      · exact z
      · rw [z] at hk; cases hk
    obtain ⟨c, hc⟩ := I.ok.has x (.inl hk)
    obtain ⟨w', z⟩ := I.cell x c hc
    refine wpAny_storeName_cell I.ok.kind hk hc z (fun h' hc' hs => ?_)
    obtain ⟨oc, hoc, hocd⟩ := id z
    refine h { s with heap := h' } ⟨I.ok, I.os, I.bare, ⟨fun b o e n hb hx => ?_, fun b o e n hb hx => ?_, I.base.free, fun b o e hx => ?_, I.base.tups, I.base.frzs, I.base.tbls⟩, ⟨m, hn.sameBut hs (Ne.symm (cne x c hc)), fun j y v' e1 e2 e3 => ?_⟩, fun y c' e => ?_, I.free, I.freeC, fun p hp => ?_, tracked ⟨oc, hoc, I.freeC x c hc⟩ hs, by simpa using I.len⟩ ⟨c, hs, .inr hc⟩
    · exact (hs.2 b (Nat.ne_of_lt (Nat.lt_of_lt_of_le (Heap.lt_size e) (I.ok.cab x c hfn hc)))).trans (I.base.keep b o e n hb hx)
    · obtain ⟨sl, e1⟩ := I.base.slot b o e n hb hx
      exact ⟨sl, (hs.2 b (Nat.ne_of_lt (Nat.lt_of_lt_of_le (Heap.lt_size e) (I.ok.cab x c hfn hc)))).trans e1⟩
    · obtain ⟨o', e1⟩ := I.base.there b o e hx
      exact ⟨o', (hs.2 b (Nat.ne_of_lt (Nat.lt_of_lt_of_le (Heap.lt_size e) (I.ok.cab x c hfn hc)))).trans e1⟩
    · by_cases hj : j = i
      · subst hj
        rw [hi] at e1; cases e1
        rw [List.getElem?_set_self hiσ] at e2
        cases e2
        exact ⟨u, r, .inr ⟨.inl hk, c, hc, hc'⟩⟩
      · rw [List.getElem?_set_ne (Ne.symm hj)] at e2
        obtain ⟨u', r', q⟩ := hl j y v' e1 e2 e3
        refine ⟨u', r', ?_⟩
        rcases q with q | ⟨k, c', e, z'⟩
        · exact .inl q
        · refine .inr ⟨k, c', e, z'.sameBut hs ?_⟩
          rintro rfl
          exact hj (nodup_ix hN e1 (I.ok.inj _ _ _ e hc ▸ hi))
    · by_cases hcc : c' = c
      · subst hcc; exact ⟨_, hc'⟩
      · obtain ⟨w2, z2⟩ := I.cell y c' e
        exact ⟨w2, z2.sameBut hs hcc⟩
    · obtain ⟨e, n, ne, nf, d⟩ := I.pin p hp
      refine ⟨(hs.2 p.1 ?_).trans e, n, ne, nf, d⟩
      intro q
      rw [q, hoc] at e
      have q' : oc = p.2 := Option.some.inj e
      exact d w' (by rw [← q']; exact hocd)
theorem store_ok {M : Model} {A : Around} {E : Value → Shared → Prop} {i : Nat} {x : Str} {v : V} {u : Value} {Q : Unit → Shared → Prop} (I : Inv X pins σ H s) (hN : X.N.Nodup) (hi : X.N[i]? = some x) (hx : Loc X.env.scope x) (r : RelV v u)
    (h : ∀ s', Inv X pins (σ.set i (some v)) H s' → Q () s') (hf : X.fn x = true ∨ X.env.scope.names.lookup x = some .local := by first | exact .inl rfl | exact .inr rfl | assumption) : wpAny M A (storeName X.env x u) Q E s :=
  store_ok2 I hN hi hx r (fun s' I' _ => h s' I') hf
theorem Inv.call' {s' : Shared} {ch : List Addr} (I : Inv X pins σ H s) (ho : s'.os = s.os) (u : Un (frs X.stack) ch H H' s.heap s'.heap) (hok : HOk X.prog X.w H' s'.heap) (hg : AllBare s'.gens)
    (hch : ∀ b ∈ ch, (b ∈ X.ex ∨ X.s_0.heap.objs.size ≤ b) ∧ b ≠ X.env.locals ∧ (∀ x c, X.env.cells.lookup x = some c → c ≠ b) ∧ ∀ p ∈ X.pn ++ pins, p.1 ≠ b) : Inv X pins σ H' s' := by
  obtain ⟨h', g', d', t', o'⟩ := s'
  have e : o' = s.os := ho
  subst e
  exact I.call (g' := g') (t' := t') (d' := d') u hok hg hch
end

noncomputable abbrev XK := Value → Option Addr → Hp → Prop
noncomputable abbrev St := List (Option V)
noncomputable abbrev VK := V → Hp → Prop
noncomputable abbrev TE := St → Hp → VK → Prop
noncomputable abbrev TT := St → Hp → (Bool → Hp → Prop) → Prop
noncomputable abbrev TA := St → Hp → (List V → Hp → Prop) → Prop
structure Ends where
  nx : St → Hp → Prop
  rt : VK
  bk : St → Hp → Prop := fun _ _ => False
  ct : St → Hp → Prop := fun _ _ => False
noncomputable abbrev TS := Ends → St → Hp → Prop

noncomputable def EP (X : Cx) (pins : List (Addr × Obj)) (σ : St) (Q : VK) (u : Value) (s' : Shared) : Prop := ∃ v H', Inv X pins σ H' s' ∧ RelV v u ∧ Q v H'
noncomputable def TP (X : Cx) (pins : List (Addr × Obj)) (σ : St) (Q : Bool → Hp → Prop) (b : Bool) (s' : Shared) : Prop := ∃ H', Inv X pins σ H' s' ∧ Q b H'
noncomputable def AP (X : Cx) (pins : List (Addr × Obj)) (σ : St) (Q : List V → Hp → Prop) (us : List Value) (s' : Shared) : Prop := ∃ vs H', Inv X pins σ H' s' ∧ Vals vs us ∧ Q vs H'
noncomputable def SP (X : Cx) (pins : List (Addr × Obj)) (D : Ends) (f : Flow) (s' : Shared) : Prop :=
  match f with
  | .next => ∃ σ' H', Inv X pins σ' H' s' ∧ D.nx σ' H'
  | .brk => ∃ σ' H', Inv X pins σ' H' s' ∧ D.bk σ' H'
  | .cont => ∃ σ' H', Inv X pins σ' H' s' ∧ D.ct σ' H'
  | .ret u => ∃ v σ' H', Inv X pins σ' H' s' ∧ RelV v u ∧ D.rt v H'

noncomputable def PE (X : Cx) (e : Expr) (t : TE) : Prop :=
  ∀ (pins : List (Addr × Obj)) (s : Shared) (σ : St) (H : Hp) (Q : VK), Inv X pins σ H s → t σ H Q → wpAny (model X.prog X.w) X.A (eval e X.env) (EP X pins σ Q) X.xe s
noncomputable def PT (X : Cx) (e : Expr) (t : TT) : Prop :=
  ∀ (pins : List (Addr × Obj)) (s : Shared) (σ : St) (H : Hp) (Q : Bool → Hp → Prop), Inv X pins σ H s → t σ H Q → wpAny (model X.prog X.w) X.A (isTrue e X.env (eval e X.env)) (TP X pins σ Q) X.xe s
noncomputable def PW (X : Cx) (e : Expr) (t : TT) : Prop :=
  ∀ (whole : Sem Value) (pins : List (Addr × Obj)) (s : Shared) (σ : St) (H : Hp) (Q : Bool → Hp → Prop), Inv X pins σ H s → t σ H Q → wpAny (model X.prog X.w) X.A (isTrue e X.env whole) (TP X pins σ Q) X.xe s
theorem PW.pt {X : Cx} {e : Expr} {t : TT} (h : PW X e t) : PT X e t := h _
noncomputable def PA (X : Cx) (es : List Expr) (t : TA) : Prop :=
  ∀ (pos : Pos) (pins : List (Addr × Obj)) (s : Shared) (σ : St) (H : Hp) (Q : List V → Hp → Prop), Inv X pins σ H s → t σ H Q → wpAny (model X.prog X.w) X.A (spliced (backTo pos (starEach es X.env))) (AP X pins σ Q) X.xe s
noncomputable def PS (X : Cx) (st : Stmt) (t : TS) : Prop :=
  ∀ (pins : List (Addr × Obj)) (s : Shared) (σ : St) (H : Hp) (D : Ends), Inv X pins σ H s → t D σ H → wpAny (model X.prog X.w) X.A (exec st X.env) (SP X pins D) X.xe s
noncomputable def PSs (X : Cx) (st : List Stmt) (t : TS) : Prop :=
  ∀ (pins : List (Addr × Obj)) (s : Shared) (σ : St) (H : Hp) (D : Ends), Inv X pins σ H s → t D σ H → wpAny (model X.prog X.w) X.A (execs st X.env) (SP X pins D) X.xe s
theorem thn {α : Type} {t : Sem α} {Q Q' : α → Shared → Prop} {M : Model} {A : Around} {E : Value → Shared → Prop} {s : Shared} (h : wpAny M A t Q E s) (hQ : ∀ a s, Q a s → Q' a s) : wpAny M A t Q' E s := wpAny_mono h hQ fun _ _ x => x
end L2

namespace L2
open PySem PySem.Spec PyProof.Rows
section
variable {X : Cx}

noncomputable def tVar (i : Nat) : TE := fun σ H Q => ∃ v, σ[i]? = some (some v) ∧ Q v H
noncomputable def tC (v : V) : TE := fun _ H Q => Q v H
theorem pe_var {i : Nat} {x : Str} {pos : Pos} (hN : X.N[i]? = some x) (hv : Vis X.env.scope x) (hd : (x == ("__debug__" : Str)) = false := by decide) (hcd : (x == ("__classdict__" : Str)) = false := by decide) : PE X (.Name x pos) (tVar i) := by
  intro pins s σ H Q I h
  obtain ⟨v, e, h⟩ := h
  obtain ⟨m, hn, hl⟩ := I.loc
  obtain ⟨u, r, l⟩ := hl i x v hN e hv
  have fin : EP X pins σ Q u s := ⟨v, H, I, r, h⟩
  rcases l with ⟨hk, hm⟩ | ⟨hk, c, hc, hcell⟩
  · exact wpAny_Name (wpAny_loadName_local I.ok.kind hk hn hm fin) hd
  · rcases hk with hk | hk
    · exact wpAny_Name (wpAny_loadName_cell I.ok.kind hk hc hcell fin) hd
    · exact wpAny_Name (wpAny_loadName_free I.ok.kind hk hc hcell fin hcd) hd
theorem pe_int {i j pos} : PE X (.Constant (.int i) j pos) (tC (.int i)) := fun _ _ _ H _ I h => wpAny_Constant_int ⟨.int i, H, I.tok _, ⟨_, rfl⟩, h⟩
theorem pe_non {j pos} : PE X (.Constant .none j pos) (tC .non) := fun _ _ _ H _ I h => Constant_none ⟨.non, H, I, rfl, h⟩
theorem pe_str {x j pos} : PE X (.Constant (.str x) j pos) (tC (.str x)) := fun _ _ _ H _ I h => Calls.Constant_str ⟨.str x, H, I.tok _, ⟨_, rfl⟩, h⟩

noncomputable def Gl (X : Cx) (x : Str) : Prop := X.env.kindOf x = some .globalImplicit
theorem ld_glob {E : Value → Shared → Prop} {pins : List (Addr × Obj)} {s : Shared} {σ : St} {H : Hp} {x : Str} {u : Value} {pos : Pos} {Q : Value → Shared → Prop} (I : Inv X pins σ H s) (hg : Gl X x) (hm : X.mg x = some u) (h : Q u s)
    (hd : (x == ("__debug__" : Str)) = false := by decide) : wpAny (model X.prog X.w) X.A (eval (.Name x pos) X.env) Q E s :=
  Calls.Name_function_global I.ok.kind hg (Calls.loadGlobal_global (by rw [I.ok.glob]; exact I.mod.glob.keeps I.bk) hm h) hd
theorem ld_blt {E : Value → Shared → Prop} {pins : List (Addr × Obj)} {s : Shared} {σ : St} {H : Hp} {x : Str} {u : Value} {pos : Pos} {Q : Value → Shared → Prop} (I : Inv X pins σ H s) (hg : Gl X x) (hm : X.mg x = none) (hv : bootBuiltins x = some u) (h : Q u s)
    (hn : x ≠ "__name__" := by decide) (hd : (x == ("__debug__" : Str)) = false := by decide) : wpAny (model X.prog X.w) X.A (eval (.Name x pos) X.env) Q E s := by
  obtain ⟨mb, h1, h2⟩ := I.mod.blt
  exact Calls.Name_function_global I.ok.kind hg (Calls.loadGlobal_builtin (by rw [I.ok.glob]; exact I.mod.glob.keeps I.bk) hm (by rw [I.ok.blt]; exact h1.keeps I.bk) ((h2 x hn).trans hv) h) hd
theorem pe_glob {x : Str} {v : V} {u : Value} {pos : Pos} (hg : Gl X x) (hm : X.mg x = some u) (r : RelV v u) (hd : (x == ("__debug__" : Str)) = false := by decide) : PE X (.Name x pos) (tC v) :=
  fun _ _ _ H _ I h => ld_glob I hg hm ⟨v, H, I, r, h⟩ hd
variable {a b : Expr} {ta tb : TE} {pos : Pos}
noncomputable def tB (t : TE) : TT := fun σ H Q => t σ H fun x H1 => ∃ c, x = .bl c ∧ Q c H1
theorem pt_val {e : Expr} {t : TE} (h : PE X e t) (he : ∀ whole, isTrue e X.env whole = (do let v ← whole; standAt e.pos; holding [v] (truthy v)) := by intro _; rfl) : PT X e (tB t) := by
  intro pins s σ H Q I hw
  refine isTrue_plain (thn (h pins s σ H _ I hw) fun v s1 ⟨x, H1, I1, r1, q1⟩ => ?_) (he _)
  obtain ⟨d, rfl, q⟩ := q1
  cases r1
  exact wpAny_truthy_bool ⟨H1, I1, q⟩

variable {tA tB' : TT} {rest : List Expr}
noncomputable def tOr (t u : TT) : TT := fun σ H Q => t σ H fun c H1 => if c = true then Q true H1 else u σ H1 Q
theorem pw_or1 (ha : PT X a tA) : PW X (.BoolOp .Or [a] pos) tA := by
  intro wh pins s σ H Q I h
  refine isTrue_or (thn (ha pins s σ H Q I h) fun c s1 e => ?_)
  cases c with
  | false => exact isTrue_or_nil e
  | true => exact e
theorem pw_or (ha : PT X a tA) (hb : PW X (.BoolOp .Or (b :: rest) pos) tB') : PW X (.BoolOp .Or (a :: b :: rest) pos) (tOr tA tB') := by
  intro wh pins s σ H Q I h
  refine isTrue_or (thn (ha pins s σ H _ I h) fun c s1 ⟨H1, I1, q1⟩ => ?_)
  cases c with
  | true => exact ⟨H1, I1, q1⟩
  | false => exact hb wh pins s1 σ H1 Q I1 q1
noncomputable def tIf (t : TT) (ta tb : TE) : TE := fun σ H Q => t σ H fun c H1 => if c = true then ta σ H1 Q else tb σ H1 Q
theorem pe_ifExp {c : Expr} (hc : PT X c tA) (ha : PE X a ta) (hb : PE X b tb) : PE X (.IfExp c a b pos) (tIf tA ta tb) := by
  intro pins s σ H Q I h
  refine wpAny_IfExp (thn (hc pins s σ H _ I h) fun d s1 ⟨H1, I1, q1⟩ => ?_)
  cases d with
  | true => exact ha pins s1 σ H1 Q I1 q1
  | false => exact hb pins s1 σ H1 Q I1 q1
end
end L2

namespace L2
open PySem PySem.Spec PyProof.Rows

noncomputable def SqL (K : PySem.W.Frag) (H : Hp) (a : Addr) (xs : List V) : Prop :=
  Rd H a (.lst xs) ∨
    ∃ (o : Obj) (its : Array Value) (n : Nat), K.lookup a = some o ∧ o.cls = .type "list" ∧ o.dict = none ∧ o.data = .seq its n ∧ its.size ≤ sizeLine ∧ Vals xs its.toList
noncomputable def SqT (K : PySem.W.Frag) (H : Hp) (a : Addr) (xs : List V) : Prop :=
  Rd H a (.tup xs) ∨
    ∃ (o : Obj) (its : Array Value) (n : Nat), K.lookup a = some o ∧ o.cls = .type "tuple" ∧ o.data = .seq its n ∧ its.size ≤ sizeLine ∧ Vals xs its.toList
noncomputable def absV : Value → Option V
  | .none => some .non
  | .bool b => some (.bl b)
  | .int i _ => some (.int i)
  | .str x _ => some (.str x)
  | .bytes b _ => some (.byt b)
  | .float b _ => some (.flt b)
  | .ref a => some (.ref a)
  | .type n => some (.ty n)
  | _ => none
theorem RelV.abs {x : V} {u : Value} (r : RelV x u) : absV u = some x := by
  cases x with
  | non => cases r; rfl
  | bl _ => cases r; rfl
  | int _ => obtain ⟨t, rfl⟩ := r; rfl
  | str _ => obtain ⟨t, rfl⟩ := r; rfl
  | byt _ => obtain ⟨t, rfl⟩ := r; rfl
  | flt _ => obtain ⟨t, rfl⟩ := r; rfl
  | ref _ => cases r; rfl
  | ty _ => cases r; rfl
theorem RelV.inj {x y : V} {u : Value} (r : RelV x u) (q : RelV y u) : x = y := Option.some.inj (r.abs.symm.trans q.abs)
theorem Vals.inj : ∀ {xs ys : List V} {us : List Value}, Vals xs us → Vals ys us → xs = ys
  | _, _, _, .nil, .nil => rfl
  | _, _, _, .cons r t, .cons r' t' => by rw [r.inj r', Vals.inj t t']
section
variable {X : Cx} {pins : List (Addr × Obj)} {σ : St} {H : Hp} {s : Shared} {a : Addr} {xs ys : List V}
theorem SqL.of {K : PySem.W.Frag} (h : H a = some (.lst xs)) : SqL K H a xs := .inl (.inl h)
theorem Inv.list (I : Inv X pins σ H s) (h : SqL X.K H a xs) : ∃ its : List Value, Vals xs its ∧ PlainL s.heap a its.toArray ∧ xs.length ≤ sizeLine := by
  rcases h with h | ⟨o, its, n, hk, hc, hd, hs, hz, r⟩
  · obtain ⟨z, its, n, r, e⟩ := h.ok I.hok
    exact ⟨its, r, ⟨_, n, e, rfl, rfl, rfl⟩, z⟩
  · refine ⟨its.toList, r, ⟨o, n, I.kIn a o hk, hc, hd, by simpa using hs⟩, ?_⟩
    have e := r.length
    simp only [Array.length_toList] at e
    omega
theorem Inv.tuple (I : Inv X pins σ H s) (h : SqT X.K H a xs) : ∃ its : List Value, Vals xs its ∧ IsTup s.heap a its.toArray ∧ xs.length ≤ sizeLine := by
  rcases h with h | ⟨o, its, n, hk, hc, hs, hz, r⟩
  · obtain ⟨z, its, r, p⟩ := h.ok I.hok
    exact ⟨its, r, p, z⟩
  · refine ⟨its.toList, r, ⟨o, I.kIn a o hk, hc, n, by simpa using hs⟩, ?_⟩
    have e := r.length
    simp only [Array.length_toList] at e
    omega
theorem Inv.list_inj (I : Inv X pins σ H s) (h : SqL X.K H a xs) (h' : SqL X.K H a ys) : xs = ys := by
  obtain ⟨its, r, ⟨o, n, e, _, _, d⟩, _⟩ := I.list h
  obtain ⟨its', r', ⟨o', n', e', _, _, d'⟩, _⟩ := I.list h'
  rw [e] at e'; cases e'
  rw [d] at d'
  injection d' with d1 _
  have : its = its' := by simpa using congrArg Array.toList d1
  subst this
  exact r.inj r'
theorem Inv.tuple_inj (I : Inv X pins σ H s) (h : SqT X.K H a xs) (h' : SqT X.K H a ys) : xs = ys := by
  obtain ⟨its, r, ⟨o, e, _, n, d⟩, _⟩ := I.tuple h
  obtain ⟨its', r', ⟨o', e', _, n', d'⟩, _⟩ := I.tuple h'
  rw [e] at e'; cases e'
  rw [d] at d'
  injection d' with d1 _
  have : its = its' := by simpa using congrArg Array.toList d1
  subst this
  exact r.inj r'
end

noncomputable abbrev Cx.wish (X : Cx) (E : Value → Shared → Prop) : Cx := { X with xe := E }
section
variable {X : Cx} {pins : List (Addr × Obj)} {σ : St} {H : Hp} {s : Shared} {E : Value → Shared → Prop}
end

section
variable {X : Cx} {st : Stmt} {rest : List Stmt} {t u : TS} {e : Expr} {te : TE} {pos : Pos}
noncomputable def tNext : TS := fun D σ H => D.nx σ H
noncomputable def tSeq (t u : TS) : TS := fun D σ H => t { D with nx := u D } σ H
theorem pss_nil : PSs X [] tNext := fun _ _ σ H _ I h => wpAny_execs_nil ⟨σ, H, I, h⟩
theorem pss_cons (h1 : PS X st t) (h2 : PSs X rest u) : PSs X (st :: rest) (tSeq t u) := by
  intro pins s σ H D I h
  refine wpAny_execs_cons (thn (h1 pins s σ H { D with nx := u D } I h) fun f s1 q => ?_)
  cases f with
  | next =>
    obtain ⟨σ', H', I', q⟩ := q
    exact h2 pins s1 σ' H' D I' q
  | ret v => exact q
  | brk => exact q
  | cont => exact q
theorem pss_one (h1 : PS X st t) : PSs X [st] t := by
  intro pins s σ H D I h
  refine wpAny_execs_cons (thn (h1 pins s σ H D I h) fun f s1 q => ?_)
  cases f with
  | next => exact wpAny_execs_nil q
  | ret v => exact q
  | brk => exact q
  | cont => exact q
theorem Inv.quiet {pins : List (Addr × Obj)} {σ : St} {H : Hp} {s : Shared} (I : Inv X pins σ H s) : interactive X.env = false := by simp [interactive, I.ok.kind]
noncomputable def tDrop (te : TE) : TS := fun D σ H => te σ H fun _ H1 => D.nx σ H1
theorem ps_expr (he : PE X e te) (hs : swapsWith e none pos.line X.env = pure false := by rfl) : PS X (.Expr e pos) (tDrop te) := by
  intro pins s σ H D I h
  exact wpAny_Expr_any (thn (he pins s σ H _ I h) fun v s1 ⟨x, H1, I1, r1, q1⟩ => ⟨σ, H1, I1, q1⟩) I.quiet hs
noncomputable def tRet (te : TE) : TS := fun D σ H => te σ H D.rt
theorem ps_ret (he : PE X e te) : PS X (.Return (some e) pos) (tRet te) := by
  intro pins s σ H D I h
  exact wpAny_Return_some (thn (he pins s σ H _ I h) fun v s1 ⟨x, H1, I1, r1, q1⟩ => ⟨x, σ, H1, I1, r1, q1⟩)
noncomputable def tIfS (c : TT) (t u : TS) : TS := fun D σ H => c σ H fun b H1 => if b = true then t D σ H1 else u D σ H1
theorem ps_if {c : Expr} {a b : List Stmt} {tc : TT} (hc : PT X c tc) (ha : PSs X a t) (hb : PSs X b u) : PS X (.If c a b pos) (tIfS tc t u) := by
  intro pins s σ H D I h
  refine wpAny_If (thn (hc pins s σ H _ I h) fun d s1 ⟨H1, I1, q1⟩ => ?_)
  cases d with
  | true => exact ha pins s1 σ H1 D I1 q1
  | false => exact hb pins s1 σ H1 D I1 q1
end

noncomputable abbrev TG := V → St → Hp → (St → Hp → Prop) → Prop
noncomputable def PG (X : Cx) (target : Expr) (t : TG) : Prop :=
  ∀ (pins : List (Addr × Obj)) (s : Shared) (σ : St) (H : Hp) (v : V) (u : Value) (Q : St → Hp → Prop), Inv X pins σ H s → RelV v u → t v σ H Q →
    wpAny (model X.prog X.w) X.A (assign target X.env u) (fun _ s' => ∃ σ' H', Inv X pins σ' H' s' ∧ Q σ' H') X.xe s
section
variable {X : Cx} {pos : Pos}
noncomputable def gName (i : Nat) : TG := fun v σ H Q => Q (σ.set i (some v)) H
theorem pg_name {i : Nat} {x : Str} (hN : X.N.Nodup) (hi : X.N[i]? = some x) (hx : Loc X.env.scope x) (hf : X.fn x = true ∨ X.env.scope.names.lookup x = some .local := by first | exact .inl rfl | exact .inr rfl | assumption) : PG X (.Name x pos) (gName i) := by
  intro pins s σ H v u Q I r h
  exact wpAny_assign_Name (store_ok I hN hi hx r (fun s' I' => ⟨_, H, I', h⟩) hf)
noncomputable def tAsg (te : TE) (g : TG) : TS := fun D σ H => te σ H fun x H1 => g x σ H1 D.nx
theorem ps_set {i : Nat} {x : Str} {e : Expr} {te : TE} {pos' : Pos} (hN : X.N.Nodup) (hi : X.N[i]? = some x) (hx : Loc X.env.scope x) (he : PE X e te) (hs : swapsWith e (some (.Name x pos')) pos.line X.env = pure false := by rfl) (hf : X.fn x = true ∨ X.env.scope.names.lookup x = some .local := by first | exact .inl rfl | exact .inr rfl | assumption) :
    PS X (.Assign [.Name x pos'] e pos) (tAsg te (gName i)) := by
  intro pins s σ H D I h
  refine wpAny_Assign_Name (thn (he pins s σ H _ I h) fun v s1 ⟨y, H1, I1, r1, q1⟩ => ?_) hs
  exact store_ok I1 hN hi hx r1 (fun s2 I2 => ⟨_, H1, I2, q1⟩) hf
end

section
variable {X : Cx} {pos : Pos}
end

structure It where
  go : Nat → Hp → Prop
  yld : Nat → Hp → V → Hp → Prop
  stop : Nat → Hp → Prop
noncomputable def FpOk (X : Cx) (pins : List (Addr × Obj)) (H : Hp) (b : Addr) : Prop :=
  H b = none ∧ b ≠ X.env.locals ∧ b ∉ X.fs ∧ (b ∈ X.ex ∨ X.s_0.heap.objs.size ≤ b) ∧ (∀ x c, X.env.cells.lookup x = some c → c ≠ b) ∧ ∀ p ∈ X.pn ++ pins, p.1 ≠ b
theorem Inv.fpOk {X : Cx} {pins : List (Addr × Obj)} {σ : St} {H H' : Hp} {s : Shared} {b : Addr} (I : Inv X pins σ H s) (hb : s.heap.objs.size ≤ b) (hn : H' b = none) : FpOk X pins H' b := by
  refine ⟨hn, Nat.ne_of_gt (Nat.lt_of_lt_of_le I.lt hb), I.nofs hb, .inr (Nat.le_trans I.sz hb), fun x c e z => ?_, fun p hp z => ?_⟩
  · obtain ⟨v, q⟩ := I.cell x c e
    exact absurd (Nat.lt_of_lt_of_le q.lt (by rw [z]; exact hb)) (Nat.lt_irrefl _)
  · exact absurd (Nat.lt_of_lt_of_le (Heap.lt_size (I.pin p hp).1) (by rw [z]; exact hb)) (Nat.lt_irrefl _)
structure Turn (P : Program) (w : World) (K : PySem.W.Frag) (tg : Expr) (J : It) (fp : List Addr) (it : Addr) (tn : Nat → Heap → Prop) : Prop where
  mem : it ∈ fp
  obj : ∀ i h, tn i h → ∀ b ∈ fp, ∃ o, h.get? b = some o ∧ ∀ v, o.data ≠ .cell v
  keep : ∀ i h h', tn i h → (∀ b ∈ fp, ∀ o, h.get? b = some o → h'.get? b = some o) → tn i h'
  item : ∀ (X : Cx), X.prog = P → X.w = w → X.K = K → X.calm = true → ∀ (i : Nat) (pins : List (Addr × Obj)) (s : Shared) (σ : St) (H : Hp) (E : Value → Shared → Prop), Inv X pins σ H s → (∀ b ∈ fp, FpOk X pins H b) → tn i s.heap → J.go i H →
    wpAny (model P w) X.A (pyNext (.ref it)) (fun r s1 => ∃ u, r = some u ∧
      wpAny (model P w) X.A (letOwnedTupleGo tg (.ref it) u) (fun _ s2 => ∃ x H', Inv X pins σ H' s2 ∧ RelV x u ∧ J.yld i H x H' ∧ tn (i + 1) s2.heap ∧ ∀ b ∈ fp, H' b = none) E s1) E s
  done : ∀ (X : Cx), X.prog = P → X.w = w → X.K = K → X.calm = true → ∀ (i : Nat) (pins : List (Addr × Obj)) (s : Shared) (σ : St) (H : Hp) (E : Value → Shared → Prop), Inv X pins σ H s → (∀ b ∈ fp, FpOk X pins H b) → tn i s.heap → J.stop i H →
    wpAny (model P w) X.A (pyNext (.ref it)) (fun r s1 => r = none ∧ Inv X pins σ H s1) E s
  self : ∀ (A : Around) (i : Nat) (s : Shared) (Q : Value → Shared → Prop) (E : Value → Shared → Prop), tn i s.heap → Q (.ref it) s → wpAny (model P w) A (pyIter (.ref it)) Q E s
noncomputable abbrev TI := St → Hp → (It → Hp → Prop) → Prop
noncomputable def PIE (X : Cx) (pins : List (Addr × Obj)) (σ : St) (tg : Expr) (R : It → Hp → Prop) (itv : Value) (s2 : Shared) : Prop :=
  ∃ (it : Addr) (fp : List Addr) (tn : Nat → Heap → Prop) (J : It) (H' : Hp), itv = .ref it ∧ Inv X pins σ H' s2 ∧ Turn X.prog X.w X.K tg J fp it tn ∧ tn 0 s2.heap ∧ (∀ b ∈ fp, FpOk X pins H' b) ∧ R J H'
noncomputable def PI (X : Cx) (tg iter : Expr) (wi : TI) : Prop :=
  ∀ (pins : List (Addr × Obj)) (s : Shared) (σ : St) (H : Hp) (R : It → Hp → Prop), Inv X pins σ H s → wi σ H R →
    wpAny (model X.prog X.w) X.A (eval iter X.env) (fun v s1 => wpAny (model X.prog X.w) X.A (pyIter v) (PIE X pins σ tg R) X.xe s1) X.xe s

theorem go_of {M : Model} {A : Around} {E : Value → Shared → Prop} {s : Shared} {tg : Expr} {it : Addr} {u : Value} {o : Obj} {n : String} {vs : Array Value} {Q : Unit → Shared → Prop} (ho : s.heap.get? it = some o) (hc : o.cls = .type n) (hd : o.data = .fields vs)
    (hn : ["enumerate", "zip", "dict_itemiterator", "dict_reverseitemiterator", "odict_iterator", "itertools.zip_longest", "itertools.pairwise"].contains n = false) (hQ : Q () s) : wpAny M A (letOwnedTupleGo tg (.ref it) u) Q E s := by
  unfold letOwnedTupleGo
  cases tg <;> first
    | exact wpAny_pure hQ
    | (cases u <;> first
        | exact wpAny_pure hQ
        | (refine wpAny_bind (wpAny_load ho ?_)
           rw [hc, hd]
           show wpAny M A (if (["enumerate", "zip", "dict_itemiterator", "dict_reverseitemiterator", "odict_iterator", "itertools.zip_longest", "itertools.pairwise"].contains n && vs[0]? == some (rawInt _)) = true then _ else _) Q E s
           rw [if_neg (by intro h; rw [hn, Bool.false_and] at h; cases h)]
           exact wpAny_pure hQ))

noncomputable def Itl (K : PySem.W.Frag) (a : Addr) : It :=
  ⟨fun i H => ∃ xs x, SqL K H a xs ∧ xs[i]? = some x, fun i H x H' => H' = H ∧ ∀ xs, SqL K H a xs → xs[i]? = some x, fun i H => ∃ xs, SqL K H a xs ∧ xs.length ≤ i⟩
noncomputable def Itt (K : PySem.W.Frag) (a : Addr) : It :=
  ⟨fun i H => ∃ xs x, SqT K H a xs ∧ xs[i]? = some x, fun i H x H' => H' = H ∧ ∀ xs, SqT K H a xs → xs[i]? = some x, fun i H => ∃ xs, SqT K H a xs ∧ xs.length ≤ i⟩
noncomputable def Itr (lo : Int) (n : Nat) : It := ⟨fun i _ => i < n, fun i H x H' => H' = H ∧ x = .int (lo + i), fun i _ => n ≤ i⟩
theorem turn_list {P : Program} {w : World} {K : PySem.W.Frag} {tg : Expr} (a it : Addr) : Turn P w K tg (Itl K a) [it] it (fun i h => h.IsListIter it a i) where
  mem := by simp
  obj := fun i h st b hb => by
    have e : b = it := by simpa using hb
    subst e
    obtain ⟨o, e, c, d⟩ := st
    exact ⟨o, e, fun v z => by rw [d] at z; cases z⟩
  keep := fun i h h' st k => st.at fun o e => k it (by simp) o e
  item := by
    intro X hP hw hK hc i pins s σ H E I hf st hg
    subst hP hw hK
    obtain ⟨xs, x, hq, hx⟩ := hg
    obtain ⟨its, rv, p, hz⟩ := I.list hq
    obtain ⟨u, hu, ru⟩ := rv.get hx
    obtain ⟨f0, f1, f2, f3, f4, f5⟩ := hf it (by simp)
    refine wpAny_pyNext_list_item st p.isList (x := u) (by simpa using hu) fun h' st' sb => ?_
    have I1 : Inv X pins σ H { s with heap := h' } := I.turned (t' := s.toks) (fun b o hb e => (sb.2 b hb).trans e) f0 f1 f3 f4 f5
    obtain ⟨o, e, c, d⟩ := id st'
    exact ⟨u, rfl, go_of (s := { s with heap := h' }) e c d (by decide) ⟨x, H, I1, ru, ⟨rfl, fun ys hy => by rw [I.list_inj hy hq]; exact hx⟩, st', fun b hb => (hf b hb).1⟩⟩
  done := by
    intro X hP hw hK hc i pins s σ H E I hf st hg
    subst hP hw hK
    obtain ⟨xs, hq, hx⟩ := hg
    obtain ⟨its, rv, p, hz⟩ := I.list hq
    obtain ⟨f0, f1, f2, f3, f4, f5⟩ := hf it (by simp)
    have hl := rv.length
    exact wpAny_pyNext_list_end (I.ok.hd hc) st p.isList (by simp; omega) fun h' eb => ⟨rfl, I.turned (t' := s.toks) (fun b o hb e => eb b o hb e) f0 f1 f3 f4 f5⟩
  self := fun _ _ _ _ _ st h => wpAny_pyIter_listiter st h
theorem turn_tuple {P : Program} {w : World} {K : PySem.W.Frag} {tg : Expr} (a it : Addr) : Turn P w K tg (Itt K a) [it] it (fun i h => h.IsTupleIter it a i) where
  mem := by simp
  obj := fun i h st b hb => by
    have e : b = it := by simpa using hb
    subst e
    obtain ⟨o, e, c, d⟩ := st
    exact ⟨o, e, fun v z => by rw [d] at z; cases z⟩
  keep := fun i h h' st k => st.at fun o e => k it (by simp) o e
  item := by
    intro X hP hw hK hc i pins s σ H E I hf st hg
    subst hP hw hK
    obtain ⟨xs, x, hq, hx⟩ := hg
    obtain ⟨its, rv, p, hz⟩ := I.tuple hq
    obtain ⟨u, hu, ru⟩ := rv.get hx
    obtain ⟨f0, f1, f2, f3, f4, f5⟩ := hf it (by simp)
    refine wpAny_pyNext_tuple_item st (show s.heap.IsTuple a its.toArray from p) (x := u) (by simpa using hu) fun h' st' sb => ?_
    have I1 : Inv X pins σ H { s with heap := h' } := I.turned (t' := s.toks) (fun b o hb e => (sb.2 b hb).trans e) f0 f1 f3 f4 f5
    obtain ⟨o, e, c, d⟩ := id st'
    exact ⟨u, rfl, go_of (s := { s with heap := h' }) e c d (by decide) ⟨x, H, I1, ru, ⟨rfl, fun ys hy => by rw [I.tuple_inj hy hq]; exact hx⟩, st', fun b hb => (hf b hb).1⟩⟩
  done := by
    intro X hP hw hK hc i pins s σ H E I hf st hg
    subst hP hw hK
    obtain ⟨xs, hq, hx⟩ := hg
    obtain ⟨its, rv, p, hz⟩ := I.tuple hq
    obtain ⟨f0, f1, f2, f3, f4, f5⟩ := hf it (by simp)
    have hl := rv.length
    exact wpAny_pyNext_tuple_end (I.ok.hd hc) st (show s.heap.IsTuple a its.toArray from p) (by simp; omega) fun h' eb => ⟨rfl, I.turned (t' := s.toks) (fun b o hb e => eb b o hb e) f0 f1 f3 f4 f5⟩
  self := fun _ _ _ _ _ st h => wpAny_pyIter_tupleiter st h
theorem turn_range {P : Program} {w : World} {K : PySem.W.Frag} {tg : Expr} (it : Addr) (lo : Int) (n : Nat) : Turn P w K tg (Itr lo n) [it] it (fun i h => IsRangeIter h it (lo + (i : Nat) * 1) ((n : Int) - (i : Nat)) 1) where
  mem := by simp
  obj := fun i h st b hb => by
    have e : b = it := by simpa using hb
    subst e
    exact ⟨_, st, fun v z => by
      have z' : Data.fields _ = Data.cell v := z
      cases z'⟩
  keep := fun i h h' st k => k it (by simp) _ st
  item := by
    intro X hP hw hK hc i pins s σ H E I hf st hg
    subst hP hw hK
    obtain ⟨f0, f1, f2, f3, f4, f5⟩ := hf it (by simp)
    have W := Walks.range (prog := X.prog) (w := X.w) (I.ok.hd hc) it lo 1 n
    refine W.item i s _ _ hg st fun v h' tk hv st' kk => ?_
    obtain ⟨t, rfl⟩ := hv
    have I1 : Inv X pins σ H { s with heap := h', toks := tk } := I.turned (fun b o hb e => kk b o (by simpa using hb) e) f0 f1 f3 f4 f5
    refine ⟨_, rfl, go_of (s := { s with heap := h', toks := tk }) (n := "range_iterator") st' rfl rfl (by decide) ⟨.int (lo + i), H, I1, ⟨t, ?_⟩, ⟨rfl, rfl⟩, st', fun b hb => (hf b hb).1⟩⟩
    rw [Int.mul_one]
  done := by
    intro X hP hw hK hc i pins s σ H E I hf st hg
    subst hP hw hK
    obtain ⟨f0, f1, f2, f3, f4, f5⟩ := hf it (by simp)
    exact wpAny_pyNext_range_end (I.ok.hd hc) st (by have : n ≤ i := hg; omega) fun h' eb => ⟨rfl, I.turned (t' := s.toks) (fun b o hb e => eb b o hb e) f0 f1 f3 f4 f5⟩
  self := fun _ _ _ _ _ st h => wpAny_pyIter_rangeiter st h
end L2

namespace L2
open PySem PySem.Spec PyProof.Rows
section
variable {X : Cx} {tg : Expr}
noncomputable def iList (K : PySem.W.Frag) (tl : TE) : TI := fun σ H R => tl σ H fun x H1 => ∃ a, x = .ref a ∧ (∃ xs, SqL K H1 a xs) ∧ R (Itl K a) H1
noncomputable def iTup (K : PySem.W.Frag) (tl : TE) : TI := fun σ H R => tl σ H fun x H1 => ∃ a, x = .ref a ∧ (∃ xs, SqT K H1 a xs) ∧ R (Itt K a) H1
theorem pi_list {l : Expr} {tl : TE} (hl : PE X l tl) : PI X tg l (iList X.K tl) := by
  intro pins s σ H R I h
  refine thn (hl pins s σ H _ I h) fun v s1 ⟨x, H1, I1, r1, q1⟩ => ?_
  obtain ⟨a, e, ⟨xs, hq⟩, q⟩ := q1
  subst e
  cases r1
  obtain ⟨its, rv, p, hz⟩ := I1.list hq
  refine wpAny_pyIter_list p.isList ?_
  refine ⟨s1.heap.objs.size, [s1.heap.objs.size], _, _, H1, rfl, I1.kept (t' := s1.toks) fun b o e => Heap.get?_push_of_some _ e, turn_list a _, ⟨_, Heap.get?_push_size _ rfl, rfl, rfl⟩, fun b hb => ?_, q⟩
  have e : b = s1.heap.objs.size := by simpa using hb
  subst e
  exact I1.fpOk (Nat.le_refl _) (I1.hok.fresh (Nat.le_refl _))
theorem pi_tup {l : Expr} {tl : TE} (hl : PE X l tl) : PI X tg l (iTup X.K tl) := by
  intro pins s σ H R I h
  refine thn (hl pins s σ H _ I h) fun v s1 ⟨x, H1, I1, r1, q1⟩ => ?_
  obtain ⟨a, e, ⟨xs, hq⟩, q⟩ := q1
  subst e
  cases r1
  obtain ⟨its, rv, p, hz⟩ := I1.tuple hq
  refine wpAny_pyIter_tuple (show s1.heap.IsTuple a its.toArray from p) ?_
  refine ⟨s1.heap.objs.size, [s1.heap.objs.size], _, _, H1, rfl, I1.kept (t' := s1.toks) fun b o e => Heap.get?_push_of_some _ e, turn_tuple a _, ⟨_, Heap.get?_push_size _ rfl, rfl, rfl⟩, fun b hb => ?_, q⟩
  have e : b = s1.heap.objs.size := by simpa using hb
  subst e
  exact I1.fpOk (Nat.le_refl _) (I1.hok.fresh (Nat.le_refl _))
theorem range_it {pins : List (Addr × Obj)} {σ : St} {H : Hp} {s : Shared} {R : It → Hp → Prop} {E : Value → Shared → Prop} {lo hi : Int} {t u v : Tok} {tk : Nat} (I : Inv X pins σ H s) (h1 : -(2 ^ 62) ≤ lo) (h2 : lo < 2 ^ 62) (h3 : -(2 ^ 62) ≤ hi) (h4 : hi < 2 ^ 62)
    (q : R (Itr lo (hi - lo).toNat) H) : wpAny (model X.prog X.w) X.A (pyIter (.ref s.heap.objs.size)) (PIE X pins σ tg R) E { s with heap := s.heap.push { cls := .type "range", data := .fields #[.int lo t, .int hi u, .int 1 v] }, toks := tk } := by
  refine wpAny_pyIter_range (IsRange.new ..) (small_one h1 h2 h3 h4) ?_
  have I1 : Inv X pins σ H { s with heap := s.heap.push { cls := .type "range", data := .fields #[.int lo t, .int hi u, .int 1 v] }, toks := tk } := I.kept fun b o e => Heap.get?_push_of_some _ e
  refine ⟨(s.heap.push { cls := .type "range", data := .fields #[.int lo t, .int hi u, .int 1 v] }).objs.size, [(s.heap.push { cls := .type "range", data := .fields #[.int lo t, .int hi u, .int 1 v] }).objs.size], _, _, H, rfl,
    I1.kept (t' := tk) fun b o e => Heap.get?_push_of_some _ e, turn_range _ lo (hi - lo).toNat, ?_, fun b hb => ?_, q⟩
  · have e1 : lo + ((0 : Nat) : Int) * 1 = lo := by simp
    have e2 : (((hi - lo).toNat : Nat) : Int) - ((0 : Nat) : Int) = Builtin.Range.rangeSize lo hi 1 := by rw [rangeSize_one]; split <;> omega
    show IsRangeIter _ _ (lo + ((0 : Nat) : Int) * 1) ((((hi - lo).toNat : Nat) : Int) - ((0 : Nat) : Int)) 1
    rw [e1, e2]
    exact Heap.get?_push_size _ rfl
  · have e : b = (s.heap.push { cls := .type "range", data := .fields #[.int lo t, .int hi u, .int 1 v] }).objs.size := by simpa using hb
    subst e
    exact I1.fpOk (Nat.le_refl _) (I1.hok.fresh (Nat.le_refl _))
noncomputable def iRng1 (ta : TA) : TI := fun σ H R => ta σ H fun vs H1 => ∃ j : Int, vs = [.int j] ∧ -(2 ^ 62) ≤ j ∧ j < 2 ^ 62 ∧ R (Itr 0 j.toNat) H1
theorem pi_range1 {a : Expr} {ta : TA} {p pos : Pos} (hg : Gl X "range") (hm : X.mg "range" = none) (ha : PA X [a] ta) (hs : starEach [a] X.env = [(false, eval a X.env)] := by rfl) : PI X tg (.Call (.Name "range" p) [a] [] pos) (iRng1 ta) := by
  intro pins s σ H R I h
  refine Call_ (ld_blt I hg hm boot_range (PyProof.Rows.callWith_type1 (thn (ha pos pins s σ H _ I h) fun us s1 ⟨vs, H1, I1, r1, q1⟩ => ?_) hs rfl))
  obtain ⟨j, e, q1, q2, q⟩ := q1
  subst e
  cases r1 with
  | cons r rr =>
    cases rr
    obtain ⟨t, rfl⟩ := r
    exact call_range_1 (range_it I1 (by omega) (by omega) q1 q2 (by simpa using q))
noncomputable def tFor (wi : TI) (g : TG) (tb : TS) : TS := fun D σ H => wi σ H fun J H1 => ∃ W : Nat → Nat → St → Hp → Prop, (∃ m, W 0 m σ H1) ∧ ∀ i m σ H, W i m σ H →
  (J.stop i H ∧ D.nx σ H) ∨ (J.go i H ∧ ∃ N : St → Hp → Prop, (∀ σ' H', N σ' H' → ∃ m', m' < m ∧ W (i + 1) m' σ' H') ∧ ∀ x H', J.yld i H x H' → g x σ H' fun σ2 H2 => tb { D with nx := N, ct := N, bk := D.nx } σ2 H2)
noncomputable def pinsAt (fp : List Addr) (h : Heap) : List (Addr × Obj) := fp.filterMap fun b => (h.get? b).map fun o => (b, o)
theorem mem_pinsAt {fp : List Addr} {h : Heap} {b : Addr} {o : Obj} (hb : b ∈ fp) (e : h.get? b = some o) : (b, o) ∈ pinsAt fp h := List.mem_filterMap.mpr ⟨b, hb, by rw [e]; rfl⟩
theorem of_pinsAt {fp : List Addr} {h : Heap} {p : Addr × Obj} (hp : p ∈ pinsAt fp h) : p.1 ∈ fp ∧ h.get? p.1 = some p.2 := by
  obtain ⟨b, hb, e⟩ := List.mem_filterMap.mp hp
  cases q : h.get? b with
  | none => rw [q] at e; cases e
  | some o =>
    rw [q] at e
    have e' : (b, o) = p := Option.some.inj e
    subst e'
    exact ⟨hb, q⟩
theorem Inv.pinned {pins : List (Addr × Obj)} {σ : St} {H : Hp} {s : Shared} {fp : List Addr} (I : Inv X pins σ H s) (hf : ∀ b ∈ fp, FpOk X pins H b) (ho : ∀ b ∈ fp, ∃ o, s.heap.get? b = some o ∧ ∀ v, o.data ≠ .cell v) : Inv X (pins ++ pinsAt fp s.heap) σ H s :=
  I.pins_of fun p hp => (List.mem_append.mp hp).elim (fun z => I.pin p (List.mem_append_right _ z)) fun z => by
    obtain ⟨hb, e⟩ := of_pinsAt z
    obtain ⟨f0, f1, f2, _⟩ := hf p.1 hb
    obtain ⟨o, e', d⟩ := ho p.1 hb
    rw [e] at e'; cases e'
    exact ⟨e, f0, f1, f2, d⟩
theorem Inv.unpinned {pins pl : List (Addr × Obj)} {σ : St} {H : Hp} {s : Shared} (I : Inv X (pins ++ pl) σ H s) : Inv X pins σ H s := I.pins_of fun p hp => I.pin p (List.mem_append_right _ (List.mem_append_left _ hp))
theorem ps_for {iter : Expr} {body : List Stmt} {wi : TI} {g : TG} {tb : TS} {pos : Pos} (hp : PassesOwn (model X.prog X.w) X.A X.env X.xe) (hc : X.calm = true) (hi : PI X tg iter wi) (hg : PG X tg g) (hb : PSs X body tb)
    (hs : ∀ x, foldedSetIterable iter X.env x = pure x := by intro _; rfl) : PS X (.For tg iter body [] pos) (tFor wi g tb) := by
  intro pins s σ H D I h
  refine wpAny_For (thn (hi pins s σ H _ I h) fun v s1 h1 => thn h1 fun itv s2 h2 => ?_) hs
  obtain ⟨it, fp, tn, J, H2, e, I2, T, st2, f2, W, ⟨m0, w0⟩, turn⟩ := h2
  subst e
  -- what stays true of the iterator's objects through the loop
  have stat : ∀ {H' : Hp}, (∀ b ∈ fp, H' b = none) → ∀ b ∈ fp, FpOk X pins H' b := fun hn b hb => ⟨hn b hb, (f2 b hb).2⟩
  refine codeAny_forLoop_any (fun n s' => ∃ i σ' H', Inv X pins σ' H' s' ∧ tn i s'.heap ∧ (∀ b ∈ fp, H' b = none) ∧ W i n σ' H') ?_ m0 ⟨0, σ, H2, I2, st2, fun b hb => (f2 b hb).1, w0⟩
  rintro n s3 ⟨i, σ3, H3, I3, st3, fr3, w3⟩
  rcases turn i n σ3 H3 w3 with ⟨stop, qn⟩ | ⟨go, N, hN, step⟩
  · refine wpAny_passesOwn hp (thn (T.done X rfl rfl rfl hc i pins s3 σ3 H3 X.xe I3 (stat fr3) st3 stop) fun r s4 ⟨hr, I4⟩ => ?_)
    subst hr
    exact wpAny_execs_nil ⟨σ3, H3, I4, qn⟩
  · refine wpAny_passesOwn hp (thn (T.item X rfl rfl rfl hc i pins s3 σ3 H3 X.xe I3 (stat fr3) st3 go) fun r s4 ⟨u, hr, h4⟩ => ?_)
    subst hr
    refine wpAny_passesOwn hp (thn h4 fun _ s5 ⟨x, H5, I5, r5, y5, st5, fr5⟩ => ?_)
    have I5' := I5.pinned (stat fr5) (T.obj _ _ st5)
    refine wpAny_passesOwn hp (thn (hg _ s5 σ3 H5 x u _ I5' r5 (step x H5 y5)) fun _ s6 ⟨σ6, H6, I6, q6⟩ => ?_)
    refine wpAny_passesOwn hp (thn (hb _ s6 σ6 H6 _ I6 q6) fun f s7 q7 => ?_)
    have again : ∀ {σ7 : St} {H7 : Hp}, Inv X (pins ++ pinsAt fp s5.heap) σ7 H7 s7 → N σ7 H7 → ∃ m, m < n ∧ ∃ i σ' H', Inv X pins σ' H' s7 ∧ tn i s7.heap ∧ (∀ b ∈ fp, H' b = none) ∧ W i m σ' H' := fun {σ7 H7} I7 n7 => by
      obtain ⟨m', hm, w7⟩ := hN σ7 H7 n7
      refine ⟨m', hm, i + 1, σ7, H7, I7.unpinned, T.keep _ _ _ st5 fun b hb o e => (I7.pin (b, o) (List.mem_append_right _ (List.mem_append_right _ (mem_pinsAt hb e)))).1, fun b hb => ?_, w7⟩
      obtain ⟨o, e, d⟩ := T.obj _ _ st5 b hb
      exact (I7.pin (b, o) (List.mem_append_right _ (List.mem_append_right _ (mem_pinsAt hb e)))).2.1
    cases f with
    | next => obtain ⟨σ7, H7, I7, n7⟩ := q7; exact again I7 n7
    | cont => obtain ⟨σ7, H7, I7, n7⟩ := q7; exact again I7 n7
    | brk => obtain ⟨σ7, H7, I7, q7⟩ := q7; exact ⟨σ7, H7, I7.unpinned, q7⟩
    | ret v => obtain ⟨x7, σ7, H7, I7, r7, q7⟩ := q7; exact ⟨x7, σ7, H7, I7.unpinned, r7, q7⟩
end

theorem for_list {K : PySem.W.Frag} {a : Addr} {xs : List V} {g : TG} {tb : TS} {D : Ends} {σ : St} {H : Hp} (Pv : Nat → St → Hp → Prop) (h0 : Pv 0 σ H) (hl : ∀ i σ H, i ≤ xs.length → Pv i σ H → SqL K H a xs)
    (hs : ∀ i x σ H, xs[i]? = some x → Pv i σ H → g x σ H fun σ2 H2 => tb { D with nx := Pv (i + 1), ct := Pv (i + 1), bk := D.nx } σ2 H2) (hd : ∀ σ H, Pv xs.length σ H → D.nx σ H) :
    ∃ W : Nat → Nat → St → Hp → Prop, (∃ m, W 0 m σ H) ∧ ∀ i m σ H, W i m σ H →
      ((Itl K a).stop i H ∧ D.nx σ H) ∨ ((Itl K a).go i H ∧ ∃ N : St → Hp → Prop, (∀ σ' H', N σ' H' → ∃ m', m' < m ∧ W (i + 1) m' σ' H') ∧ ∀ x H', (Itl K a).yld i H x H' → g x σ H' fun σ2 H2 => tb { D with nx := N, ct := N, bk := D.nx } σ2 H2) := by
  refine ⟨fun i m σ H => m = xs.length - i ∧ i ≤ xs.length ∧ Pv i σ H, ⟨xs.length, by simp, Nat.zero_le _, h0⟩, ?_⟩
  rintro i m σ H ⟨rfl, hi, p⟩
  have q := hl i σ H hi p
  by_cases hlt : i < xs.length
  · refine .inr ⟨⟨xs, xs[i], q, by simp [hlt]⟩, Pv (i + 1), fun σ' H' p' => ⟨xs.length - (i + 1), by omega, rfl, hlt, p'⟩, fun x H' y => ?_⟩
    obtain ⟨e, y⟩ := y
    subst e
    exact hs i x σ _ (y xs q) p
  · have e : i = xs.length := by omega
    subst e
    exact .inl ⟨⟨xs, q, Nat.le_refl _⟩, hd σ H p⟩
theorem for_range {lo : Int} {n : Nat} {g : TG} {tb : TS} {D : Ends} {σ : St} {H : Hp} (Pv : Nat → St → Hp → Prop) (h0 : Pv 0 σ H)
    (hs : ∀ i σ H, i < n → Pv i σ H → g (.int (lo + i)) σ H fun σ2 H2 => tb { D with nx := Pv (i + 1), ct := Pv (i + 1), bk := D.nx } σ2 H2) (hd : ∀ σ H, Pv n σ H → D.nx σ H) :
    ∃ W : Nat → Nat → St → Hp → Prop, (∃ m, W 0 m σ H) ∧ ∀ i m σ H, W i m σ H →
      ((Itr lo n).stop i H ∧ D.nx σ H) ∨ ((Itr lo n).go i H ∧ ∃ N : St → Hp → Prop, (∀ σ' H', N σ' H' → ∃ m', m' < m ∧ W (i + 1) m' σ' H') ∧ ∀ x H', (Itr lo n).yld i H x H' → g x σ H' fun σ2 H2 => tb { D with nx := N, ct := N, bk := D.nx } σ2 H2) := by
  refine ⟨fun i m σ H => m = n - i ∧ i ≤ n ∧ Pv i σ H, ⟨n, by simp, Nat.zero_le _, h0⟩, ?_⟩
  rintro i m σ H ⟨rfl, hi, p⟩
  by_cases hlt : i < n
  · refine .inr ⟨hlt, Pv (i + 1), fun σ' H' p' => ⟨n - (i + 1), by omega, rfl, hlt, p'⟩, fun x H' y => ?_⟩
    obtain ⟨e, y⟩ := y
    subst e y
    exact hs i σ _ hlt p
  · have e : i = n := by omega
    subst e
    exact .inl ⟨Nat.le_refl _, hd σ H p⟩
end L2

namespace L2
open PySem PySem.Spec PyProof.Rows

noncomputable abbrev R2 := V → V → Hp → VK → Prop
noncomputable def OpR (X : Cx) (f : Value → Value → Sem Value) (r : R2) : Prop :=
  ∀ (pins : List (Addr × Obj)) (s : Shared) (σ : St) (H : Hp) (x y : V) (v u : Value) (Q : VK), Inv X pins σ H s → RelV x v → RelV y u → r x y H Q →
    wpAny (model X.prog X.w) X.A (f v u) (EP X pins σ Q) X.xe s
noncomputable def CallR (X : Cx) (f : Value) (r : List V → Hp → VK → Prop) : Prop :=
  ∀ (pins : List (Addr × Obj)) (s : Shared) (σ : St) (H : Hp) (xs : List V) (us : List Value) (Q : VK), Inv X pins σ H s → Vals xs us → r xs H Q →
    wpAny (model X.prog X.w) X.A (call f us) (EP X pins σ Q) X.xe s
noncomputable def tOp (r : R2) (ta tb : TE) : TE := fun σ H Q => ta σ H fun x H1 => tb σ H1 fun y H2 => r x y H2 Q
noncomputable def rI0 (g : Int → Int → V) : R2 := fun x y H Q => ∃ i j, x = .int i ∧ y = .int j ∧ Q (g i j) H
section
variable {X : Cx} {a b c : Expr} {ta tb tc : TE} {pos : Pos}

theorem binT (ha : PE X a ta) (hb : PE X b tb) {pins : List (Addr × Obj)} {s : Shared} {σ : St} {H : Hp} {R : V → V → Hp → Prop} (I : Inv X pins σ H s)
    (h : ta σ H fun x H1 => tb σ H1 fun y H2 => R x y H2) {Q : Value → Shared → Prop} {f : Value → Value → Sem Value}
    (hf : ∀ v u s2 x y H2, Inv X pins σ H2 s2 → RelV x v → RelV y u → R x y H2 → wpAny (model X.prog X.w) X.A (f v u) Q X.xe s2) :
    wpAny (model X.prog X.w) X.A (eval a X.env) (fun v s₁ => wpAny (model X.prog X.w) X.A (eval b X.env) (fun u s₂ => wpAny (model X.prog X.w) X.A (f v u) Q X.xe s₂) X.xe s₁) X.xe s := by
  refine thn (ha pins s σ H _ I h) fun v s1 ⟨x, H1, I1, r1, q1⟩ => ?_
  refine thn (hb pins s1 σ H1 _ I1 q1) fun u s2 ⟨y, H2, I2, r2, q2⟩ => ?_
  exact hf v u s2 x y H2 I2 r1 r2 q2

theorem pe_op {op : Operator} {r : R2} (ho : OpR X (binaryOp op) r) (ha : PE X a ta) (hb : PE X b tb) : PE X (.BinOp a op b pos) (tOp r ta tb) := by
  intro pins s σ H Q I h
  exact wpAny_BinOp (binT ha hb I h fun v u s2 x y H2 I2 rx ry q => ho pins s2 σ H2 x y v u Q I2 rx ry q)
theorem opI0 {f : Value → Value → Sem Value} {g : Int → Int → Int}
    (rule : ∀ (i j : Int) (t u : Tok) (s : Shared) (Q : Value → Shared → Prop) (E : Value → Shared → Prop), Q (.int (g i j) s.toks) { s with toks := s.toks + 1 } → wpAny (model X.prog X.w) X.A (f (.int i t) (.int j u)) Q E s) :
    OpR X f (rI0 fun i j => .int (g i j)) := by
  intro pins s σ H x y v u Q I rx ry h
  obtain ⟨i, j, rfl, rfl, q⟩ := h
  obtain ⟨t, rfl⟩ := rx
  obtain ⟨t', rfl⟩ := ry
  exact rule i j t t' s _ _ ⟨.int (g i j), H, I.tok _, ⟨_, rfl⟩, q⟩
theorem opB0 {f : Value → Value → Sem Value} {g : Int → Int → Bool}
    (rule : ∀ (i j : Int) (t u : Tok) (s : Shared) (Q : Value → Shared → Prop) (E : Value → Shared → Prop), Q (.bool (g i j)) s → wpAny (model X.prog X.w) X.A (f (.int i t) (.int j u)) Q E s) :
    OpR X f (rI0 fun i j => .bl (g i j)) := by
  intro pins s σ H x y v u Q I rx ry h
  obtain ⟨i, j, rfl, rfl, q⟩ := h
  obtain ⟨t, rfl⟩ := rx
  obtain ⟨t', rfl⟩ := ry
  exact rule i j t t' s _ _ ⟨.bl (g i j), H, I, rfl, q⟩

theorem op_add : OpR X (binaryOp .Add) (rI0 fun i j => .int (i + j)) := opI0 fun _ _ _ _ _ _ _ q => add_int q
theorem op_sub : OpR X (binaryOp .Sub) (rI0 fun i j => .int (i - j)) := opI0 fun _ _ _ _ _ _ _ q => sub_int q
end

noncomputable def scal : V → V → Bool
  | .non, .non => true | .non, .int _ => true | .int _, .non => true | .non, .bl _ => true | .bl _, .non => true | .non, .str _ => true | .str _, .non => true
  | .int _, .int _ => true | .bl _, .bl _ => true | .str _, .str _ => true | .byt _, .byt _ => true
  | .int _, .str _ => true | .str _, .int _ => true | .bl _, .str _ => true | .str _, .bl _ => true
  | _, _ => false
noncomputable def rEq : R2 := fun x y H Q => scal x y = true ∧ Q (.bl (decide (x = y))) H
theorem dec_int {i j : Int} : decide (V.int i = V.int j) = (i == j) := by
  rw [Bool.eq_iff_iff]
  simp
theorem dec_bl {i j : Bool} : decide (V.bl i = V.bl j) = (i == j) := by
  rw [Bool.eq_iff_iff]
  simp
theorem dec_str {i j : Str} : decide (V.str i = V.str j) = (i == j) := by
  rw [Bool.eq_iff_iff]
  simp
theorem dec_byt {i j : Array UInt8} : decide (V.byt i = V.byt j) = (i.toList == j.toList) := by
  rw [Bool.eq_iff_iff]
  cases i
  cases j
  simp

section
variable {X : Cx} {a b c : Expr} {ta tb tc : TE} {pos : Pos}
theorem fin_bl {pins : List (Addr × Obj)} {σ : St} {H : Hp} {s : Shared} {Q : VK} {k k' : Bool} (I : Inv X pins σ H s) (q : Q (.bl k) H) (e : k = k') : EP X pins σ Q (.bool k') s := by
  subst e
  exact ⟨.bl k, H, I, rfl, q⟩
theorem op_eq : OpR X (compareOp .Eq) rEq := by
  intro pins s σ H x y v u Q I rx ry h
  obtain ⟨hs, q⟩ := h
  cases x with
  | non =>
    cases rx
    cases y with
    | non => cases ry; exact PySem.EqNone.eq_none_none (fin_bl I q (by simp))
    | bl j => cases ry; exact PySem.EqNone.eq_none_bool (fin_bl I q (by simp))
    | int j => obtain ⟨t', rfl⟩ := ry; exact PySem.EqNone.eq_none_int (fin_bl I q (by simp))
    | str j => obtain ⟨t', rfl⟩ := ry; exact PySem.EqNone.eq_none_str (fin_bl I q (by simp))
    | _ => exact absurd (show false = true from hs) Bool.false_ne_true
  | bl i =>
    cases rx
    cases y with
    | non => cases ry; exact PySem.EqNone.eq_bool_none (fin_bl I q (by simp))
    | bl j => cases ry; exact eq_bool (fin_bl I q dec_bl)
    | str j => obtain ⟨t', rfl⟩ := ry; exact PySem.EqMixed.eq_bool_str (fin_bl I q (by simp))
    | _ => exact absurd (show false = true from hs) Bool.false_ne_true
  | int i =>
    obtain ⟨t, rfl⟩ := rx
    cases y with
    | non => cases ry; exact PySem.EqNone.eq_int_none (fin_bl I q (by simp))
    | int j => obtain ⟨t', rfl⟩ := ry; exact eq_int (fin_bl I q dec_int)
    | str j => obtain ⟨t', rfl⟩ := ry; exact PySem.EqMixed.eq_int_str (fin_bl I q (by simp))
    | _ => exact absurd (show false = true from hs) Bool.false_ne_true
  | str i =>
    obtain ⟨t, rfl⟩ := rx
    cases y with
    | non => cases ry; exact PySem.EqNone.eq_str_none (fin_bl I q (by simp))
    | bl j => cases ry; exact PySem.EqMixed.eq_str_bool (fin_bl I q (by simp))
    | int j => obtain ⟨t', rfl⟩ := ry; exact PySem.EqMixed.eq_str_int (fin_bl I q (by simp))
    | str j => obtain ⟨t', rfl⟩ := ry; exact eq_str (fin_bl I q dec_str)
    | _ => exact absurd (show false = true from hs) Bool.false_ne_true
  | byt i =>
    obtain ⟨t, rfl⟩ := rx
    cases y with
    | byt j => obtain ⟨t', rfl⟩ := ry; exact PySem.W.eq_bytes (fin_bl I q dec_byt)
    | _ => exact absurd (show false = true from hs) Bool.false_ne_true
  | _ => cases y <;> exact absurd (show false = true from hs) Bool.false_ne_true
theorem op_lt : OpR X (compareOp .Lt) (rI0 fun i j => .bl (decide (i < j))) := opB0 fun _ _ _ _ _ _ _ q => lt_int q
theorem op_gt : OpR X (compareOp .Gt) (rI0 fun i j => .bl (decide (j < i))) := opB0 fun _ _ _ _ _ _ _ q => gt_int q
theorem op_isN : OpR X (compareOp .Is) (fun x y H Q => y = .non ∧ Q (.bl (decide (x = .non))) H) := by
  intro pins s σ H x y v u Q I rx ry h
  obtain ⟨rfl, q⟩ := h
  cases ry
  refine is_none_gen (fin_bl I q ?_)
  cases x <;> first
    | (cases rx; rfl)
    | (obtain ⟨t, rfl⟩ := rx; rfl)
theorem op_notN : OpR X (compareOp .IsNot) (fun x y H Q => y = .non ∧ Q (.bl (!decide (x = .non))) H) := by
  intro pins s σ H x y v u Q I rx ry h
  obtain ⟨rfl, q⟩ := h
  cases ry
  refine isnot_none_gen (fin_bl I q ?_)
  cases x <;> first
    | (cases rx; rfl)
    | (obtain ⟨t, rfl⟩ := rx; rfl)

theorem nomark (b : Expr) {op : CmpOp} (h : op ≠ .In := by decide) (h2 : op ≠ .NotIn := by decide) : behindInMarks op b = false := by
  have e1 : (op == CmpOp.In) = false := by cases op <;> first | rfl | exact absurd rfl h
  have e2 : (op == CmpOp.NotIn) = false := by cases op <;> first | rfl | exact absurd rfl h2
  cases b <;> simp [behindInMarks, e1, e2]
noncomputable def tTest (t : TE) : TT := fun σ H Q => t σ H fun x H' => ∃ k, x = .bl k ∧ Q k H'
theorem pt_cmpR {op : CmpOp} {r : R2} (ho : OpR X (compareOp op) r) (ha : PE X a ta) (hb : PE X b tb) (hm : behindInMarks op b = false) : PT X (.Compare a [op] [b] pos) (tTest (tOp r ta tb)) := by
  intro pins s σ H Q I h
  refine wpAny_isTrue_Compare1 (thn (ha pins s σ H _ I h) fun v s1 ⟨x, H1, I1, r1, q1⟩ => thn (hb pins s1 σ H1 _ I1 q1) fun u s2 ⟨y, H2, I2, r2, q2⟩ =>
    thn (ho pins s2 σ H2 x y v u _ I2 r1 r2 q2) fun c s3 ⟨z, H3, I3, r3, k, e, q3⟩ => ?_) hm
  subst e
  cases r3
  exact wpAny_truthy_bool ⟨H3, I3, q3⟩
theorem line63 : (sizeLine : Nat) < 2 ^ 63 := by rw [sizeLine_eq]; decide
theorem op_add_str : OpR X (binaryOp .Add) (fun x y H Q => ∃ i j, x = .str i ∧ y = .str j ∧ i.length + j.length ≤ sizeLine ∧ Q (.str (i ++ j)) H) := by
  intro pins s σ H x y v u Q I rx ry h
  obtain ⟨i, j, rfl, rfl, hz, q⟩ := h
  obtain ⟨t, rfl⟩ := rx
  obtain ⟨t', rfl⟩ := ry
  exact add_str (fun t' tk => ⟨.str (i ++ j), H, I.tok _, ⟨_, rfl⟩, q⟩) hz
theorem vals1 {x : V} {us : List Value} (r : Vals [x] us) : ∃ u, us = [u] ∧ RelV x u := by
  cases r with
  | cons r1 r2 => cases r2; exact ⟨_, rfl, r1⟩
theorem vals2 {x y : V} {us : List Value} (r : Vals [x, y] us) : ∃ u w', us = [u, w'] ∧ RelV x u ∧ RelV y w' := by
  cases r with
  | cons r1 r2 =>
    cases r2 with
    | cons r3 r4 => cases r4; exact ⟨_, _, rfl, r1, r3⟩
theorem call_str_int : CallR X (.type "str") (fun xs H Q => ∃ i, xs = [.int i] ∧ i.natAbs.log2 < 1920 ∧ Q (.str (toString i)) H) := by
  intro pins s σ H xs us Q I r h
  obtain ⟨i, rfl, hz, q⟩ := h
  obtain ⟨u, rfl, t, rfl⟩ := vals1 r
  exact PySem.P.str_of_int hz ⟨.str _, H, I.tok _, ⟨_, rfl⟩, q⟩
theorem call_ord : CallR X (.builtin "ord") (fun xs H Q => ∃ x, xs = [.str x] ∧ x.length = 1 ∧ Q (.int (x.cps.getD 0 0 : Nat)) H) := by
  intro pins s σ H xs us Q I r h
  obtain ⟨x, rfl, hz, q⟩ := h
  obtain ⟨u, rfl, t, rfl⟩ := vals1 r
  exact ord_of_one hz ⟨.int _, H, I.tok _, ⟨_, rfl⟩, q⟩
end
end L2

namespace L2
open PySem PySem.Spec PyProof.Rows

structure ObjM (h : Heap) (x dx C : Addr) (mA : Str → Option Value) : Prop where
  obj : h.get? x = some (PySem.W.instObj C dx)
  ns : h.Ns1 dx mA
  ne : dx ≠ x

theorem lookIn_ns {h : Heap} {dx : Addr} {mA : Str → Option Value} (n : h.Ns1 dx mA) : ∃ od, h.get? dx = some od ∧ ∀ name, PySem.W.lookIn name od = some (mA name) := by
  obtain ⟨o, es, ep, ho, hd, hk, _, hm⟩ := n
  refine ⟨o, ho, fun name => ?_⟩
  have e := hm name
  unfold nsFind findBy at e
  rw [← Array.find?_toList] at e
  unfold PySem.W.lookIn
  rw [hd]
  dsimp only
  split
  · rename_i y q
    rw [q] at e
    exact congrArg some e
  · rename_i q
    rw [q] at e
    have a : es.toList.any (·.refKey) = false := by
      rw [List.any_eq_false]
      intro y hy
      obtain ⟨z, t, hkey⟩ := hk y (Array.mem_toList_iff.mp hy)
      simp [DictEntry.refKey, hkey]
    have a' : ¬ es.toList.any (·.refKey) = true := by rw [a]; exact Bool.false_ne_true
    rw [if_neg a']
    exact congrArg some e

theorem ObjM.look {h : Heap} {x dx C : Addr} {mA : Str → Option Value} (I : ObjM h x dx C mA) : ∃ od, PySem.W.InstAt h x (PySem.W.instObj C dx) C (some od) ∧ ∀ name, PySem.W.lookIn name od = some (mA name) :=
  let ⟨od, ho, hl⟩ := lookIn_ns I.ns
  ⟨od, ⟨I.obj, rfl, rfl, ho⟩, hl⟩

section
variable {prog : Program} {w : World} {A : Around} {E : Value → Shared → Prop} {s : Shared} {K : PySem.W.Frag} {x dx C f : Addr} {mA : Str → Option Value} {name : Str} {v : Value}

theorem get_map {expr : Bool} {Q : Value → Shared → Prop} (X : K.In s.heap) (I : ObjM s.heap x dx C mA) (hg : PySem.W.plainGet K C name = true) (hh : PySem.W.hasDictIn K C = true)
    (ha : PySem.W.findIn K (.ref C) name = some none) (hv : mA name = some v) (hv' : PySem.W.handedIn v = true) (h : Q v { s with toks := s.toks + 1 }) :
    wpAny (model prog w) A (getAttr (.ref x) name expr) Q E s := by
  obtain ⟨od, J, hl⟩ := I.look
  exact PySem.W.get_value X J (PySem.W.plainGet_of hg).1 (PySem.W.findObj_own hh ha rfl (by rw [hl, hv])) hv' h

theorem get_meth {pl : Sem Bool} {Q : Value × List Value → Shared → Prop} (X : K.In s.heap) (I : ObjM s.heap x dx C mA) (hg : PySem.W.plainGet K C name = true)
    (hf : PySem.W.findIn K (.ref C) name = some (some (.ref f))) (ht : PySem.W.isFn K (.ref f) = true) (hv : mA name = none) (h : Q (.ref f, [.ref x]) s) :
    wpAny (model prog w) A (getMethod (.ref x) name pl) Q E s := by
  obtain ⟨od, J, hl⟩ := I.look
  exact PySem.W.method_fn X J (PySem.W.plainGet_of hg).1 (PySem.W.plainGet_of hg).2 hf (beq_iff_eq.mp ht) (by show (PySem.W.lookIn name od).map (·.isSome) = some false; rw [hl, hv]; rfl) h

theorem set_map {ns : List Str} {Q : Unit → Shared → Prop} (X : K.In s.heap) (I : ObjM s.heap x dx C mA)
    (hs : PySem.W.findIn K (.ref C) "__setattr__" = some (some (.builtin "object.__setattr__"))) (hp : PySem.W.plainOver K C = true) (ht : PySem.W.takerIn K C name = some none) (hh : PySem.W.hasDictIn K C = true)
    (hw : PySem.Within mA ns) (hsz : ns.length ≤ sizeLine)
    (h : ∀ h', ObjM h' x dx C (fun y => if y = name then some v else mA y) → Heap.SameBut dx s.heap h' → Q () { s with heap := h', toks := s.toks + 2 }) :
    wpAny (model prog w) A (setAttr (.ref x) name v) Q E s := by
  obtain ⟨od, J, hl⟩ := I.look
  refine PySem.W.set_plain X J hs (PySem.W.osa_open (s := { s with toks := s.toks + 1 }) (r := none) X J hp ht fun b => ?_)
  obtain ⟨cd, hc, hd'⟩ := PySem.W.any_some hh
  have hx : s.heap.get? x = some ⟨.ref C, some dx, .plain, #[]⟩ := I.obj
  refine wpAny_bind (wpAny_pure (wpAny_bind (wpAny_bind (wpAny_loadPart hx (wpAny_bind (PySem.W.Looks.here (s := { s with toks := s.toks + 1 }) (PySem.W.looks_clsIn X hc) ?_))))))
  rw [hd']
  refine wpAny_pure (a := some dx) (wpAny_bind (wpAny_pure (wpAny_bind ?_)))
  refine wpAny_nsSet1 (s := { s with toks := s.toks + 1 }) I.ns fun h' hn2 hs2 => ?_
  obtain ⟨oD, esD, epD, hoD, hdD, hcD⟩ := hn2.count (PySem.Within.cons name v hw)
  refine wpAny_bind (wpAny_lookBehind hoD (by rw [hdD]; exact pastItsLine_dict (Nat.le_trans hcD (by rw [List.length_cons]; omega))) ?_)
  exact wpAny_pure (h _ ⟨(hs2.2 _ (Ne.symm I.ne)).trans I.obj, hn2, I.ne⟩ hs2)

theorem make_map {R : Result → Shared → Prop} {vs : List Value} {kw : List (Str × Value)} (X : K.In s.heap) (hm : PySem.W.makesIn K C = true)
    (hi : PySem.W.findIn K (.ref C) "__init__" = some (some (.ref f))) (hf : PySem.W.typeIn K (.ref f) = some (.type "function"))
    (h : codeAny (model prog w) (A.under (.builtin "type.__call__" ⟨.ref C :: vs, kw⟩)) (.call (.ref f) ⟨.ref (s.heap.objs.size + 1) :: vs, kw⟩) (PySem.W.InitBack (s.heap.objs.size + 1) R)
      { s with heap := (s.heap.push PySem.W.emptyDict).push (PySem.W.instObj C s.heap.objs.size) }) :
    codeAny (model prog w) A (.call (.ref C) ⟨vs, kw⟩) R s := by
  obtain ⟨hh, g, d, t, os⟩ := s
  exact PySem.W.make_core (PySem.W.makes_of X hm) (PySem.W.looks_findIn X hi) (fun self => PySem.W.bind_fn X self hf) (.inl rfl) h
end

noncomputable def putF (f : Str) (v : V) : List (Str × V) → List (Str × V)
  | [] => [(f, v)]
  | (g, x) :: r => if g = f then (g, v) :: r else (g, x) :: putF f v r
theorem lookup_putF (f g : Str) (v : V) : ∀ fs : List (Str × V), (putF f v fs).lookup g = if g = f then some v else fs.lookup g
  | [] => by
    show List.lookup g [(f, v)] = _
    by_cases h : g = f
    · have hb : (g == f) = true := beq_iff_eq.mpr h
      simp only [List.lookup, hb, if_pos h]
    · have hb : (g == f) = false := beq_eq_false_iff_ne.mpr h
      simp only [List.lookup, hb, if_neg h]
  | (k, x) :: r => by
    have ih := lookup_putF f g v r
    rw [show putF f v ((k, x) :: r) = (if k = f then (k, v) :: r else (k, x) :: putF f v r) from rfl]
    by_cases hk : k = f
    · rw [if_pos hk]
      by_cases h : g = k
      · have hb : (g == k) = true := beq_iff_eq.mpr h
        simp only [List.lookup, hb, if_pos (h.trans hk)]
      · have hb : (g == k) = false := beq_eq_false_iff_ne.mpr h
        simp only [List.lookup, hb, if_neg (fun e : g = f => h (e.trans hk.symm))]
    · rw [if_neg hk]
      by_cases h : g = k
      · have hb : (g == k) = true := beq_iff_eq.mpr h
        simp only [List.lookup, hb, if_neg (fun e : g = f => hk (h.symm.trans e))]
      · have hb : (g == k) = false := beq_eq_false_iff_ne.mpr h
        simp only [List.lookup, hb]
        exact ih
theorem keys_putF (f : Str) (v : V) : ∀ fs : List (Str × V), f ∈ (putF f v fs).map (·.1) ∧ ∀ g, g ∈ fs.map (·.1) → g ∈ (putF f v fs).map (·.1)
  | [] => ⟨by simp [putF], fun g h => by simp at h⟩
  | (k, x) :: r => by
    obtain ⟨i1, i2⟩ := keys_putF f v r
    rw [show putF f v ((k, x) :: r) = (if k = f then (k, v) :: r else (k, x) :: putF f v r) from rfl]
    by_cases hk : k = f
    · rw [if_pos hk]
      subst hk
      exact ⟨by simp, fun g h => by simpa using h⟩
    · rw [if_neg hk]
      refine ⟨?_, fun g h => ?_⟩
      · rw [List.map_cons]
        exact List.mem_cons_of_mem _ i1
      · rw [List.map_cons] at h ⊢
        rcases List.mem_cons.mp h with e | e
        · exact List.mem_cons.mpr (.inl e)
        · exact List.mem_cons_of_mem _ (i2 g e)
theorem length_putF (f : Str) (v : V) : ∀ fs : List (Str × V), (putF f v fs).length ≤ fs.length + 1
  | [] => by simp [putF]
  | (k, x) :: r => by
    have ih := length_putF f v r
    rw [show putF f v ((k, x) :: r) = (if k = f then (k, v) :: r else (k, x) :: putF f v r) from rfl]
    by_cases hk : k = f
    · rw [if_pos hk, List.length_cons, List.length_cons]; omega
    · rw [if_neg hk, List.length_cons, List.length_cons]; omega

theorem RelO.some_of {v : V} {o : Option Value} (r : RelO (some v) o) : ∃ u, o = some u ∧ RelV v u := by
  cases o with
  | none => exact (show False from r).elim
  | some u => exact ⟨u, rfl, r⟩
theorem RelO.none_of {o : Option Value} (r : RelO none o) : o = none := by
  cases o with
  | none => rfl
  | some u => exact (show False from r).elim
theorem handed_of {v : V} {u : Value} (r : RelV v u) : PySem.W.handedIn u = true := by
  cases v with
  | non => cases (show u = Value.none from r); rfl
  | bl b => cases (show u = Value.bool b from r); rfl
  | int i => obtain ⟨t, e⟩ := (show ∃ t, u = Value.int i t from r); cases e; rfl
  | str x => obtain ⟨t, e⟩ := (show ∃ t, u = Value.str x t from r); cases e; rfl
  | byt b => obtain ⟨t, e⟩ := (show ∃ t, u = Value.bytes b t from r); cases e; rfl
  | flt b => obtain ⟨t, e⟩ := (show ∃ t, u = Value.float b t from r); cases e; rfl
  | ref a => cases (show u = Value.ref a from r); rfl
  | ty n => cases (show u = Value.type n from r); rfl

section
variable {P : Program} {w : World} {H H' : Hp} {h h' : Heap} {a C dx : Addr} {fs fs' : List (Str × V)}
theorem ins_get (hok : HOk P w H h) (e : H a = some (.ins C dx fs)) : ∃ mA, ObjM h a dx C mA ∧ (∀ f, RelO (fs.lookup f) (mA f)) ∧ PySem.Within mA (fs.map (·.1)) ∧ fs.length ≤ 1000 ∧ H dx = some (.own a) := by
  obtain ⟨d, z, ne, ob, mA, n, r, q⟩ := (show ObjOk P w H h a (.ins C dx fs) from hok a _ e)
  exact ⟨mA, ⟨ob, n, ne⟩, r, q, z, d⟩
end

structure Cls (K : PySem.W.Frag) (C : Addr) : Prop where
  pg : PySem.W.plainGet K C Str.empty = true
  hd : PySem.W.hasDictIn K C = true
  po : PySem.W.plainOver K C = true
  sa : PySem.W.findIn K (.ref C) "__setattr__" = some (some (.builtin "object.__setattr__"))
theorem Cls.get {K : PySem.W.Frag} {C : Addr} (c : Cls K C) (f : Str) : PySem.W.plainGet K C f = true := c.pg
noncomputable def NoAttr (K : PySem.W.Frag) (C : Addr) (f : Str) : Prop := PySem.W.findIn K (.ref C) f = some none
theorem NoAttr.taker {K : PySem.W.Frag} {C : Addr} {f : Str} (n : NoAttr K C f) : PySem.W.takerIn K C f = some none := by
  unfold PySem.W.takerIn
  rw [show PySem.W.findIn K (.ref C) f = some none from n]
  rfl
structure Con (K : PySem.W.Frag) (C : Addr) (f : Str) (v : V) (u : Value) : Prop where
  at_ : PySem.W.findIn K (.ref C) f = some (some u)
  rel : RelV v u
  get : PySem.W.specialIn K u "__get__" = some none
  cp : PySem.W.copiedNames.contains f = false
structure Meth (K : PySem.W.Frag) (C : Addr) (m : Str) (f : Addr) : Prop where
  at_ : PySem.W.findIn K (.ref C) m = some (some (.ref f))
  fn : PySem.W.isFn K (.ref f) = true
  kp : PySem.W.keepIn K (.ref f) = true

section
variable {X : Cx} {pins : List (Addr × Obj)} {σ : St} {H : Hp} {s : Shared} {a C dx : Addr} {fs : List (Str × V)} {f : Str} {v : V} {A : Around} {E : Value → Shared → Prop}

theorem getattr_ok {b : Bool} {Q : Value → Shared → Prop} (I : Inv X pins σ H s) (e : H a = some (.ins C dx fs)) (c : Cls X.K C) (n : NoAttr X.K C f) (l : fs.lookup f = some v)
    (h : ∀ u s', Inv X pins σ H s' → RelV v u → Q u s') : wpAny (model X.prog X.w) A (getAttr (.ref a) f b) Q E s := by
  obtain ⟨mA, O, r, _, _, _⟩ := ins_get I.hok e
  obtain ⟨u, hu, ru⟩ := RelO.some_of (v := v) (o := mA f) (by rw [← l]; exact r f)
  exact get_map I.kIn O (c.get f) c.hd n hu (handed_of ru) (h u _ (I.tok _) ru)

theorem getmeth_ok {m : Str} {g : Addr} {pl : Sem Bool} {Q : Value × List Value → Shared → Prop} (I : Inv X pins σ H s) (e : H a = some (.ins C dx fs)) (c : Cls X.K C) (k : Meth X.K C m g) (l : fs.lookup m = none)
    (h : Q (.ref g, [.ref a]) s) : wpAny (model X.prog X.w) A (getMethod (.ref a) m pl) Q E s := by
  obtain ⟨mA, O, r, _, _, _⟩ := ins_get I.hok e
  have hn : mA m = none := RelO.none_of (by rw [← l]; exact r m)
  exact get_meth I.kIn O (c.get m) k.at_ k.fn hn h

theorem setattr_ok {y : V} {u : Value} {Q : Unit → Shared → Prop} (I : Inv X pins σ H s) (e : H a = some (.ins C dx fs)) (c : Cls X.K C) (n : NoAttr X.K C f) (hl : fs.length < 1000) (ry : RelV y u)
    (h : ∀ s', Inv X pins σ (upd H a (.ins C dx (putF f y fs))) s' → Q () s') : wpAny (model X.prog X.w) A (setAttr (.ref a) f u) Q E s := by
  obtain ⟨mA, O, r, wi, _, ho⟩ := ins_get I.hok e
  have hz : (fs.map (·.1)).length ≤ sizeLine := by rw [List.length_map, sizeLine_eq]; omega
  refine set_map I.kIn O c.sa c.po n.taker c.hd wi hz fun h' O' sb => h _ ?_
  have hd : ∃ o, h'.get? dx = some o := let ⟨o, _, _, e', _⟩ := O'.ns; ⟨o, e'⟩
  refine I.write (x := a) (e := dx) (by rw [e]; exact True.intro) (.inr ho) (fun b q hb z => (sb.2 b hb).trans z) hd ?_
  refine ⟨by rw [upd_ne O.ne]; exact ho, ?_, O.ne, O'.obj, _, O'.ns, fun g => ?_, fun g hg => ?_⟩
  · have := length_putF f y fs; omega
  · show RelO ((putF f y fs).lookup g) (if g = f then some u else mA g)
    rw [lookup_putF]
    by_cases q : g = f
    · rw [if_pos q, if_pos q]; exact ry
    · rw [if_neg q, if_neg q]; exact r g
  · by_cases q : g = f
    · rw [q]; exact (keys_putF f y fs).1
    · refine (keys_putF f y fs).2 g (wi g fun z => hg ?_)
      show (if g = f then some u else mA g) = none
      rw [if_neg q]; exact z

theorem Inv.made (I : Inv X pins σ H s) : Inv X pins σ (upd (upd H s.heap.objs.size (.own (s.heap.objs.size + 1))) (s.heap.objs.size + 1) (.ins C s.heap.objs.size []))
    { s with heap := (s.heap.push PySem.W.emptyDict).push (PySem.W.instObj C s.heap.objs.size) } := by
  have e1 : (s.heap.push PySem.W.emptyDict).get? s.heap.objs.size = some PySem.W.emptyDict := Heap.get?_push_size s.heap rfl
  have e2 : ((s.heap.push PySem.W.emptyDict).push (PySem.W.instObj C s.heap.objs.size)).get? (s.heap.objs.size + 1) = some (PySem.W.instObj C s.heap.objs.size) := by
    have := Heap.get?_push_size (s.heap.push PySem.W.emptyDict) (o := PySem.W.instObj C s.heap.objs.size) rfl
    rwa [Heap.size_push] at this
  have e3 : (s.heap.push PySem.W.emptyDict).Ns s.heap.objs.size (fun _ => none) := ⟨PySem.W.emptyDict, #[], _, e1, rfl, (fun e he => absurd he (by simp)), fun _ => rfl⟩
  have I1 := I.laid (a := s.heap.objs.size) (o := .own (s.heap.objs.size + 1)) (h' := s.heap.push PySem.W.emptyDict) (t' := s.toks) (fun b u q => Heap.get?_push_of_some _ q) (Nat.le_refl _) ⟨_, e1⟩
  refine I1.laid (a := s.heap.objs.size + 1) (o := .ins C s.heap.objs.size []) (t' := s.toks) (fun b u q => Heap.get?_push_of_some _ q) (Nat.le_of_eq (Heap.size_push _ _)) ?_
  have ne : s.heap.objs.size ≠ s.heap.objs.size + 1 := Nat.ne_of_lt (Nat.lt_succ_self _)
  refine ⟨by rw [upd_ne ne, upd_same], Nat.zero_le _, ne, e2, fun _ => none, (Heap.Ns1.of_empty e3).at fun o q => Heap.get?_push_of_some _ q, fun _ => True.intro, fun y hy => absurd rfl hy⟩

theorem attr_of {prog : Program} {w : World} {env : Env} {e : Expr} {f : Str} {pos : Pos} {s : Shared} {Q : Value → Shared → Prop} (hb : attributeBase e f env (eval e env) = eval e env)
    (h : wpAny (model prog w) A (eval e env) (fun o s₁ => wpAny (model prog w) A (getAttr o f true) Q E s₁) E s) : wpAny (model prog w) A (eval (.Attribute e f pos) env) Q E s :=
  Attribute_any_ h (by rw [arm_eval_Attribute, hb])
end

noncomputable def tFld (K : PySem.W.Frag) (ta : TE) (f : Str) : TE := fun σ H Q => ta σ H fun x H1 => ∃ a C dx fs v, x = .ref a ∧ H1 a = some (.ins C dx fs) ∧ Cls K C ∧ NoAttr K C f ∧ fs.lookup f = some v ∧ Q v H1
noncomputable def sFld (K : PySem.W.Frag) (ta tv : TE) (f : Str) : TS := fun D σ H => tv σ H fun y H1 => ta σ H1 fun x H2 => ∃ a C dx fs, x = .ref a ∧ H2 a = some (.ins C dx fs) ∧ Cls K C ∧ NoAttr K C f ∧ fs.length < 1000 ∧
  D.nx σ (upd H2 a (.ins C dx (putF f y fs)))
section
variable {X : Cx} {o e value : Expr} {f : Str} {pos pos' tpos : Pos} {ta tv : TE}
theorem pe_fld (he : PE X e ta) (hb : attributeBase e f X.env (eval e X.env) = eval e X.env) : PE X (.Attribute e f pos) (tFld X.K ta f) := by
  intro pins s σ H Q I h
  refine attr_of hb (thn (he pins s σ H _ I h) fun u s1 ⟨x, H1, I1, rx, a, C, dx, fs, v, ex, ea, c, n, l, q⟩ => ?_)
  subst ex
  obtain rfl : u = Value.ref a := rx
  exact getattr_ok I1 ea c n l fun u' s2 I2 ru => ⟨v, H1, I2, ru, q⟩
theorem ps_fld (ha : PE X o ta) (hv : PE X value tv) (hs : swapsWith value (some (.Attribute o f pos')) pos.line X.env = pure false) : PS X (.Assign [.Attribute o f pos'] value pos) (sFld X.K ta tv f) := by
  intro pins s σ H D I h
  refine plainObj_wpAny_Assign_Attribute (thn (hv pins s σ H _ I h) fun u s1 ⟨y, H1, I1, ry, q⟩ => thn (ha pins s1 σ H1 _ I1 q) fun ov s2 ⟨x, H2, I2, rx, a, C, dx, fs, ex, ea, c, n, l, q2⟩ => ?_) hs
  subst ex
  obtain rfl : ov = Value.ref a := rx
  exact setattr_ok I2 ea c n l ry fun s3 I3 => ⟨σ, _, I3, q2⟩
end

section
variable {X : Cx} {pins : List (Addr × Obj)} {σ : St} {H : Hp} {s : Shared} {A : Around} {E : Value → Shared → Prop} {Q : Value → Shared → Prop} {c : Value} {b : Bool}
inductive TyOf (K : PySem.W.Frag) (H : Hp) : V → Value → Prop where
  | non : TyOf K H .non (.type "NoneType")
  | bl (x : Bool) : TyOf K H (.bl x) (.type "bool")
  | int (i : Int) : TyOf K H (.int i) (.type "int")
  | str (x : Str) : TyOf K H (.str x) (.type "str")
  | flt (x : UInt64) : TyOf K H (.flt x) (.type "float")
  | lst {a : Addr} {xs : List V} (e : H a = some (.lst xs)) : TyOf K H (.ref a) (.type "list")
  | frz {a : Addr} {o : Obj} {xs : List V} (e : H a = some (.frz o (.lst xs))) : TyOf K H (.ref a) (.type "list")
  | tup {a : Addr} {xs : List V} (e : H a = some (.tup xs)) : TyOf K H (.ref a) (.type "tuple")
  | dK {a : Addr} {kvs : List (Key × V)} (e : H a = some (.dK kvs)) : TyOf K H (.ref a) (.type "dict")
  | dT {a : Addr} {kvs : List (List Key × V)} (e : H a = some (.dT kvs)) : TyOf K H (.ref a) (.type "dict")
  | ins {a C dx : Addr} {fs : List (Str × V)} (e : H a = some (.ins C dx fs)) (cl : Cls K C) (ha : PySem.W.findIn K (.ref C) "__class__" = some (some (.builtin "object.__class__")))
      (hn : PySem.W.specialIn K (.builtin "object.__class__") "__get__" = some (some (.builtin "getset_descriptor.__get__"))) (htk : PySem.W.takesIn K (.builtin "object.__class__") = some true)
      (hm : PySem.W.mroIn K C (.type "object") = some true) : TyOf K H (.ref a) (.ref C)
theorem isinst_ok {x : V} {u t : Value} (I : Inv X pins σ H s) (rx : RelV x u) (ty : TyOf X.K H x t) (e : PySem.W.kitOne X.K t c = some b) (h : ∀ tk, Q (.bool b) { s with toks := tk }) :
    wpAny (model X.prog X.w) A (call (.builtin "isinstance") [u, c]) Q E s := by
  cases ty with
  | non => cases (show u = Value.none from rx); exact PySem.W.kia_one PySem.W.kitx_none I.kIn True.intro e (fun z => nomatch z) h
  | bl y => cases (show u = Value.bool y from rx); exact PySem.W.kia_one PySem.W.kitx_bool I.kIn True.intro e (fun z => nomatch z) h
  | int i => obtain ⟨t, q⟩ := (show ∃ t, u = Value.int i t from rx); cases q; exact PySem.W.kia_one PySem.W.kitx_int I.kIn True.intro e (fun z => nomatch z) h
  | str y => obtain ⟨t, q⟩ := (show ∃ t, u = Value.str y t from rx); cases q; exact PySem.W.kia_one PySem.W.kitx_str I.kIn True.intro e (fun z => nomatch z) h
  | flt y => obtain ⟨t, q⟩ := (show ∃ t, u = Value.float y t from rx); cases q; exact PySem.W.kia_one PySem.W.kitx_float I.kIn True.intro e (fun z => nomatch z) h
  | @lst a xs ea =>
    cases (show u = Value.ref a from rx)
    obtain ⟨_, _, n, _, h1⟩ := (show ObjOk X.prog X.w H s.heap a (.lst xs) from I.hok a _ ea)
    exact PySem.W.kia_one PySem.W.kitx_list I.kIn ⟨_, h1, rfl⟩ e (fun z => nomatch z) h
  | @frz a ob xs ea =>
    cases (show u = Value.ref a from rx)
    obtain ⟨_, _, _, n, _, h1⟩ := (show ObjOk X.prog X.w H s.heap a (.frz ob (.lst xs)) from I.hok a _ ea)
    exact PySem.W.kia_one PySem.W.kitx_list I.kIn ⟨_, h1, rfl⟩ e (fun z => nomatch z) h
  | @tup a xs ea =>
    cases (show u = Value.ref a from rx)
    obtain ⟨_, _, _, p⟩ := (show ObjOk X.prog X.w H s.heap a (.tup xs) from I.hok a _ ea)
    obtain ⟨o, h1, h2, _⟩ := p
    exact PySem.W.kia_one PySem.W.kitx_tuple I.kIn ⟨o, h1, h2⟩ e (fun z => nomatch z) h
  | @dK a kvs ea =>
    cases (show u = Value.ref a from rx)
    obtain ⟨_, _, vs, _, p⟩ := (show ObjOk X.prog X.w H s.heap a (.dK kvs) from I.hok a _ ea)
    obtain ⟨o, es, ep, h1, h2, _⟩ := p
    exact PySem.W.kia_one PySem.W.kitx_dict I.kIn ⟨o, h1, h2.1⟩ e (fun z => nomatch z) h
  | @dT a kvs ea =>
    cases (show u = Value.ref a from rx)
    obtain ⟨_, _, xs, _, o, es, ep, h1, h2, _⟩ := (show ObjOk X.prog X.w H s.heap a (.dT kvs) from I.hok a _ ea)
    exact PySem.W.kia_one PySem.W.kitx_dict I.kIn ⟨o, h1, h2.1⟩ e (fun z => nomatch z) h
  | @ins a C dx fs ea cl ha hn htk hm =>
    cases (show u = Value.ref a from rx)
    obtain ⟨mA, O, _⟩ := ins_get I.hok ea
    obtain ⟨od, J, _⟩ := O.look
    exact PySem.W.kia_one (PySem.W.kitx_own (cl.get _) cl.hd ha hn htk hm) I.kIn J e (fun z => nomatch z) h
end
end L2

namespace L2
open PySem PySem.Spec PyProof.Rows

structure Room (k : Nat) (A : Around) : Prop where
  hd : A.handled = none
  dp : A.depth + 3 * k + 5 < recursionLimit
  un : A.units + 16 * k + 200 < cLine
theorem Room.mono {j k : Nat} {A : Around} (r : Room k A) (h : j ≤ k) : Room j A := ⟨r.hd, by have := r.dp; omega, by have := r.un; omega⟩
theorem Room.deeper {k : Nat} {A : Around} (r : Room (k + 1) A) (env : Env) : Room k (A.deeper env) :=
  ⟨r.hd, by have := r.dp; show A.depth + 1 + 3 * k + 5 < _; omega, by have := r.un; show A.units + 3 + 16 * k + 200 < _; omega⟩
theorem make_depth {A : Around} {C : Addr} {us : List Value} {kw : List (Str × Value)} : (A.under (.builtin "type.__call__" ⟨.ref C :: us, kw⟩)).depth = A.depth + 1 := by
  first | rfl | simp [Around.under, Code.weight, Code.isCreation, Code.isGuard, Code.isCaller, Code.frames, Code.isFrame, guardIds]
theorem make_units {A : Around} {C : Addr} {us : List Value} {kw : List (Str × Value)} : (A.under (.builtin "type.__call__" ⟨.ref C :: us, kw⟩)).units = A.units + 1 := by
  first | rfl | simp [Around.under, Code.cUnits, Code.frames, Code.isFrame]
theorem Room.make {k : Nat} {A : Around} (r : Room (k + 1) A) (C : Addr) (us : List Value) (kw : List (Str × Value)) : Room k (A.under (.builtin "type.__call__" ⟨.ref C :: us, kw⟩)) :=
  ⟨r.hd, by have := r.dp; rw [make_depth]; omega, by have := r.un; rw [make_units]; omega⟩
theorem Room.depth {k : Nat} {A : Around} (r : Room k A) : A.depth < recursionLimit := by have := r.dp; omega
noncomputable def tNil : TA := fun _ H Q => Q [] H
noncomputable def tCons (ta : TE) (tr : TA) : TA := fun σ H Q => ta σ H fun x H1 => tr σ H1 fun xs H2 => Q (x :: xs) H2
section
variable {X : Cx} {e : Expr} {es : List Expr} {te : TE} {t : TA} {pos : Pos}
theorem pa_nil : PA X [] tNil := fun _ _ _ _ H Q I h => Calls.spliced_nil ⟨[], H, I, .nil, h⟩
theorem pa_cons (ha : PE X e te) (hr : PA X es t) (hs : starEach (e :: es) X.env = (false, eval e X.env) :: starEach es X.env := by rfl) : PA X (e :: es) (tCons te t) := by
  intro pos pins s σ H Q I h
  rw [hs]
  show wpAny _ _ (spliced ((false, eval e X.env) :: backTo pos (starEach es X.env))) _ _ s
  refine Calls.spliced_cons (thn (ha pins s σ H _ I h) fun u s1 ⟨x, H1, I1, r1, q1⟩ => ?_)
  exact thn (hr pos pins s1 σ H1 _ I1 q1) fun us s2 ⟨xs, H2, I2, r2, q2⟩ => ⟨x :: xs, H2, I2, .cons r1 r2, q2⟩

noncomputable def tLst (t : TA) : TE := fun σ H Q => t σ H fun xs H1 => xs.length ≤ sizeLine ∧ ∀ p, H1 p = none → Q (.ref p) (upd H1 p (.lst xs))
theorem pe_lst (h : PA X es t) : PE X (.List es pos) (tLst t) := by
  intro pins s σ H Q I hq
  refine wpAny_List_spliced (thn (h pos pins s σ H _ I hq) fun us s1 ⟨xs, H1, I1, r, z, q⟩ => ⟨by rw [← r.length]; exact z, ?_⟩)
  have hf : H1 s1.heap.objs.size = none := I1.hok.fresh (Nat.le_refl _)
  refine ⟨.ref s1.heap.objs.size, upd H1 s1.heap.objs.size (.lst xs), I1.laid (t' := s1.toks) (fun b u e => Heap.get?_push_of_some _ e) (Nat.le_refl _) ?_, rfl, q _ hf⟩
  exact ⟨z, us, 0, r, Heap.get?_push_size _ rfl⟩
end

noncomputable abbrev Sp := List V → Hp → VK → XK → Prop
noncomputable abbrev CXT := List Env → Hp → Shared → XK → Value → Shared → Prop

structure Env0 (P : Program) (w : World) (K : PySem.W.Frag) (mg : Str → Option Value) (base : Heap) (A : Around) (outer : List Env) (s : Shared) (H : Hp) : Prop where
  frames : A.frames = some outer
  mod : Mod K mg base
  bs : ∀ b o, base.get? b = some o → s.heap.get? b = some o ∧ H b = none
  bsz : base.objs.size ≤ s.heap.objs.size
  funs : s.heap.FunFrames base outer
  frf : ∀ b ∈ frs outer, H b = none
  hok : HOk P w H s.heap
  bare : AllBare s.gens
noncomputable def CE (outer : List Env) (P : Program) (w : World) (H : Hp) (s : Shared) (Q : VK) (u : Value) (s' : Shared) : Prop :=
  ∃ v H', s'.os = s.os ∧ AllBare s'.gens ∧ Un (frs outer) [] H H' s.heap s'.heap ∧ HOk P w H' s'.heap ∧ RelV v u ∧ Q v H'
noncomputable def CR (CX : CXT) (outer : List Env) (P : Program) (w : World) (H : Hp) (s : Shared) (Q : VK) (E : XK) (r : Result) (s' : Shared) : Prop :=
  match r with
  | .ok (.ret u) => CE outer P w H s Q u s'
  | .ok _ => False
  | .error e => CX outer H s E e s'
structure FnOk (P : Program) (w : World) (K : PySem.W.Frag) (mg : Str → Option Value) (base : Heap) (CX : CXT) (k : Nat) (f : Addr) (fd : FuncData) (ps : List Str) (sp : Sp) : Prop where
  len : ∀ vs H Q E, sp vs H Q E → vs.length = ps.length
  run : ∀ (A : Around) (outer : List Env) (s : Shared) (H : Hp) (args : Args) (us : List Value) (vs : List V) (Q : VK) (E : XK), Room k A → Env0 P w K mg base A outer s H → BindsTo s fd args (ps.zip us) → Vals vs us → sp vs H Q E →
    codeAny (model P w) A (.call (.ref f) args) (CR CX outer P w H s Q E) s
theorem Env0.make {P : Program} {w : World} {K : PySem.W.Frag} {mg : Str → Option Value} {base : Heap} {A : Around} {outer : List Env} {s : Shared} {H : Hp} (e : Env0 P w K mg base A outer s H) (C : Addr) (us : List Value) (kw : List (Str × Value)) :
    Env0 P w K mg base (A.under (.builtin "type.__call__" ⟨.ref C :: us, kw⟩)) outer s H := ⟨by first | exact e.frames | (simpa [Around.under, Code.envs, Code.isFrame, pushEnvs] using e.frames), e.mod, e.bs, e.bsz, e.funs, e.frf, e.hok, e.bare⟩
section
variable {X : Cx} {pins : List (Addr × Obj)} {σ : St} {H : Hp} {s s' : Shared}
theorem Inv.env0 (I : Inv X pins σ H s) : Env0 X.prog X.w X.K X.mg X.base X.A X.stack s H :=
  ⟨I.ok.frames, I.ok.mod, I.bs, Nat.le_trans I.ok.bsz I.sz, I.stack, I.stkFree, I.hok, I.bare⟩
theorem Inv.after {Q : VK} {u : Value} (I : Inv X pins σ H s) (h : CE X.stack X.prog X.w H s Q u s') : EP X pins σ Q u s' := by
  obtain ⟨v, H', os, bare, un, hok, r, q⟩ := h
  obtain ⟨hh, g, d, t, os'⟩ := s'
  obtain rfl : os' = s.os := os
  exact ⟨v, H', I.call (h' := hh) (g' := g) (d' := d) (t' := t) (ch := []) un hok bare (fun b z => absurd z (by simp)), r, q⟩
end

noncomputable def tCall (sp : Sp) (dvs : List V) (E : XK) (t : TA) : TE := fun σ H Q => t σ H fun vs H1 => sp (vs ++ dvs) H1 Q E
noncomputable def tMeth (C : Addr) (m : Str) (sp : Sp) (dvs : List V) (E : XK) (ta : TE) (t : TA) : TE := fun σ H Q => ta σ H fun x H1 => ∃ a dx fs, x = .ref a ∧ H1 a = some (.ins C dx fs) ∧ fs.lookup m = none ∧
  t σ H1 fun vs H2 => sp (x :: (vs ++ dvs)) H2 Q E
noncomputable def tMake (C : Addr) (sp : Sp) (dvs : List V) (E : XK) (t : TA) : TE := fun σ H Q => t σ H fun vs H1 => ∀ x dx, H1 x = none → H1 dx = none → dx ≠ x →
  sp (.ref x :: (vs ++ dvs)) (upd (upd H1 dx (.own x)) x (.ins C dx [])) (fun v H2 => v = .non ∧ Q (.ref x) H2) E

noncomputable def Binds (K : PySem.W.Frag) (fd : FuncData) (ps : List Str) (ds : List Value) : Prop :=
  ∀ (s : Shared) (us : List Value), K.In s.heap → (us ++ ds).length = ps.length → BindsTo s fd ⟨us, []⟩ (ps.zip (us ++ ds))
theorem Binds.all {K : PySem.W.Frag} {fd : FuncData} {ps : List Str} (h : ∀ us : List Value, us.length = ps.length → bindArgs fd ⟨us, []⟩ = pure (ps.zip us)) : Binds K fd ps [] := fun s us _ hl => by
  rw [List.append_nil] at hl ⊢
  exact .of_eq (h us hl)

noncomputable def Passes (CX : CXT) (X : Cx) (E : XK) : Prop := ∀ (pins : List (Addr × Obj)) (σ : St) (H : Hp) (s : Shared) (e : Value) (s' : Shared), Inv X pins σ H s → CX X.stack H s E e s' → X.xe e s'

section
variable {X : Cx} {CX : CXT} {k : Nat} {f C : Addr} {fd : FuncData} {ps : List Str} {sp : Sp} {dvs : List V} {ds : List Value} {E : XK} {x m : Str} {p pos apos : Pos} {e o : Expr} {es : List Expr} {ta : TE} {t : TA}

theorem run_fn {pins : List (Addr × Obj)} {σ : St} {H : Hp} {s : Shared} {Q : VK} {us : List Value} {vs : List V} (F : FnOk X.prog X.w X.K X.mg X.base CX k f fd ps sp) (hr : Room k X.A) (hb : Binds X.K fd ps ds) (hd : Vals dvs ds) (hx : Passes CX X E)
    (I : Inv X pins σ H s) (r : Vals vs us) (h : sp (vs ++ dvs) H Q E) : wpAny (model X.prog X.w) X.A (call (.ref f) us) (EP X pins σ Q) X.xe s := by
  have r2 : Vals (vs ++ dvs) (us ++ ds) := r.append hd
  have hl : (us ++ ds).length = ps.length := by rw [← r2.length]; exact F.len _ _ _ _ h
  refine wpAny_call (codeAny_mono (F.run X.A X.stack s H ⟨us, []⟩ (us ++ ds) (vs ++ dvs) Q E hr I.env0 (hb s us I.kIn hl) r2 h) fun r s' hq => ?_)
  cases r with
  | error e => exact hx pins σ H s e s' I hq
  | ok fl =>
    cases fl with
    | ret u => exact I.after hq
    | next => exact False.elim hq
    | brk => exact False.elim hq
    | cont => exact False.elim hq

theorem pe_call (F : FnOk X.prog X.w X.K X.mg X.base CX k f fd ps sp) (hr : Room k X.A) (hg : Gl X x) (hm : X.mg x = some (.ref f)) (hk : PySem.W.keepIn X.K (.ref f) = true) (hb : Binds X.K fd ps ds) (hd : Vals dvs ds) (hx : Passes CX X E)
    (ha : PA X (e :: es) t) (hdb : (x == ("__debug__" : Str)) = false := by decide) (he : starEach (e :: es) X.env = (false, eval e X.env) :: starEach es X.env := by rfl) (hpl : (backTo pos (starEach es X.env)).any (·.1) = false := by rfl) :
    PE X (.Call (.Name x p) (e :: es) [] pos) (tCall sp dvs E t) := by
  intro pins s σ H Q I h
  refine wpAny_Call_Name_kw (ld_glob I hg hm ?_ hdb)
  refine PySem.W.callWith_K (h₀ := X.base) I.ok.mod.kin hk (thn (ha pos pins s σ H _ I h) fun us s1 ⟨vs, H1, I1, r, q⟩ => ⟨I1.kIn, ?_⟩) he hpl
  exact run_fn F hr hb hd hx I1 r q
theorem pe_meth {pl : Sem Bool} (he : PE X o ta) (c : Cls X.K C) (hm : Meth X.K C m f) (F : FnOk X.prog X.w X.K X.mg X.base CX k f fd ps sp) (hr : Room k X.A) (hb : Binds X.K fd ps ds) (hd : Vals dvs ds) (hx : Passes CX X E) (ha : PA X (e :: es) t)
    (hst : starEach (e :: es) X.env = (false, eval e X.env) :: starEach es X.env := by rfl) (hpl : (backTo pos (starEach es X.env)).any (·.1) = false := by rfl)
    (ht : eval (.Call (.Attribute o m apos) (e :: es) [] pos) X.env = (do
      let ov ← eval o X.env
      standAt apos.atName
      let (f, first) ← holding [ov] (getMethod ov m pl)
      callWith pos f first (backTo pos (starEach (e :: es) X.env)) (backToKw pos (keywordEach [] X.env))) := by rfl) :
    PE X (.Call (.Attribute o m apos) (e :: es) [] pos) (tMeth C m sp dvs E ta t) := by
  intro pins s σ H Q I h
  refine PySem.W.methodCall_KW (pl := pl) (thn (he pins s σ H _ I h) fun u s1 ⟨x, H1, I1, rx, a, dx, fs, ex, ea, l, q⟩ => ?_) ht
  subst ex
  obtain rfl : u = Value.ref a := rx
  refine getmeth_ok I1 ea c hm l ?_
  refine PySem.W.callWith_K (first := [.ref a]) (h₀ := X.base) I.ok.mod.kin hm.kp (thn (ha pos pins s1 σ H1 _ I1 q) fun us s2 ⟨vs, H2, I2, r, q2⟩ => ⟨I2.kIn, ?_⟩) hst hpl
  exact run_fn (us := .ref a :: us) (vs := .ref a :: vs) F hr hb hd hx I2 (.cons rfl r) q2
theorem pe_meth0 {pl : Sem Bool} (he : PE X o ta) (c : Cls X.K C) (hm : Meth X.K C m f) (F : FnOk X.prog X.w X.K X.mg X.base CX k f fd ps sp) (hr : Room k X.A) (hb : Binds X.K fd ps ds) (hd : Vals dvs ds) (hx : Passes CX X E)
    (ht : eval (.Call (.Attribute o m apos) [] [] pos) X.env = (do
      let ov ← eval o X.env
      standAt apos.atName
      let (f, first) ← holding [ov] (getMethod ov m pl)
      callWith pos f first (backTo pos (starEach [] X.env)) (backToKw pos (keywordEach [] X.env))) := by rfl) :
    PE X (.Call (.Attribute o m apos) [] [] pos) (tMeth C m sp dvs E ta tNil) := by
  intro pins s σ H Q I h
  refine PySem.W.methodCall_KW (pl := pl) (thn (he pins s σ H _ I h) fun u s1 ⟨x, H1, I1, rx, a, dx, fs, ex, ea, l, q⟩ => ?_) ht
  subst ex
  obtain rfl : u = Value.ref a := rx
  refine getmeth_ok I1 ea c hm l ?_
  exact PySem.W.callWith_K0 (first := [.ref a]) I1.kIn hm.kp (run_fn (us := [.ref a]) (vs := [.ref a]) F hr hb hd hx I1 (.cons rfl .nil) q)

structure Mk (K : PySem.W.Frag) (C f : Addr) : Prop where
  makes : PySem.W.makesIn K C = true
  init : PySem.W.findIn K (.ref C) "__init__" = some (some (.ref f))
  fn : PySem.W.isFn K (.ref f) = true
  kp : PySem.W.keepIn K (.ref C) = true

theorem run_make {pins : List (Addr × Obj)} {σ : St} {H : Hp} {s : Shared} {Q : VK} {us : List Value} {vs : List V} (M : Mk X.K C f) (F : FnOk X.prog X.w X.K X.mg X.base CX k f fd ps sp) (hr : Room (k + 1) X.A) (hb : Binds X.K fd ps ds) (hd : Vals dvs ds)
    (hx : Passes CX X E) (I : Inv X pins σ H s) (r : Vals vs us)
    (h : ∀ x dx, H x = none → H dx = none → dx ≠ x → sp (.ref x :: (vs ++ dvs)) (upd (upd H dx (.own x)) x (.ins C dx [])) (fun v H2 => v = .non ∧ Q (.ref x) H2) E) :
    wpAny (model X.prog X.w) X.A (call (.ref C) us) (EP X pins σ Q) X.xe s := by
  have hq := h (s.heap.objs.size + 1) s.heap.objs.size (I.hok.fresh (Nat.le_succ _)) (I.hok.fresh (Nat.le_refl _)) (Nat.ne_of_lt (Nat.lt_succ_self _))
  have I2 := Inv.made (C := C) I
  have r2 : Vals (V.ref (s.heap.objs.size + 1) :: (vs ++ dvs)) (Value.ref (s.heap.objs.size + 1) :: (us ++ ds)) := .cons rfl (r.append hd)
  have hl : (Value.ref (s.heap.objs.size + 1) :: us ++ ds).length = ps.length := by
    have e := r2.length
    rw [F.len _ _ _ _ hq] at e
    exact e.symm
  refine wpAny_call (make_map (f := f) I.kIn M.makes M.init (beq_iff_eq.mp M.fn) (codeAny_mono (F.run _ X.stack _ _ ⟨Value.ref (s.heap.objs.size + 1) :: us, []⟩ (Value.ref (s.heap.objs.size + 1) :: (us ++ ds)) _ _ E (hr.make C us [])
    (I2.env0.make C us []) (hb _ (Value.ref (s.heap.objs.size + 1) :: us) I2.kIn hl) r2 hq) fun r s' hq' => ?_))
  cases r with
  | error e => exact hx pins σ _ _ e s' I2 hq'
  | ok fl =>
    cases fl with
    | ret u =>
      obtain ⟨v, H', I3, rv, ev, q3⟩ := I2.after hq'
      subst ev
      exact ⟨rv, ⟨V.ref (s.heap.objs.size + 1), H', I3, rfl, q3⟩⟩
    | next => exact False.elim hq'
    | brk => exact False.elim hq'
    | cont => exact False.elim hq'
theorem pe_make (M : Mk X.K C f) (F : FnOk X.prog X.w X.K X.mg X.base CX k f fd ps sp) (hr : Room (k + 1) X.A) (hg : Gl X x) (hm : X.mg x = some (.ref C)) (hb : Binds X.K fd ps ds) (hd : Vals dvs ds) (hx : Passes CX X E)
    (ha : PA X (e :: es) t) (hdb : (x == ("__debug__" : Str)) = false := by decide) (he : starEach (e :: es) X.env = (false, eval e X.env) :: starEach es X.env := by rfl) (hpl : (backTo pos (starEach es X.env)).any (·.1) = false := by rfl) :
    PE X (.Call (.Name x p) (e :: es) [] pos) (tMake C sp dvs E t) := by
  intro pins s σ H Q I h
  refine wpAny_Call_Name_kw (ld_glob I hg hm ?_ hdb)
  refine PySem.W.callWith_K (h₀ := X.base) I.ok.mod.kin M.kp (thn (ha pos pins s σ H _ I h) fun us s1 ⟨vs, H1, I1, r, q⟩ => ⟨I1.kIn, ?_⟩) he hpl
  exact run_make M F hr hb hd hx I1 r q
end

section
variable {X : Cx} {CX : CXT} {k : Nat} {f C : Addr} {fd : FuncData} {ps ks : List Str} {sp : Sp} {E : XK} {x m : Str} {p pos apos kpos : Pos} {e o : Expr} {es : List Expr} {kws : List Keyword} {te ta : TE} {t tk : TA} {nm : Option Str}
structure KBinds (K : PySem.W.Frag) (fd : FuncData) (ps ks : List Str) (g : List Value → List Value → List Value) (gV : List V → List V → List V) : Prop where
  to : ∀ (s : Shared) (us ws : List Value), K.In s.heap → (g us ws).length = ps.length → BindsTo s fd ⟨us, ks.zip ws⟩ (ps.zip (g us ws))
  rel : ∀ {vs : List V} {us : List Value} {zs : List V} {ws : List Value}, Vals vs us → Vals zs ws → Vals (gV vs zs) (g us ws)
variable {g : List Value → List Value → List Value} {gV : List V → List V → List V}
end

structure FnScope (N P : List Str) (sc : Scope) : Prop where
  kind : sc.kind = .function
  co : sc.isCoroutine = false
  gen : sc.isGenerator = false
  nd : N.Nodup
  pre : N.take P.length = P
  par : ∀ x ∈ P, sc.names.lookup x = some .local ∨ sc.names.lookup x = some .cell
  nofree : ∀ y ∈ sc.names, y.2 ≠ .free

theorem bindL_out {kindOf : Str → Option NameKind} {x : Str} : ∀ {binds : List (Str × Value)} {m : Str → Option Value}, (∀ v, (x, v) ∉ binds) → bindL kindOf binds m x = m x
  | [], _, _ => rfl
  | (n, v) :: r, m, h => by
    unfold bindL
    rw [bindL_out fun w hw => h w (List.mem_cons_of_mem _ hw)]
    split
    · have : x ≠ n := by rintro rfl; exact h v List.mem_cons_self
      simp [this]
    · rfl
theorem bindC_out {kindOf : Str → Option NameKind} {x : Str} : ∀ {binds : List (Str × Value)} {m : Str → Option Value}, (∀ v, (x, v) ∉ binds) → bindC kindOf binds m x = m x
  | [], _, _ => rfl
  | (n, v) :: r, m, h => by
    unfold bindC
    rw [bindC_out fun w hw => h w (List.mem_cons_of_mem _ hw)]
    split
    · rfl
    · have : x ≠ n := by rintro rfl; exact h v List.mem_cons_self
      simp [this]
theorem bindL_get {kindOf : Str → Option NameKind} {x : Str} {v : Value} : ∀ {P : List Str} {vs : List Value} {i : Nat} {m : Str → Option Value}, P.Nodup → P[i]? = some x → vs[i]? = some v → kindOf x = some .local →
    bindL kindOf (P.zip vs) m x = some v
  | [], _, _, _, _, h, _, _ => by simp at h
  | _ :: _, [], _, _, _, _, h, _ => by simp at h
  | p :: P, w :: vs, 0, m, nd, h1, h2, hk => by
    simp at h1 h2; subst h1; subst h2
    show bindL kindOf ((p, w) :: P.zip vs) m p = _
    unfold bindL
    rw [bindL_out fun v hv => (List.nodup_cons.mp nd).1 (List.of_mem_zip hv).1, if_pos hk]
    simp
  | p :: P, w :: vs, i + 1, m, nd, h1, h2, hk => by
    show bindL kindOf ((p, w) :: P.zip vs) m x = _
    unfold bindL
    exact bindL_get (i := i) (List.nodup_cons.mp nd).2 (by simpa using h1) (by simpa using h2) hk
theorem bindC_get {kindOf : Str → Option NameKind} {x : Str} {v : Value} : ∀ {P : List Str} {vs : List Value} {i : Nat} {m : Str → Option Value}, P.Nodup → P[i]? = some x → vs[i]? = some v → kindOf x ≠ some .local →
    bindC kindOf (P.zip vs) m x = some v
  | [], _, _, _, _, h, _, _ => by simp at h
  | _ :: _, [], _, _, _, _, h, _ => by simp at h
  | p :: P, w :: vs, 0, m, nd, h1, h2, hk => by
    simp at h1 h2; subst h1; subst h2
    show bindC kindOf ((p, w) :: P.zip vs) m p = _
    unfold bindC
    rw [bindC_out fun v hv => (List.nodup_cons.mp nd).1 (List.of_mem_zip hv).1, if_neg hk]
    simp
  | p :: P, w :: vs, i + 1, m, nd, h1, h2, hk => by
    show bindC kindOf ((p, w) :: P.zip vs) m x = _
    unfold bindC
    exact bindC_get (i := i) (List.nodup_cons.mp nd).2 (by simpa using h1) (by simpa using h2) hk

noncomputable def start (N : List Str) (vs : List V) : St := vs.map some ++ List.replicate (N.length - vs.length) none

noncomputable def cxOf (CX : CXT) (P : Program) (w : World) (K : PySem.W.Frag) (mg : Str → Option Value) (base : Heap) (N : List Str) (qual : Str) (scope : Scope) (f : Addr) (cd : Value) (A : Around) (outer : List Env) (s : Shared) (H : Hp) (E : XK) : Cx where
  prog := P
  w := w
  K := K
  mg := mg
  base := base
  A := A.deeper (envOfC qual scope s.heap.objs.size f cd)
  N := N
  s_0 := s
  H_0 := H
  env := envOfC qual scope s.heap.objs.size f cd
  outer := outer
  stack := envOfC qual scope s.heap.objs.size f cd :: outer
  ex := []
  calm := true
  fn := fun _ => true
  pn := []
  xe := fun e s' => wpAny (model P w) (A.deeper (envOfC qual scope s.heap.objs.size f cd)) (leaving (envOfC qual scope s.heap.objs.size f cd) e) (fun _ s'' => CX outer H s E e s'') (fun e' s'' => CX outer H s E e' s'') s'

theorem cell_has {sc : Scope} {n : Nat} {x : Str} (h : sc.names.lookup x = some .cell) : ∃ c, (cellsFrom n sc.names []).lookup x = some c := by
  have q := PySem.W.cellsFrom_some sc.names n [] (.inl h)
  exact Option.isSome_iff_exists.mp q

theorem inv_start {CX : CXT} {P : Program} {w : World} {K : PySem.W.Frag} {mg : Str → Option Value} {base : Heap} {N ps : List Str} {qual : Str} {scope : Scope} {f : Addr} {cd : Value} {A : Around} {outer : List Env} {s s1 : Shared} {H : Hp} {E : XK} {us : List Value} {vs : List V}
    (S : FnScope N ps scope) (hd : A.handled = none) (e0 : Env0 P w K mg base A outer s H) (hl : vs.length = ps.length) (r : Vals vs us)
    (x : InCallC s s.heap.objs.size (bindL (envOfC qual scope s.heap.objs.size f cd).kindOf (ps.zip us) fun _ => none) (cellsFrom (s.heap.objs.size + 1) scope.names []) (bindC (envOfC qual scope s.heap.objs.size f cd).kindOf (ps.zip us) fun _ => none) s1) :
    Inv (cxOf CX P w K mg base N qual scope f cd A outer s H E) [] (start N vs) H s1 := by
  have hpl : ps.length ≤ N.length := by have := congrArg List.length S.pre; rw [List.length_take] at this; omega
  obtain ⟨h1, tk, rfl, hk⟩ := x.done
  have noA : ∀ b : Addr, b ∉ (cxOf CX P w K mg base N qual scope f cd A outer s H E).ex := fun b z => absurd (show b ∈ ([] : List Addr) from z) (by simp)
  refine ⟨⟨e0.mod, S.kind, rfl, rfl, Nat.le_refl _, fun y z c h1 h2 => ?_, fun y hy => ?_, fun y c _ h => ?_, fun _ => hd, Around.frames_deeper e0.frames, .inr ⟨rfl, rfl⟩, fun b z => absurd z (noA b), e0.bs, e0.bsz, fun b _ _ => noA b, fun b z => absurd z (noA b), e0.funs, e0.frf⟩,
    rfl, e0.bare, Un.kept hk, ⟨_, x.toInCall.ns, fun i y v h1 h2 h3 => ?_⟩, fun y c h => ⟨_, x.cell y c h⟩, e0.hok.fresh (Nat.le_refl _), fun y c h => ?_, fun p hp => absurd (show p ∈ ([] : List (Addr × Obj)) from hp) (by simp), e0.hok.kept hk, ?_⟩
  · exact name_of_addr x.apart (PySem.mem_of_lookup h1) (PySem.mem_of_lookup h2)
  · have hy : scope.names.lookup y = some .cell ∨ scope.names.lookup y = some .free := hy
    rcases hy with hy | hy
    · exact cell_has hy
    · exact absurd rfl (S.nofree _ (PySem.mem_of_lookup hy))
  · exact Nat.le_of_lt (x.above y c (PySem.mem_of_lookup h))
  · have hi : i < vs.length := by
      unfold start at h2
      by_cases hi : i < vs.length
      · exact hi
      · rw [List.getElem?_append_right (by simpa using hi)] at h2
        rw [List.getElem?_replicate] at h2
        split at h2 <;> cases h2
    have ha : vs[i]? = some v := by
      unfold start at h2
      rw [List.getElem?_append_left (by simpa using hi), List.getElem?_map] at h2
      cases e : vs[i]? with
      | none => rw [e] at h2; cases h2
      | some a => rw [e] at h2; cases h2; rfl
    obtain ⟨u, hu, rv⟩ := r.get ha
    have hp : ps[i]? = some y := by
      rw [← S.pre, List.getElem?_take_of_lt (by omega)]; exact h1
    have ndP : ps.Nodup := by rw [← S.pre]; exact S.nd.sublist (List.take_sublist _ _)
    refine ⟨u, rv, ?_⟩
    rcases S.par y (List.mem_of_getElem? hp) with k | k
    · exact .inl ⟨k, bindL_get ndP hp hu k⟩
    · obtain ⟨c, e⟩ := cell_has (n := s.heap.objs.size + 1) k
      refine .inr ⟨.inl k, c, e, ?_⟩
      have q := x.cell y c e
      rw [bindC_get ndP hp hu (by show scope.names.lookup y ≠ _; rw [k]; decide)] at q
      exact q
  · exact e0.hok.fresh (Nat.le_of_lt (x.above y c (PySem.mem_of_lookup h)))
  · unfold start
    show _ = N.length
    rw [List.length_append, List.length_map, List.length_replicate]
    omega

theorem fn_of {CX : CXT} {P : Program} {w : World} {K : PySem.W.Frag} {mg : Str → Option Value} {base : Heap} {k : Nat} {f : Addr} {name qual : Str} {params : Arguments} {body : List Stmt} {scope : Scope} {dV kV doc pm cdv ct oc : Value} {an od : Option Addr}
    {osl : Array (Option Value)} {N ps : List Str} {sp : Sp} (lk : K.lookup f = some ⟨oc, od, .func (PySem.W.fnOf name qual params body scope dV kV doc pm an cdv ct), osl⟩) (hcd : PySem.W.codeIn K cdv qual = true) (S : FnScope N ps scope)
    (len : ∀ vs H Q E, sp vs H Q E → vs.length = ps.length)
    (hbody : ∀ (A : Around) (outer : List Env) (s : Shared) (H : Hp) (vs : List V) (Q : VK) (E : XK), Room k (A.deeper (envOfC qual scope s.heap.objs.size f cdv)) → sp vs H Q E →
      ∃ t, PSs (cxOf CX P w K mg base N qual scope f cdv A outer s H E) body t ∧ t { nx := fun _ H' => Q .non H', rt := Q } (start N vs) H) :
    FnOk P w K mg base CX (k + 1) f (PySem.W.fnOf name qual params body scope dV kV doc pm an cdv ct) ps sp := by
  refine ⟨len, fun A outer s H args us vs Q E hr e0 hb r hsp => ?_⟩
  have hl := len _ _ _ _ hsp
  have KX : K.In s.heap := e0.mod.kin.keeps fun b o e => (e0.bs b o e).1
  have lim : s.heap.NoLimit := e0.mod.nolimit.keeps fun b o e => (e0.bs b o e).1
  have hkind : ∀ y ∈ ps.zip us, scope.names.lookup y.1 = some .local ∨ (scope.names.lookup y.1 = some .cell ∧ ((cellsFrom (s.heap.objs.size + 1) scope.names []).lookup y.1).isSome = true) := fun ⟨n, v⟩ hy => by
    rcases S.par n (List.of_mem_zip hy).1 with q | q
    · exact .inl q
    · exact .inr ⟨q, PySem.W.cellsFrom_some _ _ _ (.inl q)⟩
  refine codeAny_call_function hr.depth (KX _ _ lk) rfl S.co S.gen rfl (PySem.W.codeRec_of KX hcd) (hb _ _ _ _ ?_)
  refine wpAny_newFunctionEnv_cells S.kind hkind fun env he s1 x => ?_
  subst he
  refine ⟨lim.keeps x.toInCall.keep, codeAny_func ?_⟩
  obtain ⟨t, ht, hq⟩ := hbody A outer s H vs Q E (hr.deeper _) hsp
  have I : Inv (cxOf CX P w K mg base N qual scope f cdv A outer s H E) [] (start N vs) H s1 := inv_start S hr.hd e0 hl r x
  refine wpAny_mono (ht [] s1 (start N vs) H _ I hq) (fun fl s' hs => ?_) fun e s' hs => hs
  have fin : ∀ {σ' : St} {H' : Hp} {v : V} {u : Value}, Inv (cxOf CX P w K mg base N qual scope f cdv A outer s H E) [] σ' H' s' → RelV v u → Q v H' → CE outer P w H s Q u s' :=
    fun {σ' H' v u} J rv q => ⟨v, H', J.os, J.bare, J.base, J.hok, rv, q⟩
  cases fl with
  | ret u =>
    obtain ⟨v, σ', H', J, rv, q⟩ := hs
    exact fin J rv q
  | next =>
    obtain ⟨σ', H', J, q⟩ := hs
    exact fin (v := V.non) (u := Value.none) J rfl q
  | brk =>
    obtain ⟨_, _, _, q⟩ := hs
    exact False.elim q
  | cont =>
    obtain ⟨_, _, _, q⟩ := hs
    exact False.elim q
end L2

namespace L2
open PySem PySem.Spec PyProof.Rows
section
variable {X : Cx} {x : Str} {p pos : Pos} {e : Expr} {es : List Expr} {t : TA} {id T : String} {r : List V → Hp → VK → Prop}

noncomputable def tCB (r : List V → Hp → VK → Prop) (t : TA) : TE := fun σ H Q => t σ H fun vs H1 => r vs H1 Q
theorem pe_callB (hc : CallR X (.builtin id) r) (hg : Gl X x) (hm : X.mg x = none) (hv : bootBuiltins x = some (.builtin id)) (ha : PA X (e :: es) t) (hn : x ≠ "__name__" := by decide) (hdb : (x == ("__debug__" : Str)) = false := by decide)
    (he : starEach (e :: es) X.env = (false, eval e X.env) :: starEach es X.env := by rfl) (hpl : (backTo pos (starEach es X.env)).any (·.1) = false := by rfl) : PE X (.Call (.Name x p) (e :: es) [] pos) (tCB r t) := by
  intro pins s σ H Q I h
  refine wpAny_Call_Name_kw (ld_blt I hg hm hv ?_ hn hdb)
  exact PyProof.Rows.callWith_builtin1 (thn (ha pos pins s σ H _ I h) fun us s1 ⟨vs, H1, I1, r1, q1⟩ => hc pins s1 σ H1 vs us Q I1 r1 q1) he hpl
theorem pe_callTy (hc : CallR X (.type T) r) (hg : Gl X x) (hm : X.mg x = none) (hv : bootBuiltins x = some (.type T)) (ha : PA X (e :: es) t) (hn : x ≠ "__name__" := by decide) (hdb : (x == ("__debug__" : Str)) = false := by decide)
    (he : starEach (e :: es) X.env = (false, eval e X.env) :: starEach es X.env := by rfl) (hpl : (backTo pos (starEach es X.env)).any (·.1) = false := by rfl) : PE X (.Call (.Name x p) (e :: es) [] pos) (tCB r t) := by
  intro pins s σ H Q I h
  refine wpAny_Call_Name_kw (ld_blt I hg hm hv ?_ hn hdb)
  exact PyProof.Rows.callWith_type1 (thn (ha pos pins s σ H _ I h) fun us s1 ⟨vs, H1, I1, r1, q1⟩ => hc pins s1 σ H1 vs us Q I1 r1 q1) he hpl
end
end L2

namespace HT
open PySem PyProof.Rows

section
open PySem.SeqAt
open PySem.AutoSeq1 (wpAny_loadPart')
open PySem.MeetsSeq PySem.MeetsSeq2 PySem.MeetsSeq3

end

section
variable {prog : Program} {w : World} {A : Around} {E : Value → Shared → Prop} {s : Shared}

end
end HT

namespace L2
open PySem PySem.Spec PyProof.Rows

noncomputable abbrev TO := St → Hp → (Option Int → Hp → Prop) → Prop
section
variable {X : Cx} {e : Expr} {te : TE} {lo hi : Option Expr} {tl th : TO} {pos p2 : Pos}

end
end L2

namespace L2
open PySem PySem.Spec PyProof.Rows

noncomputable def ixN (n : Nat) (i : Int) : Option Nat := if 0 ≤ i then (if i < n then some i.toNat else none) else if -(n : Int) ≤ i then some (i + n).toNat else none
noncomputable def atI {α : Type} (xs : List α) (i : Int) : Option α := (ixN xs.length i).bind fun j => xs[j]?
theorem ixN_seq {n : Nat} {i : Int} {j : Nat} (h : ixN n i = some j) : seqIndex? i n = some j ∧ j < n ∧ -(n : Int) ≤ i ∧ i < n := by
  unfold ixN at h
  by_cases h0 : 0 ≤ i
  · rw [if_pos h0] at h
    by_cases h1 : i < n
    · rw [if_pos h1] at h
      have e : i.toNat = j := Option.some.inj h
      exact ⟨by rw [seqIndex_of h0 h1, e], by omega, by omega, h1⟩
    · rw [if_neg h1] at h; cases h
  · rw [if_neg h0] at h
    by_cases h1 : -(n : Int) ≤ i
    · rw [if_pos h1] at h
      have e : (i + n).toNat = j := Option.some.inj h
      exact ⟨by rw [seqIndex_neg (by omega) h1, e], by omega, h1, by omega⟩
    · rw [if_neg h1] at h; cases h
theorem atI_get {α : Type} {xs : List α} {i : Int} {v : α} (h : atI xs i = some v) : ∃ j, seqIndex? i xs.length = some j ∧ xs[j]? = some v ∧ j < xs.length ∧ -(xs.length : Int) ≤ i ∧ i < xs.length := by
  unfold atI at h
  cases e : ixN xs.length i with
  | none => rw [e] at h; cases h
  | some j =>
    rw [e] at h
    obtain ⟨h1, h2, h3, h4⟩ := ixN_seq e
    exact ⟨j, h1, h, h2, h3, h4⟩
theorem atI_nat {α : Type} {xs : List α} {j : Nat} {v : α} (h : xs[j]? = some v) : atI xs (j : Int) = some v := by
  have hj : j < xs.length := (List.getElem?_eq_some_iff.mp h).1
  have e : ixN xs.length (j : Int) = some j := by
    unfold ixN
    rw [if_pos (by omega), if_pos (by omega)]; simp
  unfold atI; rw [e]; exact h
noncomputable def PlainIx (b : Expr) : Prop := ∀ o i, subscripted b false o i = operate [o, i] (getItem o i)
noncomputable def IxR (X : Cx) (r : R2) : Prop :=
  ∀ (value slice : Expr) (pins : List (Addr × Obj)) (s : Shared) (σ : St) (H : Hp) (x y : V) (v u : Value) (Q : VK), Inv X pins σ H s → RelV x v → RelV y u → r x y H Q →
    subscripted slice false v u = operate [v, u] (getItem v u) → wpAny (model X.prog X.w) X.A (subscriptTail value slice v u) (EP X pins σ Q) X.xe s
noncomputable def MtR (X : Cx) (id : String) (r : V → List V → Hp → VK → Prop) : Prop :=
  ∀ (pins : List (Addr × Obj)) (s : Shared) (σ : St) (H : Hp) (x : V) (xs : List V) (v : Value) (us : List Value) (Q : VK), Inv X pins σ H s → RelV x v → Vals xs us → r x xs H Q →
    wpAny (model X.prog X.w) X.A (call (.builtin id) (v :: us)) (EP X pins σ Q) X.xe s
section
variable {X : Cx} {a b : Expr} {ta tb : TE} {pos : Pos}
theorem pe_ix {r : R2} (hr : IxR X r) (ha : PE X a ta) (hb : PE X b tb) (hs : PlainIx b) : PE X (.Subscript a b pos) (tOp r ta tb) := by
  intro pins s σ H Q I h
  exact Subscript_ (binT ha hb I h fun v u s2 x y H2 I2 rx ry q => hr a b pins s2 σ H2 x y v u Q I2 rx ry q (hs _ _))

noncomputable def rIxL (K : PySem.W.Frag) : R2 := fun x y H Q => ∃ p xs i v, x = .ref p ∧ y = .int i ∧ SqL K H p xs ∧ atI xs i = some v ∧ Q v H
noncomputable def rIxT (K : PySem.W.Frag) : R2 := fun x y H Q => ∃ p xs i v, x = .ref p ∧ y = .int i ∧ SqT K H p xs ∧ atI xs i = some v ∧ Q v H
noncomputable def rIxS : R2 := fun x y H Q => ∃ z i c, x = .str z ∧ y = .int i ∧ z.length ≤ sizeLine ∧ atI z.cps.toList i = some c ∧ Q (.str ⟨#[c]⟩) H
theorem ix_list : IxR X (rIxL X.K) := by
  intro value slice pins s σ H x y v u Q I rx ry h hs
  obtain ⟨p, xs, i, z, rfl, rfl, hq, he, q⟩ := h
  cases rx
  obtain ⟨t, rfl⟩ := ry
  obtain ⟨its, r, pl, hz⟩ := I.list hq
  obtain ⟨j, h1, h2, h3, h4, h5⟩ := atI_get he
  obtain ⟨w, ew, rw'⟩ := r.get h2
  have hl := r.length
  have hn := line63
  have fin : EP X pins σ Q w s := ⟨z, H, I, rw', q⟩
  by_cases h0 : 0 ≤ i
  · have hj : i.toNat = j := by
      rw [seqIndex_of h0 h5] at h1
      exact Option.some.inj h1
    exact item_listR pl.isList h0 (by omega) (by rw [hj]; simpa using ew) fin hs
  · have hj : (i + (its.toArray.size : Int)).toNat = j := by
      rw [seqIndex_neg (by omega) h4] at h1
      rw [List.size_toArray, ← hl]
      exact Option.some.inj h1
    exact subscriptTail_builtinR (x := w) pl.isList.typeIs slot_list_getitem.lookup
      (wpAny_getItem_list_neg (Q := fun r s' => r = w ∧ EP X pins σ Q r s') pl.isList (by omega) (by rw [List.size_toArray] <;> omega) (by omega) (by rw [hj]; simpa using ew) ⟨rfl, fin⟩) hs
theorem ix_tup : IxR X (rIxT X.K) := by
  intro value slice pins s σ H x y v u Q I rx ry h hs
  obtain ⟨p, xs, i, z, rfl, rfl, hq, he, q⟩ := h
  cases rx
  obtain ⟨t, rfl⟩ := ry
  obtain ⟨its, r, pl, hz⟩ := I.tuple hq
  obtain ⟨j, h1, h2, h3, h4, h5⟩ := atI_get he
  obtain ⟨w, ew, rw'⟩ := r.get h2
  have hl := r.length
  have hn := line63
  have fin : EP X pins σ Q w s := ⟨z, H, I, rw', q⟩
  exact subscriptTail_builtinR (x := w) pl.typeIs slot_tuple_getitem.lookup
    (getItem_tuple (j := j) (Q := fun r s' => r = w ∧ EP X pins σ Q r s') pl (by omega) (by omega) (by rw [List.size_toArray, ← hl]; exact h1) (by simpa using ew) ⟨rfl, fin⟩) hs
theorem ix_str : IxR X rIxS := by
  intro value slice pins s σ H x y v u Q I rx ry h hs
  obtain ⟨z, i, c, rfl, rfl, hz, he, q⟩ := h
  obtain ⟨t, rfl⟩ := rx
  obtain ⟨t', rfl⟩ := ry
  obtain ⟨j, h1, h2, h3, h4, h5⟩ := atI_get he
  have hl : z.cps.toList.length = z.length := by simp [Str.length]
  rw [hl] at h1 h4 h5
  have hn := line63
  exact tail_any (typeIs_str s z t) slot_str_getitem.lookup (getItem_str (c := c) (by
    have e1 : decide (i < -(2 ^ 63 : Int)) = false := decide_eq_false (by omega)
    have e2 : decide (i ≥ 2 ^ 63) = false := decide_eq_false (by omega)
    rw [e1, e2, Bool.or_false]) (by rw [h1]; simpa using h2) ⟨.str ⟨#[c]⟩, H, I.tok _, ⟨_, rfl⟩, q⟩) hs
theorem call_len_seq : CallR X (.builtin "len") (fun xs H Q => ∃ p ys, xs = [.ref p] ∧ (SqL X.K H p ys ∨ SqT X.K H p ys) ∧ Q (.int ys.length) H) := by
  intro pins s σ H xs us Q I r h
  obtain ⟨p, ys, rfl, hq, q⟩ := h
  obtain ⟨u, rfl, rx⟩ := vals1 r
  cases rx
  have hn := line63
  rcases hq with hq | hq
  · obtain ⟨its, r', pl, hz⟩ := I.list hq
    have hlen := r'.length
    exact Calls.call_len_list pl.isList (by simp only [List.size_toArray] <;> omega) ⟨.int ys.length, H, I.tok _, ⟨s.toks + 1, by rw [List.size_toArray, hlen]⟩, q⟩
  · obtain ⟨its, r', pl, hz⟩ := I.tuple hq
    have hlen := r'.length
    exact len_tuple pl (by simp only [List.size_toArray] <;> omega) ⟨.int ys.length, H, I.tok _, ⟨s.toks + 1, by rw [List.size_toArray, hlen]⟩, q⟩
theorem call_list_of : CallR X (.type "list") (fun xs H Q => ∃ p ys, xs = [.ref p] ∧ (SqL X.K H p ys ∨ SqT X.K H p ys) ∧ ∀ l, H l = none → Q (.ref l) (upd H l (.lst ys))) := by
  intro pins s σ H xs us Q I r h
  obtain ⟨p, ys, rfl, hq, q⟩ := h
  obtain ⟨u, rfl, rx⟩ := vals1 r
  cases rx
  have fin : ∀ (its : List Value), Vals ys its → ys.length ≤ sizeLine → ∀ (h' : Heap) (c' : Nat), (∀ b o', s.heap.get? b = some o' → h'.get? b = some o') →
      h'.get? s.heap.objs.size = some { cls := .type "list", dict := none, data := .seq its.toArray c', slots := #[] } → EP X pins σ Q (.ref s.heap.objs.size) { s with heap := h' } := fun its r' hz h' c' kp e =>
    ⟨.ref s.heap.objs.size, _, I.laid (t' := s.toks) kp (Nat.le_refl _) (show ObjOk X.prog X.w _ h' _ (.lst ys) from ⟨hz, its, c', r', e⟩), rfl, q _ (I.hok.fresh (Nat.le_refl _))⟩
  rcases hq with hq | hq
  · obtain ⟨its, r', pl, hz⟩ := I.list hq
    have hlen := r'.length
    obtain ⟨o, ho, hc, n, hd⟩ := pl.isList
    exact call_list_seq p (.inl rfl) ho hc hd (fun h' c' kp e => fin its r' hz h' c' kp e) (by simp only [List.size_toArray] <;> omega)
  · obtain ⟨its, r', pl, hz⟩ := I.tuple hq
    have hlen := r'.length
    obtain ⟨o, ho, hc, n, hd⟩ := pl
    exact call_list_seq p (.inr rfl) ho hc hd (fun h' c' kp e => fin its r' hz h' c' kp e) (by simp only [List.size_toArray] <;> omega)
noncomputable def tyV (K : PySem.W.Frag) (T : String) (x : V) (H : Hp) : Prop := match x with
  | .str _ => T = "str"
  | .int _ => T = "int"
  | .ref p => (T = "list" ∧ ∃ xs, SqL K H p xs) ∨ (T = "tuple" ∧ ∃ o, K.lookup p = some o ∧ o.cls = .type "tuple" ∧ o.dict = none) ∨
      (T = "dict" ∧ ((∃ kvs, H p = some (.dK kvs)) ∨ ∃ kvs, H p = some (.dT kvs))) ∨ (T = "set" ∧ ∃ S n, H p = some (.set S n))
  | _ => False
theorem tyV_is {pins : List (Addr × Obj)} {σ : St} {H : Hp} {s : Shared} {T : String} {x : V} {v : Value} (I : Inv X pins σ H s) (r : RelV x v) (ty : tyV X.K T x H) :
    s.TypeIs v T ∧ ∀ a, v = .ref a → ∃ ob, s.heap.get? a = some ob ∧ ob.dict = none := by
  cases x with
  | str z =>
    obtain ⟨t, rfl⟩ := r
    cases (show T = "str" from ty)
    exact ⟨typeIs_str s z t, fun _ e => nomatch e⟩
  | int i =>
    obtain ⟨t, rfl⟩ := r
    cases (show T = "int" from ty)
    exact ⟨typeIs_int s i t, fun _ e => nomatch e⟩
  | ref p =>
    cases r
    rcases ty with ⟨rfl, xs, hq⟩ | ⟨rfl, o, hk, hc, hd⟩ | ⟨rfl, hk⟩ | ⟨rfl, S, n, hk⟩
    · obtain ⟨its, _, pl, _⟩ := I.list hq
      refine ⟨pl.isList.typeIs, fun a e => ?_⟩
      cases e
      obtain ⟨o, n, e, c, hd, _⟩ := pl
      exact ⟨o, e, hd⟩
    · refine ⟨⟨o, I.kIn p o hk, hc⟩, fun a e => ?_⟩
      cases e
      exact ⟨o, I.kIn _ o hk, hd⟩
    · have z : ∃ o, s.heap.get? p = some o ∧ o.ExactDict := by
        rcases hk with ⟨kvs, hk⟩ | ⟨kvs, hk⟩
        · obtain ⟨_, _, _, _, o, _, _, e, ex, _⟩ := I.hok p _ hk
          exact ⟨o, e, ex⟩
        · obtain ⟨_, _, _, _, o, _, _, e, ex, _⟩ := I.hok p _ hk
          exact ⟨o, e, ex⟩
      obtain ⟨o, e, ex⟩ := z
      refine ⟨⟨o, e, ex.1⟩, fun a e2 => ?_⟩
      cases e2
      exact ⟨o, e, ex.2.1⟩
    · obtain ⟨o, _, _, _, e, ex, _⟩ := I.hok p _ hk
      refine ⟨⟨o, e, ex.1⟩, fun a e2 => ?_⟩
      cases e2
      exact ⟨o, e, ex.2.1⟩
  | _ => exact False.elim ty
noncomputable def tBM (K : PySem.W.Frag) (T : String) (r : V → List V → Hp → VK → Prop) (to : TE) (t : TA) : TE := fun σ H Q => to σ H fun x H1 => tyV K T x H1 ∧ t σ H1 fun xs H2 => r x xs H2 Q
variable {o e : Expr} {es : List Expr} {to : TE} {t : TA} {name : Str} {apos cpos : Pos} {T id : String} {r : V → List V → Hp → VK → Prop}
theorem pe_bm (pa : PlainAttrs T) (slot : Slot T name id) (hty : typeOf (.builtin id) = pure (.type "method_descriptor")) (hm : MtR X id r) (ho : PE X o to) (ha : PA X (e :: es) t)
    (hbase : attributeBase o name X.env (eval o X.env) = eval o X.env := by rfl)
    (hfew : ((backTo cpos (starEach (e :: es) X.env)).all (fun x => !x.1) && (backToKw cpos (keywordEach [] X.env)).all (fun x => x.1.isSome)
      && decide ((e :: es).length + ([] : List Keyword).length + (if ([] : List Keyword).isEmpty then 0 else 1) < 30)) = true := by rfl)
    (hline : (apos.endLine == cpos.line) = true := by rfl) (hs : starEach (e :: es) X.env = (false, eval e X.env) :: starEach es X.env := by rfl) (hplain : (backTo cpos (starEach es X.env)).any (·.1) = false := by rfl) :
    PE X (.Call (.Attribute o name apos) (e :: es) [] cpos) (tBM X.K T r to t) := by
  intro pins s σ H Q I h
  refine wpAny_Call_method_late hbase hfew hline rfl (thn (ho pins s σ H _ I h) fun v s1 ⟨x, H1, I1, r1, ty, q1⟩ => ?_)
  obtain ⟨h1, h2⟩ := tyV_is I1 r1 ty
  refine ⟨T, id, pa, slot, hty, h1, h2, ?_⟩
  have hA := ha cpos pins s1 σ H1 _ I1 q1
  rw [hs] at hA ⊢
  refine Calls.callWith_builtin (by show (false || (backTo cpos (starEach es X.env)).any (·.1)) = false; rw [hplain] <;> rfl) (Calls.evalArgs_plain ?_)
  exact thn hA fun us s2 ⟨vs, H2, I2, r2, q2⟩ => hm pins s2 σ H2 x vs v us Q I2 r1 r2 q2
/- xs.append(e), list.index on a module's tuple .. are MtR facts of 06m -/
end
end L2

namespace L2
open PySem PySem.Spec PyProof.Rows

noncomputable def MtM (X : Cx) (id : String) (r : V → List V → Hp → VK → Prop) : Prop :=
  ∀ (pins : List (Addr × Obj)) (s : Shared) (σ : St) (H : Hp) (x : V) (xs : List V) (v : Value) (us : List Value) (Q : VK), Inv X pins σ H s → RelV x v → Vals xs us → r x xs H Q →
    wpAny (model X.prog X.w) X.A (call (.builtin id) (v :: us)) (EP X pins σ Q) X.xe s

theorem Vals.one : ∀ {x : V} {us : List Value}, Vals [x] us → ∃ u, us = [u] ∧ RelV x u
  | _, _, .cons r .nil => ⟨_, rfl, r⟩
section
variable {X : Cx} {pins : List (Addr × Obj)} {σ : St} {H : Hp} {s : Shared} {l b : Addr} {xs ys zs : List V}

theorem Inv.lset {its its' : List Value} {n : Nat} {f : Array Value → Array Value} {t' : Nat} (I : Inv X pins σ H s) (hH : H l = some (.lst xs))
    (e : s.heap.get? l = some { cls := .type "list", data := .seq its.toArray n }) (hf : f its.toArray = its'.toArray) (hv : Vals ys its') (hz : ys.length ≤ sizeLine) :
    Inv X pins σ (upd H l (.lst ys)) { s with heap := s.heap.update l (Obj.mapSeq f), toks := t' } := by
  have q := PySem.IsL.update e f
  rw [hf] at q
  refine I.write (x := l) (e := l) (by rw [hH]; exact trivial) (.inl rfl) (fun b' u hb hu => (Heap.get?_update_other s.heap (Obj.mapSeq f) (Ne.symm hb)).trans hu) ⟨_, q⟩ ?_
  exact ⟨hz, its', _, hv, q⟩
theorem Inv.lnew {its : List Value} {t' : Nat} (I : Inv X pins σ H s) (hv : Vals ys its) (hz : ys.length ≤ sizeLine) :
    Inv X pins σ (upd H s.heap.objs.size (.lst ys)) { s with heap := s.heap.push { cls := .type "list", data := .seq its.toArray }, toks := t' } :=
  I.laid (fun _ _ q => Heap.get?_push_of_some _ q) (Nat.le_refl _) ⟨hz, its, 0, hv, Heap.get?_push_size _ rfl⟩
theorem Inv.fresh (I : Inv X pins σ H s) : H s.heap.objs.size = none := I.hok.fresh (Nat.le_refl _)
theorem Inv.lstM (I : Inv X pins σ H s) (hH : H l = some (.lst xs)) : xs.length ≤ sizeLine ∧ ∃ (its : List Value) (n : Nat), Vals xs its ∧ xs.length = its.length ∧ s.heap.get? l = some { cls := .type "list", data := .seq its.toArray n } := by
  obtain ⟨z, its, n, r, e⟩ := I.hok l _ hH
  exact ⟨z, its, n, r, r.length, e⟩

end

section
variable {X : Cx}

noncomputable def rAppend : V → List V → Hp → VK → Prop := fun x vs H Q => ∃ l xs y, x = .ref l ∧ vs = [y] ∧ H l = some (.lst xs) ∧ xs.length < sizeLine ∧ Q .non (upd H l (.lst (xs ++ [y])))
theorem mt_append : MtM X "list.append" rAppend := by
  intro pins s σ H x vs v us Q I rx rv h
  obtain ⟨l, xs, y, rfl, rfl, hH, hz, q⟩ := h
  cases rx
  obtain ⟨u, rfl, ru⟩ := rv.one
  obtain ⟨z, its, n, r, hl, e⟩ := I.lstM hH
  refine call_meets F.slot_list_append ⟨_, e, rfl⟩ F.entry_list_append (F.args_list_append_2 _ _) (PySem.list_append l its.toArray n u (by rw [List.size_toArray]; omega)) ⟨e, ?_⟩
  refine ⟨.non, _, I.lset (its' := its ++ [u]) hH e (by simp) (r.append (.cons ru .nil)) ?_, rfl, q⟩
  rw [List.length_append, List.length_singleton]
  omega

noncomputable def rCat : R2 := fun x y H Q => ∃ l b xs zs, x = .ref l ∧ y = .ref b ∧ H l = some (.lst xs) ∧ H b = some (.lst zs) ∧ xs.length + zs.length ≤ sizeLine ∧ ∀ p, H p = none → Q (.ref p) (upd H p (.lst (xs ++ zs)))
theorem op_cat : OpR X (binaryOp .Add) rCat := by
  intro pins s σ H x y v u Q I rx ry h
  obtain ⟨l, b, xs, zs, rfl, rfl, hH, hB, hz, q⟩ := h
  cases rx
  cases ry
  obtain ⟨z, its, n, r, hl, e⟩ := I.lstM hH
  obtain ⟨z2, its2, n2, r2, hl2, e2⟩ := I.lstM hB
  refine PySem.P.add_list e e2 ?_ (by rw [List.size_toArray, List.size_toArray]; omega)
  have ea : its.toArray ++ its2.toArray = (its ++ its2).toArray := by simp
  rw [ea]
  exact ⟨.ref _, _, I.lnew (t' := s.toks) (r.append r2) (by rw [List.length_append]; omega), rfl, q _ I.fresh⟩
end

section
variable {prog : Program} {w : World} {A : Around} {E : Value → Shared → Prop} {s : Shared}
set_option maxRecDepth 100000 in
end

section
variable {X : Cx}
end
end L2

namespace L2
open PySem PySem.Spec PyProof.Rows

section
variable {prog : Program} {w : World} {A : Around} {E : Value → Shared → Prop} {s : Shared} {l : Addr} {its : List Value} {ns : List Int} {Q : Value → Shared → Prop}
end

section
variable {X : Cx}
end

section
variable {X : Cx}
end

section
variable {X : Cx}
end

section
variable {X : Cx}
end

section
variable {X : Cx} {pins : List (Addr × Obj)} {σ : St} {H : Hp} {s : Shared}
end
section
variable {X : Cx}
end
end L2

namespace L2
open PySem PySem.Spec PyProof.Rows
noncomputable abbrev CellAt (h : Heap) (c : Addr) (v : Option Value) : Prop := h.IsCell c v
noncomputable def relS (scope sc : Scope) : Scope :=
  { scope with names := scope.names.map fun (n, k) => if (k == .free && sc.kind == .function && sc.names.lookup n == some .cell) then (n, .cell) else (n, k) }

noncomputable def cloFrom (cells : List (Str × Addr)) : List (Str × NameKind) → List (Str × Addr) → List (Str × Addr)
  | [], acc => acc
  | (n, k) :: r, acc => if k == .free then cloFrom cells r ((n, (cells.lookup n).getD 0) :: acc) else cloFrom cells r acc

theorem closure_loop (env : Env) (f : Str × NameKind → List (Str × Addr) → Sem (ForInStep (List (Str × Addr))))
    (hf : ∀ n k c, f (n, k) c = if k == .free then (do let a ← cellOf env n; pure (.yield ((n, a) :: c))) else pure (.yield c)) :
    ∀ (names : List (Str × NameKind)) (acc : List (Str × Addr)), (∀ y ∈ names, y.2 = .free → ∃ c, env.cells.lookup y.1 = some c) → forIn names acc f = pure (cloFrom env.cells names acc)
  | [], acc, _ => by rw [List.forIn_nil]; rfl
  | (n, k) :: r, acc, h => by
    rw [List.forIn_cons, hf]
    have ih := fun acc => closure_loop env f hf r acc fun y hy => h y (List.mem_cons_of_mem _ hy)
    unfold cloFrom
    by_cases hk : (k == NameKind.free) = true
    · rw [if_pos hk, if_pos hk]
      obtain ⟨c, hc⟩ := h (n, k) List.mem_cons_self (by simpa using hk)
      have e : cellOf env n = pure c := by unfold cellOf; rw [hc]
      rw [e]
      have e2 : (env.cells.lookup n).getD 0 = c := by rw [hc]; rfl
      rw [e2]
      exact ih _
    · rw [if_neg hk, if_neg hk]
      exact ih _
theorem closure_ok {scope : Scope} {env : Env} (h : ∀ y ∈ scope.names, y.2 = .free → ∃ c, env.cells.lookup y.1 = some c) : closureFor scope env = pure (cloFrom env.cells scope.names []) := by
  simp only [closureFor]
  rw [closure_loop env _ (fun n k c => rfl) scope.names [] h]
  rfl

theorem mem_lookup {α : Type} : ∀ {l : List (Str × α)} {n : Str} {c : α}, (n, c) ∈ l → ∃ c', l.lookup n = some c'
  | (k, v) :: r, n, c, h => by
    rw [List.lookup_cons]
    cases hb : n == k with
    | true => exact ⟨_, rfl⟩
    | false =>
      rcases List.mem_cons.mp h with e | h
      · cases e; simp at hb
      · exact mem_lookup h

theorem cloFrom_mem {cells : List (Str × Addr)} : ∀ {names : List (Str × NameKind)} {acc : List (Str × Addr)} {n : Str} {c : Addr}, (n, c) ∈ cloFrom cells names acc → (n, c) ∈ acc ∨ ((n, .free) ∈ names ∧ c = (cells.lookup n).getD 0)
  | [], _, _, _, h => .inl h
  | (m, k) :: r, acc, n, c, h => by
    unfold cloFrom at h
    split at h
    · rename_i hk
      have hk : k = .free := by simpa using hk
      rcases cloFrom_mem h with h | ⟨h1, h2⟩
      · rcases List.mem_cons.mp h with e | h
        · cases e; exact .inr ⟨hk ▸ List.mem_cons_self, rfl⟩
        · exact .inl h
      · exact .inr ⟨List.mem_cons_of_mem _ h1, h2⟩
    · rcases cloFrom_mem h with h | ⟨h1, h2⟩
      · exact .inl h
      · exact .inr ⟨List.mem_cons_of_mem _ h1, h2⟩
theorem cloFrom_acc {cells : List (Str × Addr)} : ∀ {names : List (Str × NameKind)} {acc : List (Str × Addr)} {p : Str × Addr}, p ∈ acc → p ∈ cloFrom cells names acc
  | [], _, _, h => h
  | (m, k) :: r, acc, p, h => by
    unfold cloFrom
    split
    · exact cloFrom_acc (List.mem_cons_of_mem _ h)
    · exact cloFrom_acc h
theorem cloFrom_has {cells : List (Str × Addr)} : ∀ {names : List (Str × NameKind)} {acc : List (Str × Addr)} {n : Str}, (n, .free) ∈ names → (n, (cells.lookup n).getD 0) ∈ cloFrom cells names acc
  | (m, k) :: r, acc, n, h => by
    unfold cloFrom
    rcases List.mem_cons.mp h with e | h
    · cases e
      exact cloFrom_acc List.mem_cons_self
    · split
      · exact cloFrom_has h
      · exact cloFrom_has h

theorem cells_mem : ∀ {names : List (Str × NameKind)} {h : Heap} {acc : List (Str × Addr)} {x : Str} {c : Addr}, (x, c) ∈ cellsFrom h.objs.size names acc →
    (x, c) ∈ acc ∨ ((x, .cell) ∈ names ∧ h.objs.size ≤ c ∧ CellAt (pushCells h names) c none)
  | [], _, _, _, _, h => .inl h
  | (n, k) :: r, h, acc, x, c, hm => by
    unfold cellsFrom at hm
    unfold pushCells
    split at hm
    · rename_i hk
      rw [if_pos hk]
      have hk : k = .cell := by simpa using hk
      rw [← Heap.size_push h { cls := .type "cell", data := .cell none }] at hm
      rcases cells_mem hm with hm | ⟨h1, h2, h3⟩
      · rcases List.mem_cons.mp hm with e | hm
        · cases e
          exact .inr ⟨hk ▸ List.mem_cons_self, Nat.le_refl _, _, pushCells_keeps r _ _ _ (Heap.get?_push_size _ rfl), rfl⟩
        · exact .inl hm
      · rw [Heap.size_push] at h2
        exact .inr ⟨List.mem_cons_of_mem _ h1, Nat.le_of_succ_le h2, h3⟩
    · rename_i hk
      rw [if_neg hk]
      rcases cells_mem hm with hm | ⟨h1, h2, h3⟩
      · exact .inl hm
      · exact .inr ⟨List.mem_cons_of_mem _ h1, h2, h3⟩
theorem cells_acc : ∀ {names : List (Str × NameKind)} {n : Nat} {acc : List (Str × Addr)} {p : Str × Addr}, p ∈ acc → p ∈ cellsFrom n names acc
  | [], _, _, _, h => h
  | (m, k) :: r, n, acc, p, h => by
    unfold cellsFrom
    split
    · exact cells_acc (List.mem_cons_of_mem _ h)
    · exact cells_acc h
theorem cells_has : ∀ {names : List (Str × NameKind)} {n : Nat} {acc : List (Str × Addr)} {x : Str}, (x, .cell) ∈ names → ∃ c, (x, c) ∈ cellsFrom n names acc
  | (m, k) :: r, n, acc, x, h => by
    unfold cellsFrom
    rcases List.mem_cons.mp h with e | h
    · cases e
      exact ⟨n, cells_acc List.mem_cons_self⟩
    · split
      · exact cells_has h
      · exact cells_has h
theorem cells_inj : ∀ {names : List (Str × NameKind)} {h : Heap} {acc : List (Str × Addr)} {x y : Str} {c : Addr}, (∀ p ∈ acc, p.2 < h.objs.size) → (∀ x y c, (x, c) ∈ acc → (y, c) ∈ acc → x = y) →
    (x, c) ∈ cellsFrom h.objs.size names acc → (y, c) ∈ cellsFrom h.objs.size names acc → x = y
  | [], _, _, _, _, _, _, hi, h1, h2 => hi _ _ _ h1 h2
  | (n, k) :: r, h, acc, x, y, c, hl, hi, h1, h2 => by
    unfold cellsFrom at h1 h2
    split at h1
    · rename_i hk
      rw [if_pos hk] at h2
      rw [← Heap.size_push h { cls := .type "cell", data := .cell none }] at h1 h2
      refine cells_inj (h := h.push _) (fun p hp => ?_) (fun x y c a b => ?_) h1 h2
      · rw [Heap.size_push]
        rcases List.mem_cons.mp hp with rfl | hp
        · exact Nat.lt_succ_self _
        · exact Nat.lt_succ_of_lt (hl p hp)
      · rcases List.mem_cons.mp a with e | a <;> rcases List.mem_cons.mp b with e' | b
        · cases e; cases e'; rfl
        · cases e; exact absurd (hl _ b) (Nat.lt_irrefl _)
        · cases e'; exact absurd (hl _ a) (Nat.lt_irrefl _)
        · exact hi _ _ _ a b
    · rename_i hk
      rw [if_neg hk] at h2
      exact cells_inj hl hi h1 h2

theorem newEnv_comp {M : Model} {A : Around} {E : Value → Shared → Prop} {s : Shared} {scope : Scope} {globals : Addr} {closure : List (Str × Addr)} {qual : Str} {func : Option Addr} {code : Value} {around : Env} {builtins : Addr} {Q : Env → Shared → Prop}
    (h : Q (newEnv scope s.heap.objs.size globals (cellsFrom (s.heap.objs.size + 1) scope.names closure) qual func code (some around) builtins)
      { s with heap := pushCells (s.heap.push { cls := .type "dict", data := .dict #[] }) scope.names }) :
    wpAny M A (newFunctionEnv scope globals closure [] qual func code (some around) builtins) Q E s := by
  simp only [newFunctionEnv, Option.isSome_some, if_true]
  refine wpAny_bind (wpAny_alloc ?_)
  refine wpAny_bind (wpAny_layCells _ (fun n k c => rfl) scope.names closure _ _ ?_)
  rw [show ({ s with heap := s.heap.push { cls := .type "dict", data := .dict #[] } } : Shared).heap.objs.size = s.heap.objs.size + 1 from Heap.size_push ..]
  rw [List.forIn_nil]
  exact wpAny_bind (wpAny_pure (wpAny_pure h))

theorem lookup_relS {sc : Scope} : ∀ {names : List (Str × NameKind)} {x : Str} {k : NameKind},
    (names.map fun (n, k) => if (k == NameKind.free && sc.kind == .function && sc.names.lookup n == some .cell) then (n, NameKind.cell) else (n, k)).lookup x = some k →
    ∃ k', names.lookup x = some k' ∧ (k = k' ∨ (k' = .free ∧ k = .cell))
  | [], _, _, h => by simp at h
  | (n, k₀) :: r, x, k, h => by
    have ih := @lookup_relS sc r x k
    have h' : List.lookup x ((if (k₀ == NameKind.free && sc.kind == .function && sc.names.lookup n == some .cell) = true then (n, NameKind.cell) else (n, k₀)) :: (r.map _)) = some k := h
    cases hx : x == n with
    | true =>
      simp only [List.lookup_cons, hx]
      by_cases hc : (k₀ == NameKind.free && sc.kind == .function && sc.names.lookup n == some .cell) = true
      · rw [if_pos hc] at h'
        simp only [List.lookup_cons, hx] at h'
        cases h'
        simp only [Bool.and_eq_true, beq_iff_eq] at hc
        exact ⟨k₀, rfl, .inr ⟨hc.1.1, rfl⟩⟩
      · rw [if_neg hc] at h'
        simp only [List.lookup_cons, hx] at h'
        cases h'
        exact ⟨_, rfl, .inl rfl⟩
    | false =>
      simp only [List.lookup_cons, hx]
      by_cases hc : (k₀ == NameKind.free && sc.kind == .function && sc.names.lookup n == some .cell) = true
      · rw [if_pos hc] at h'
        simp only [List.lookup_cons, hx] at h'
        exact ih h'
      · rw [if_neg hc] at h'
        simp only [List.lookup_cons, hx] at h'
        exact ih h'
structure BlkOk (N : List Str) (sc scope : Scope) (own : List (Str × Nat)) : Prop where
  kind : scope.kind = .function
  uniq : ∀ y ∈ scope.names, scope.names.lookup y.1 = some y.2
  ix : ∀ p ∈ own, N[p.2]? = some p.1
  free : ∀ y ∈ scope.names, y.2 = .free → sc.names.lookup y.1 = some .cell ∨ sc.names.lookup y.1 = some .free
  own : ∀ y ∈ scope.names, y.2 = .local ∨ y.2 = .cell → y.1 ∈ own.map (·.1) ∨ y.1 ∉ N
noncomputable def wipe (σ : St) : List Nat → St
  | [] => σ
  | v :: vs => (wipe σ vs).set v none
theorem wipe_length (σ : St) : ∀ vs : List Nat, (wipe σ vs).length = σ.length
  | [] => rfl
  | v :: vs => by unfold wipe; rw [List.length_set, wipe_length σ vs]
theorem wipe_some {σ : St} {i : Nat} {x : V} : ∀ {vs : List Nat}, (wipe σ vs)[i]? = some (some x) → σ[i]? = some (some x) ∧ i ∉ vs
  | [], h => ⟨h, by simp⟩
  | v :: vs, h => by
    unfold wipe at h
    by_cases hi : v = i
    · subst hi
      by_cases hv : v < (wipe σ vs).length
      · rw [List.getElem?_set_self hv] at h; cases h
      · rw [List.getElem?_eq_none (by simpa using hv)] at h; cases h
    · rw [List.getElem?_set_ne hi] at h
      obtain ⟨h1, h2⟩ := wipe_some h
      exact ⟨h1, by simp only [List.mem_cons, not_or]; exact ⟨fun e => hi e.symm, h2⟩⟩

noncomputable abbrev Cx.blk (X : Cx) (s : Shared) (H : Hp) (scope : Scope) (cenv : Env) (fp : List Addr) : Cx := { X with s_0 := s, H_0 := H, env := cenv, outer := X.stack, ex := fp, fn := fun x => scope.names.lookup x == some .cell, pn := [], xe := fun _ _ => False }
section
variable {X : Cx} {pins : List (Addr × Obj)} {σ : St} {H : Hp} {s : Shared}
theorem block_start {scope : Scope} {own : List (Str × Nat)} {fp : List Addr} (I : Inv X pins σ H s) (ok : BlkOk X.N X.env.scope scope own) (hN : X.N.Nodup) (hfp : ∀ b ∈ fp, FpOk X pins H b ∧ b < s.heap.objs.size) :
    Inv (X.blk s H scope (compEnvC scope (cellsFrom (s.heap.objs.size + 1) scope.names (cloFrom X.env.cells scope.names [])) s.heap.objs.size X.env) fp) [] (wipe σ (own.map (·.2))) H { s with heap := pushCells (s.heap.push { cls := .type "dict", data := .dict #[] }) scope.names } := by
  have hfree : ∀ y ∈ scope.names, y.2 = .free → ∃ c, X.env.cells.lookup y.1 = some c := fun y hy e => by
    rcases ok.free y hy e with k | k
    · exact I.ok.has _ (.inl k)
    · exact I.ok.has _ (.inr k)
  generalize hcenv : compEnvC scope (cellsFrom (s.heap.objs.size + 1) scope.names (cloFrom X.env.cells scope.names [])) s.heap.objs.size X.env = cenv
  have kp : ∀ b o, s.heap.get? b = some o → (pushCells (s.heap.push { cls := .type "dict", data := .dict #[] }) scope.names).get? b = some o := fun b o e => pushCells_keeps _ _ _ _ (Heap.get?_push_of_some _ e)
  have hL : cenv.locals = s.heap.objs.size := by rw [← hcenv]; rfl
  have hcl : cenv.cells = cellsFrom (s.heap.objs.size + 1) scope.names (cloFrom X.env.cells scope.names []) := by rw [← hcenv]; rfl
  have hsc : cenv.scope = relS scope X.env.scope := by rw [← hcenv]; rfl
  rw [← Heap.size_push s.heap { cls := .type "dict", data := .dict #[] }] at hcl
  have cm : ∀ {y c}, (y, c) ∈ cloFrom X.env.cells scope.names [] → X.env.cells.lookup y = some c ∧ c < s.heap.objs.size := fun {y c} hm => by
    rcases cloFrom_mem hm with hm | ⟨h1, rfl⟩
    · cases hm
    · obtain ⟨c, hc⟩ := hfree _ h1 rfl
      rw [hc]
      obtain ⟨w, z⟩ := I.cell _ _ hc
      exact ⟨rfl, z.lt⟩
  have mem : ∀ {y c}, cenv.cells.lookup y = some c → (X.env.cells.lookup y = some c ∧ c < s.heap.objs.size) ∨ (s.heap.objs.size + 1 ≤ c ∧ CellAt (pushCells (s.heap.push { cls := .type "dict", data := .dict #[] }) scope.names) c none) := fun {y c} e => by
    rw [hcl] at e
    rcases cells_mem (PySem.mem_of_lookup e) with hm | ⟨_, h2, h3⟩
    · exact .inl (cm hm)
    · rw [Heap.size_push] at h2; exact .inr ⟨h2, h3⟩
  have look : ∀ {y}, scope.names.lookup y = some .free → ∃ c, cenv.cells.lookup y = some c ∧ X.env.cells.lookup y = some c := fun {y} hl => by
    have hy : (y, NameKind.free) ∈ scope.names := PySem.mem_of_lookup hl
    obtain ⟨c', e'⟩ := mem_lookup (cells_acc (names := scope.names) (n := (s.heap.push { cls := .type "dict", data := .dict #[] }).objs.size) (cloFrom_has (cells := X.env.cells) (acc := []) hy))
    rw [← hcl] at e'
    refine ⟨c', e', ?_⟩
    rw [hcl] at e'
    rcases cells_mem (PySem.mem_of_lookup e') with hm | ⟨h1, _, _⟩
    · exact (cm hm).1
    · have := ok.uniq _ h1
      rw [hl] at this; cases this
  have okB : (X.blk s H scope cenv fp).Ok := by
    refine ⟨I.ok.mod, by show cenv.scope.kind = _; rw [hsc]; exact ok.kind, by show cenv.globals = _; rw [← hcenv]; exact I.ok.glob, by show cenv.builtins = _; rw [← hcenv]; exact I.ok.blt, by show s.heap.objs.size ≤ cenv.locals; rw [hL]; exact Nat.le_refl _,
      fun y z c e1 e2 => ?_, fun y hy => ?_, fun y c z e => ?_, I.ok.hd, I.ok.frames, .inl rfl, fun b hb => ⟨?_, fun y c e z => ?_⟩, I.bs, Nat.le_trans I.ok.bsz I.sz, fun b o e hb => ?_, fun b hb z => ?_, I.stack, I.stkFree⟩
    · have e1 : cenv.cells.lookup y = some c := e1
      have e2 : cenv.cells.lookup z = some c := e2
      rw [hcl] at e1 e2
      refine cells_inj (fun p hp => ?_) (fun y z c a b => I.ok.inj y z c (cm a).1 (cm b).1) (PySem.mem_of_lookup e1) (PySem.mem_of_lookup e2)
      rw [Heap.size_push]
      exact Nat.lt_succ_of_lt (cm (y := p.1) (c := p.2) hp).2
    · show ∃ c, cenv.cells.lookup y = some c
      have key : ∀ k, cenv.kindOf y = some k → (k = .cell ∨ k = .free) → ∃ c, cenv.cells.lookup y = some c := fun k hk hk' => by
        unfold Env.kindOf at hk
        rw [hsc] at hk
        obtain ⟨k', e, r⟩ := lookup_relS hk
        have : k' = .cell ∨ k' = .free := by
          rcases r with rfl | ⟨rfl, _⟩
          · exact hk'
          · exact .inr rfl
        rcases this with rfl | rfl
        · obtain ⟨c, hm⟩ := cells_has (n := (s.heap.push { cls := .type "dict", data := .dict #[] }).objs.size) (acc := cloFrom X.env.cells scope.names []) (PySem.mem_of_lookup e)
          obtain ⟨c', e'⟩ := mem_lookup hm
          exact ⟨c', by rw [hcl]; exact e'⟩
        · obtain ⟨c, h1, _⟩ := look e
          exact ⟨c, h1⟩
      rcases hy with hy | hy
      · exact key _ hy (.inl rfl)
      · exact key _ hy (.inr rfl)
    · have z : (scope.names.lookup y == some NameKind.cell) = true := z
      have z : scope.names.lookup y = some .cell := by simpa using z
      have e : cenv.cells.lookup y = some c := e
      rw [hcl] at e
      rcases cells_mem (PySem.mem_of_lookup e) with hm | ⟨_, h2, _⟩
      · rcases cloFrom_mem hm with hm | ⟨h1, _⟩
        · cases hm
        · have q := ok.uniq _ h1
          rw [z] at q; cases q
      · rw [Heap.size_push] at h2
        exact Nat.le_of_succ_le h2
    · show b ≠ cenv.locals
      rw [hL]; exact Nat.ne_of_lt (hfp b hb).2
    · have e : cenv.cells.lookup y = some c := e
      rcases mem e with ⟨h1, _⟩ | ⟨h1, _⟩
      · exact (hfp b hb).1.2.2.2.2.1 y c h1 z
      · have h2 : s.heap.objs.size + 1 ≤ b := by rw [← z]; exact h1
        exact absurd (Nat.lt_of_lt_of_le (hfp b hb).2 (Nat.le_of_succ_le h2)) (Nat.lt_irrefl _)
    · rcases (hfp b hb).1.2.2.2.1 with z | z
      · exact I.ok.noex b o e z
      · exact absurd (Nat.lt_of_lt_of_le (Heap.lt_size e) (Nat.le_trans I.ok.bsz z)) (Nat.lt_irrefl _)
    · rcases List.mem_cons.mp (I.stkSub b z) with z | z
      · exact (hfp b hb).1.2.1 z
      · exact (hfp b hb).1.2.2.1 z
  refine ⟨okB, rfl, I.bare, Un.kept kp, ⟨fun _ => none, ?_, fun i y av e1 e2 e3 => ?_⟩, fun y c e => ?_, ?_, fun y c e => ?_, fun p hp => ?_, I.hok.kept kp, by rw [wipe_length]; exact I.len⟩
  · show Heap.Ns _ cenv.locals _
    rw [hL]
    exact Heap.Ns.keeps (Heap.Ns.new ..) fun b o e => pushCells_keeps _ _ _ _ e
  · obtain ⟨e2, hne⟩ := wipe_some e2
    have hfr : scope.names.lookup y = some .free ∧ (cenv.kindOf y = some .cell ∨ cenv.kindOf y = some .free) := by
      have key : ∀ k, cenv.scope.names.lookup y = some k → k = .local ∨ k = .cell ∨ k = .free → scope.names.lookup y = some .free ∧ (cenv.kindOf y = some .cell ∨ cenv.kindOf y = some .free) := fun k hk hk' => by
        have hk0 := hk
        rw [hsc] at hk
        obtain ⟨k', e, r⟩ := lookup_relS hk
        have no : ¬ (k' = .local ∨ k' = .cell) := fun hh => by
          rcases ok.own _ (PySem.mem_of_lookup e) hh with e' | e'
          · obtain ⟨p, hp, hpy⟩ := List.mem_map.mp e'
            have e3 := ok.ix p hp
            have : p.1 = y := hpy
            rw [this] at e3
            exact hne (List.mem_map.mpr ⟨p, hp, nodup_ix hN e3 e1⟩)
          · exact e' (List.mem_of_getElem? e1)
        rcases r with rfl | ⟨rfl, rfl⟩
        · rcases hk' with rfl | rfl | rfl
          · exact absurd (.inl rfl) no
          · exact absurd (.inr rfl) no
          · exact ⟨e, .inr hk0⟩
        · exact ⟨e, .inl hk0⟩
      have e3 : Vis cenv.scope y := e3
      rcases e3 with e3 | e3 | e3
      · exact key _ e3 (.inl rfl)
      · exact key _ e3 (.inr (.inl rfl))
      · exact key _ e3 (.inr (.inr rfl))
    obtain ⟨m, hn, hl⟩ := I.loc
    have hvis : Vis X.env.scope y := (ok.free _ (PySem.mem_of_lookup hfr.1) rfl).elim (fun k => .inr (.inl k)) (fun k => .inr (.inr k))
    obtain ⟨w, r, q⟩ := hl i y av e1 e2 hvis
    refine ⟨w, r, .inr ⟨hfr.2, ?_⟩⟩
    obtain ⟨c, h1, h2⟩ := look hfr.1
    rcases q with ⟨k, _⟩ | ⟨_, c', e', z⟩
    · have k : X.env.scope.names.lookup y = some .local := k
      rcases ok.free _ (PySem.mem_of_lookup hfr.1) rfl with k' | k' <;> rw [show X.env.scope.names.lookup y = _ from k'] at k <;> cases k
    · rw [h2] at e'; cases e'
      exact ⟨c, h1, z.keeps kp⟩
  · have e : cenv.cells.lookup y = some c := e
    rcases mem e with ⟨h1, _⟩ | ⟨_, z⟩
    · obtain ⟨w, z⟩ := I.cell y c h1
      exact ⟨w, z.keeps kp⟩
    · exact ⟨_, z⟩
  · show H cenv.locals = none
    rw [hL]; exact I.hok.fresh (Nat.le_refl _)
  · have e : cenv.cells.lookup y = some c := e
    rcases mem e with ⟨h1, _⟩ | ⟨h1, _⟩
    · exact I.freeC y c h1
    · exact I.hok.fresh (Nat.le_of_succ_le h1)
  · exact absurd (show p ∈ ([] : List (Addr × Obj)) ++ [] from hp) (by simp)

theorem app_ok {E : Value → Shared → Prop} {D : Addr} {xs : List V} {y : V} {v : Value} {Q : Value → Shared → Prop} (I : Inv X pins σ H s) (hD : H D = some (.lst xs)) (hz : xs.length < sizeLine) (r : RelV y v)
    (h : ∀ s', Inv X pins σ (upd H D (.lst (xs ++ [y]))) s' → Q .none s') : wpAny (model X.prog X.w) X.A (call (.builtin "list.append") [.ref D, v]) Q E s := by
  obtain ⟨hz', its, n, ri, e⟩ := I.hok D _ hD
  have hl := ri.length
  refine append_at (hsz := by rw [List.size_toArray]; omega) e fun h' sb ho' => ?_
  refine h { s with heap := h' } (I.write (t' := s.toks) (by rw [hD]; trivial) (.inl rfl) (fun b u hb q => (sb.2 b hb).trans q) ⟨_, ho'⟩ ⟨by rw [List.length_append]; exact hz, its ++ [v], n + 1, ri.append (.cons r .nil), ?_⟩)
  rw [ho']
  simp

noncomputable def PTs (X : Cx) (ifs : List Expr) (t : TT) : Prop :=
  ∀ (pins : List (Addr × Obj)) (s : Shared) (σ : St) (H : Hp) (Q : Bool → Hp → Prop), Inv X pins σ H s → t σ H Q →
    wpAny (model X.prog X.w) X.A (forIn ifs true fun c r => if r = true then do let ok ← isTrue c X.env (eval c X.env); pure (ForInStep.yield ok) else pure (ForInStep.yield r)) (TP X pins σ Q) X.xe s
noncomputable def tYes : TT := fun _ H Q => Q true H
theorem pts_nil : PTs X [] tYes := fun _ _ _ H _ I h => wpAny_tests_nil ⟨H, I, h⟩
theorem pts_one {c : Expr} {t : TT} (h : PT X c t) : PTs X [c] t := fun pins s σ H Q I hw => wpAny_tests_one (h pins s σ H Q I hw)
end

theorem thnF {α : Type} {t : Sem α} {Q Q' : α → Shared → Prop} {M : Model} {A : Around} {E : Value → Shared → Prop} {s : Shared} (h : wpAny M A t Q (fun _ _ => False) s) (hQ : ∀ a s, Q a s → Q' a s) : wpAny M A t Q' E s := wpAny_mono h hQ fun _ _ z => False.elim z

theorem compLoop_any {prog : Program} {w : World} {A : Around} {R : Result → Shared → Prop} {s : Shared} {elt target iter : Expr} {ifs : List Expr} {scope : Scope} {pos : Pos} {it acc : Value} {env : Env} (I : Nat → Shared → Prop)
    (turn : ∀ n s, I n s → wpAny (model prog w) A (pyNext it) (fun r s₁ => match r with
      | none => R (.ok .next) s₁
      | some v => wpAny (model prog w) A (letOwnedTupleGo target it v) (fun _ s₁' => wpAny (model prog w) A (assign target env v) (fun _ s₂ =>
          wpAny (model prog w) A (forIn ifs true fun c r => if r = true then do let ok ← isTrue c env (eval c env); pure (ForInStep.yield ok) else pure (ForInStep.yield r)) (fun ok s₃ =>
            if ok = true then wpAny (model prog w) A (eval elt env) (fun x s₄ =>
              wpAny (model prog w) A (call (.builtin "list.append") [acc, x]) (fun _ s₅ => ∃ m, m < n ∧ I m s₅) (notedBy (model prog w) A env fun e s' => R (.error e) s') s₄) (notedBy (model prog w) A env fun e s' => R (.error e) s') s₃
            else ∃ m, m < n ∧ I m s₃) (notedBy (model prog w) A env fun e s' => R (.error e) s') s₂) (notedBy (model prog w) A env fun e s' => R (.error e) s') s₁') (notedBy (model prog w) A env fun e s' => R (.error e) s') s₁) (notedBy (model prog w) A env fun e s' => R (.error e) s') s)
    (n : Nat) (h : I n s) :
    codeAny (model prog w) A (.compLoop (.ListComp elt [⟨target, iter, ifs, 0⟩] scope pos) 0 it acc env) R s := by
  refine codeAny_loop rfl I (fun n s hI => ?_) n h
  show wpAny _ A ((compTurn (.ListComp elt [⟨target, iter, ifs, 0⟩] scope pos) 0 it acc env).onRaise (fun x => do noteFrame x env; theTreesLotGoes x)) _ _ s
  refine wpAny_noted ?_
  rw [compTurn_list]
  refine wpAny_bind (wpAny_standAt (wpAny_bind (wpAny_mono (turn n s hI) (fun r s₁ h₁ => ?_) fun _ _ h' => h')))
  cases r with
  | none => exact wpAny_pure h₁
  | some v =>
    refine wpAny_bind (wpAny_mono h₁ (fun _ s₁' h₁' => ?_) fun _ _ h' => h')
    refine wpAny_bind (wpAny_mono h₁' (fun _ s₂ h₂ => wpAny_bind (wpAny_mono h₂ (fun ok s₃ h₃ => ?_) fun _ _ h' => h')) fun _ _ h' => h')
    cases ok with
    | false => exact wpAny_pure ⟨rfl, h₃⟩
    | true =>
      exact wpAny_bind (wpAny_bind (wpAny_mono h₃ (fun x s₄ h₄ => wpAny_bind (wpAny_mono h₄ (fun _ s₅ h₅ => wpAny_pure (wpAny_pure ⟨rfl, h₅⟩)) fun _ _ h' => h')) fun _ _ h' => h'))

section
variable {X : Cx}
noncomputable def tLc (wi : TI) (g : TG) (tt : TT) (te : TE) (vs : List Nat) : TE := fun σ H Q => wi σ H fun J H1 => ∀ D, H1 D = none → ∃ W : Nat → Nat → Hp → Prop, (∃ m, W 0 m (upd H1 D (.lst []))) ∧ ∀ i m H, W i m H →
  (J.stop i H ∧ Q (.ref D) H) ∨ (J.go i H ∧ ∃ Nx : Hp → Prop, (∀ H', Nx H' → ∃ m', m' < m ∧ W (i + 1) m' H') ∧ ∀ x H', J.yld i H x H' → g x (wipe σ vs) H' fun σ2 H2 => wipe σ2 vs = wipe σ vs ∧ tt σ2 H2 fun b H3 =>
    if b = true then te σ2 H3 fun y H4 => ∃ acc, H4 D = some (.lst acc) ∧ acc.length < sizeLine ∧ Nx (upd H4 D (.lst (acc ++ [y]))) else Nx H3)
theorem lc_core {pins : List (Addr × Obj)} {s : Shared} {σ : St} {H : Hp} {Q : VK} {elt tg iter : Expr} {ifs : List Expr} {scope : Scope} {own : List (Str × Nat)} {pos pos' : Pos} {wi : TI} {g : TG} {tt : TT} {te : TE} {use : Option (Value → Sem Unit)} {Qf : Value → Shared → Prop}
    (hc : X.calm = true) (hN : X.N.Nodup) (I : Inv X pins σ H s) (hi : PI X tg iter wi) (ok : BlkOk X.N X.env.scope scope own)
    (hg : ∀ (s : Shared) (H : Hp) (C : Addr) (cl : List (Str × Addr)) (fp : List Addr), PG (X.blk s H scope (compEnvC scope cl C X.env) fp) tg g) (ht : ∀ (s : Shared) (H : Hp) (C : Addr) (cl : List (Str × Addr)) (fp : List Addr), PTs (X.blk s H scope (compEnvC scope cl C X.env) fp) ifs tt)
    (he : ∀ (s : Shared) (H : Hp) (C : Addr) (cl : List (Str × Addr)) (fp : List Addr), PE (X.blk s H scope (compEnvC scope cl C X.env) fp) elt te) (hs : ∀ x, foldedSetIterable iter X.env x = pure x)
    (h : tLc wi g tt te (own.map (·.2)) σ H Q)
    (hRR : ∀ D C s' m H', Inv X pins σ H' s' → Q (.ref D) H' → s'.heap.Ns C m → FpOk X pins H' C → compPost (model X.prog X.w) X.A X.xe use Qf (.ref D) C (.ok .next) s') :
    wpAny (model X.prog X.w) X.A (comprehension (.ListComp elt [⟨tg, iter, ifs, 0⟩] scope pos) scope X.env pos' (newList []) false (eval iter X.env) use) Qf X.xe s := by
  have hfree : ∀ y ∈ scope.names, y.2 = .free → ∃ c, X.env.cells.lookup y.1 = some c := fun y hy e => by
    rcases ok.free y hy e with k | k
    · exact I.ok.has _ (.inl k)
    · exact I.ok.has _ (.inr k)
  refine wpAny_comprehension_free (use := use) rfl hs (closure_ok hfree) ok.kind (fun y hy e => by rw [ok.uniq y hy, e])
    (thn (hi pins s σ H _ I h) fun xv s1 hx => thn hx fun itv s2 h2 => ?_)
  obtain ⟨it, fp, tn, J, H2, e, I2, T, st2, f2, q⟩ := h2
  subst e
  refine wpAny_newObj_type (newEnv_comp ?_) (by show 0 ≤ sizeLine; decide)
  generalize hD : s2.heap.objs.size = D
  have hDn : H2 D = none := I2.hok.fresh (Nat.le_of_eq hD)
  obtain ⟨W, ⟨m0, w0⟩, turn⟩ := q D hDn
  -- the new list
  generalize hs3 : ({ s2 with heap := s2.heap.push { cls := .type "list", data := .seq ([] : List Value).toArray } } : Shared) = s3
  have I3 : Inv X pins σ (upd H2 D (.lst [])) s3 := by
    rw [← hs3]
    refine I2.laid (t' := s2.toks) (fun b o e => Heap.get?_push_of_some _ e) (Nat.le_of_eq hD) ⟨Nat.zero_le _, [], 0, .nil, ?_⟩
    rw [← hD]
    exact Heap.get?_push_size _ rfl
  have h3 : s3.heap = s2.heap.push { cls := .type "list", data := .seq ([] : List Value).toArray } := by rw [← hs3]
  have sz : ∀ b ∈ fp, b < s2.heap.objs.size := fun b hb => by
    obtain ⟨o, e, _⟩ := T.obj _ _ st2 b hb
    exact Heap.lt_size e
  have f3 : ∀ b ∈ fp, FpOk X pins (upd H2 D (.lst [])) b ∧ b < s3.heap.objs.size := fun b hb => by
    have hlt := sz b hb
    refine ⟨⟨?_, (f2 b hb).2⟩, by rw [h3, Heap.size_push]; exact Nat.lt_succ_of_lt hlt⟩
    rw [upd_ne (by rw [← hD]; exact Nat.ne_of_lt hlt)]
    exact (f2 b hb).1
  have st3 : tn 0 s3.heap := T.keep _ _ _ st2 fun b _ o e => by rw [h3]; exact Heap.get?_push_of_some _ e
  have I4 := block_start I3 ok hN f3
  have pg := hg s3 (upd H2 D (.lst [])) s3.heap.objs.size (cellsFrom (s3.heap.objs.size + 1) scope.names (cloFrom X.env.cells scope.names [])) fp
  have pt := ht s3 (upd H2 D (.lst [])) s3.heap.objs.size (cellsFrom (s3.heap.objs.size + 1) scope.names (cloFrom X.env.cells scope.names [])) fp
  have pe := he s3 (upd H2 D (.lst [])) s3.heap.objs.size (cellsFrom (s3.heap.objs.size + 1) scope.names (cloFrom X.env.cells scope.names [])) fp
  show codeAny _ _ (.compStart (.ListComp elt [⟨tg, iter, ifs, 0⟩] scope pos) 0 (.ref it) (.ref D) (compEnvC scope (cellsFrom (s3.heap.objs.size + 1) scope.names (cloFrom X.env.cells scope.names [])) s3.heap.objs.size X.env)) (compPost (model X.prog X.w) X.A X.xe use Qf (.ref D) s3.heap.objs.size) { s3 with heap := pushCells (s3.heap.push { cls := .type "dict", data := .dict #[] }) scope.names }
  have nfp : ∀ b ∈ fp, (upd H2 D (.lst [])) b = none := fun b hb => (f3 b hb).1.1
  generalize hce : compEnvC scope (cellsFrom (s3.heap.objs.size + 1) scope.names (cloFrom X.env.cells scope.names [])) s3.heap.objs.size X.env = ce at I4 pg pt pe ⊢
  have cL : ce.locals = s3.heap.objs.size := by subst hce; rfl
  generalize hH3 : upd H2 D (.lst []) = H3 at I3 I4 pg pt pe w0 nfp f3
  generalize hs4 : ({ s3 with heap := pushCells (s3.heap.push { cls := .type "dict", data := .dict #[] }) scope.names } : Shared) = s4 at I4 ⊢
  have st4 : tn 0 s4.heap := T.keep _ _ _ st3 fun b _ o e => by rw [← hs4]; exact pushCells_keeps _ _ _ _ (Heap.get?_push_of_some _ e)
  have stat : ∀ {σ' : St} {H' : Hp} {s' : Shared}, Inv (X.blk s3 H3 scope ce fp) [] σ' H' s' → (∀ b ∈ fp, H' b = none) → ∀ b ∈ fp, FpOk (X.blk s3 H3 scope ce fp) [] H' b := fun {σ' H' s'} I' hn b hb =>
    ⟨hn b hb, (I'.ok.exf b hb).1, I'.ok.exfs b hb, .inl hb, fun x c e => (I'.ok.exf b hb).2 x c e, fun p hp => absurd (show p ∈ ([] : List (Addr × Obj)) ++ [] from hp) (by simp)⟩
  have loop : codeAny (model X.prog X.w) X.A (.compLoop (.ListComp elt [⟨tg, iter, ifs, 0⟩] scope pos) 0 (.ref it) (.ref D) ce) (compPost (model X.prog X.w) X.A X.xe use Qf (.ref D) s3.heap.objs.size) s4 := by
    refine compLoop_any (fun n s' => ∃ i H', Inv (X.blk s3 H3 scope ce fp) [] (wipe σ (own.map (·.2))) H' s' ∧ tn i s'.heap ∧ (∀ b ∈ fp, H' b = none) ∧ W i n H') ?_ m0 ⟨0, H3, I4, st4, nfp, w0⟩
    rintro n s5 ⟨i, H5, I5, st5, n5, w5⟩
    rcases turn i n H5 w5 with ⟨stop, qq⟩ | ⟨go, Nx, hNx, step⟩
    · have td := T.done (X.blk s3 H3 scope ce fp) rfl rfl rfl hc i [] s5 _ H5 (fun _ _ => False) I5 (stat I5 n5) st5 stop
      refine thnF td fun r s6 ⟨hr, I6⟩ => ?_
      subst hr
      -- back in the def's context
      have I7 : Inv X pins σ H5 s6 := I3.call' (ch := fp) I6.os I6.base I6.hok I6.bare fun b hb => ⟨(f3 b hb).1.2.2.2.1, (f3 b hb).1.2.1, (f3 b hb).1.2.2.2.2.1, (f3 b hb).1.2.2.2.2.2⟩
      have nC : H5 s3.heap.objs.size = none := by
        have z : H5 ce.locals = none := I6.free
        rw [cL] at z
        exact z
      obtain ⟨m, hn, _⟩ := I6.loc
      have hn : s6.heap.Ns ce.locals m := hn
      rw [cL] at hn
      exact hRR D s3.heap.objs.size s6 m H5 I7 qq hn (I3.fpOk (Nat.le_refl _) nC)
    · have ti := T.item (X.blk s3 H3 scope ce fp) rfl rfl rfl hc i [] s5 _ H5 (fun _ _ => False) I5 (stat I5 n5) st5 go
      refine thnF ti fun r s6 ⟨u, hr, h6⟩ => ?_
      subst hr
      refine thnF h6 fun _ s7 ⟨x, H7, I7, r7, y7, st7, n7⟩ => ?_
      have I7' := I7.pinned (stat I7 n7) (T.obj _ _ st7)
      refine thnF (pg _ s7 _ H7 x u _ I7' r7 (step x H7 y7)) fun _ s8 ⟨σ8, H8, I8, hw8, q8⟩ => ?_
      refine thnF (pt _ s8 σ8 H8 _ I8 q8) fun b s9 ⟨H9, I9, q9⟩ => ?_
      -- the turn's end
      have fin : ∀ {s' : Shared} {H' : Hp}, Inv (X.blk s3 H3 scope ce fp) ([] ++ pinsAt fp s7.heap) σ8 H' s' → Nx H' → ∃ m, m < n ∧ ∃ i H', Inv (X.blk s3 H3 scope ce fp) [] (wipe σ (own.map (·.2))) H' s' ∧ tn i s'.heap ∧ (∀ b ∈ fp, H' b = none) ∧ W i m H' := fun {s' H'} I' nx => by
        obtain ⟨m', hm, w'⟩ := hNx H' nx
        have pin' : ∀ b ∈ fp, ∀ o, s7.heap.get? b = some o → s'.heap.get? b = some o ∧ H' b = none := fun b hb o e =>
          let z := I'.pin (b, o) (List.mem_append_right _ (List.mem_append_right _ (mem_pinsAt hb e)))
          ⟨z.1, z.2.1⟩
        have hl : (wipe σ (own.map (·.2))).length = σ8.length := by rw [← hw8, wipe_length]
        refine ⟨m', hm, i + 1, H', (I'.unpinned (pins := [])).weak hl (fun j v e => ?_), T.keep _ _ _ st7 fun b hb o e => (pin' b hb o e).1, fun b hb => ?_, w'⟩
        · rw [← hw8] at e
          exact (wipe_some e).1
        · obtain ⟨o, e, _⟩ := T.obj _ _ st7 b hb
          exact (pin' b hb o e).2
      cases b with
      | false =>
        simp only [Bool.false_eq_true, if_false] at q9 ⊢
        exact fin I9 q9
      | true =>
        simp only [if_true] at q9 ⊢
        refine thnF (pe _ s9 σ8 H9 _ I9 q9) fun z s10 ⟨yv, H10, I10, r10, acc, hD10, hz10, nx⟩ => ?_
        exact app_ok (X := X.blk s3 H3 scope ce fp) I10 hD10 hz10 r10 fun s11 I11 => fin I11 nx
  exact codeAny_compStart_list loop (T.self X.A 0 _ _ _ st4 loop)
theorem pe_lc {elt tg iter : Expr} {ifs : List Expr} {scope : Scope} {own : List (Str × Nat)} {pos : Pos} {wi : TI} {g : TG} {tt : TT} {te : TE} (hc : X.calm = true) (hN : X.N.Nodup) (hi : PI X tg iter wi) (ok : BlkOk X.N X.env.scope scope own)
    (hg : ∀ (s : Shared) (H : Hp) (C : Addr) (cl : List (Str × Addr)) (fp : List Addr), PG (X.blk s H scope (compEnvC scope cl C X.env) fp) tg g) (ht : ∀ (s : Shared) (H : Hp) (C : Addr) (cl : List (Str × Addr)) (fp : List Addr), PTs (X.blk s H scope (compEnvC scope cl C X.env) fp) ifs tt)
    (he : ∀ (s : Shared) (H : Hp) (C : Addr) (cl : List (Str × Addr)) (fp : List Addr), PE (X.blk s H scope (compEnvC scope cl C X.env) fp) elt te) (hs : ∀ x, foldedSetIterable iter X.env x = pure x := by intro _; rfl) :
    PE X (.ListComp elt [⟨tg, iter, ifs, 0⟩] scope pos) (tLc wi g tt te (own.map (·.2))) := by
  intro pins s σ H Q I h
  rw [eval_ListComp]
  refine lc_core hc hN I hi ok hg ht he hs h fun D C s' m H' I' q hn f => ⟨m, hn, fun h'' sb => ?_⟩
  obtain ⟨f0, f1, f2, f3, f4, f5⟩ := f
  exact ⟨.ref D, H', I'.turned (t' := s'.toks) (fun b o hb e => (sb.2 b hb).trans e) f0 f1 f3 f4 f5, rfl, q⟩
end

theorem lc_list {K : PySem.W.Frag} {a : Addr} {xs : List V} {g : TG} {tt : TT} {te : TE} {vs : List Nat} {σ : St} {H1 : Hp} {D : Addr} {Qd : Hp → Prop} (Pv : Nat → Hp → Prop) (h0 : Pv 0 (upd H1 D (.lst []))) (hl : ∀ i H, i ≤ xs.length → Pv i H → SqL K H a xs)
    (hs : ∀ i x H, xs[i]? = some x → Pv i H → g x (wipe σ vs) H fun σ2 H2 => wipe σ2 vs = wipe σ vs ∧ tt σ2 H2 fun b H3 =>
      if b = true then te σ2 H3 fun y H4 => ∃ acc, H4 D = some (.lst acc) ∧ acc.length < sizeLine ∧ Pv (i + 1) (upd H4 D (.lst (acc ++ [y]))) else Pv (i + 1) H3) (hd : ∀ H, Pv xs.length H → Qd H) :
    ∃ W : Nat → Nat → Hp → Prop, (∃ m, W 0 m (upd H1 D (.lst []))) ∧ ∀ i m H, W i m H →
      ((Itl K a).stop i H ∧ Qd H) ∨ ((Itl K a).go i H ∧ ∃ Nx : Hp → Prop, (∀ H', Nx H' → ∃ m', m' < m ∧ W (i + 1) m' H') ∧ ∀ x H', (Itl K a).yld i H x H' → g x (wipe σ vs) H' fun σ2 H2 => wipe σ2 vs = wipe σ vs ∧ tt σ2 H2 fun b H3 =>
        if b = true then te σ2 H3 fun y H4 => ∃ acc, H4 D = some (.lst acc) ∧ acc.length < sizeLine ∧ Nx (upd H4 D (.lst (acc ++ [y]))) else Nx H3) := by
  refine ⟨fun i m H => m = xs.length - i ∧ i ≤ xs.length ∧ Pv i H, ⟨xs.length, by simp, Nat.zero_le _, h0⟩, ?_⟩
  rintro i m H ⟨rfl, hi, p⟩
  have q := hl i H hi p
  by_cases hlt : i < xs.length
  · refine .inr ⟨⟨xs, xs[i], q, by simp [hlt]⟩, Pv (i + 1), fun H' p' => ⟨xs.length - (i + 1), by omega, rfl, hlt, p'⟩, fun x H' y => ?_⟩
    obtain ⟨e, y⟩ := y
    subst e
    exact hs i x _ (y xs q) p
  · have e : i = xs.length := by omega
    subst e
    exact .inl ⟨⟨xs, q, Nat.le_refl _⟩, hd H p⟩
theorem lc_tup {K : PySem.W.Frag} {a : Addr} {xs : List V} {g : TG} {tt : TT} {te : TE} {vs : List Nat} {σ : St} {H1 : Hp} {D : Addr} {Qd : Hp → Prop} (Pv : Nat → Hp → Prop) (h0 : Pv 0 (upd H1 D (.lst []))) (hl : ∀ i H, i ≤ xs.length → Pv i H → SqT K H a xs)
    (hs : ∀ i x H, xs[i]? = some x → Pv i H → g x (wipe σ vs) H fun σ2 H2 => wipe σ2 vs = wipe σ vs ∧ tt σ2 H2 fun b H3 =>
      if b = true then te σ2 H3 fun y H4 => ∃ acc, H4 D = some (.lst acc) ∧ acc.length < sizeLine ∧ Pv (i + 1) (upd H4 D (.lst (acc ++ [y]))) else Pv (i + 1) H3) (hd : ∀ H, Pv xs.length H → Qd H) :
    ∃ W : Nat → Nat → Hp → Prop, (∃ m, W 0 m (upd H1 D (.lst []))) ∧ ∀ i m H, W i m H →
      ((Itt K a).stop i H ∧ Qd H) ∨ ((Itt K a).go i H ∧ ∃ Nx : Hp → Prop, (∀ H', Nx H' → ∃ m', m' < m ∧ W (i + 1) m' H') ∧ ∀ x H', (Itt K a).yld i H x H' → g x (wipe σ vs) H' fun σ2 H2 => wipe σ2 vs = wipe σ vs ∧ tt σ2 H2 fun b H3 =>
        if b = true then te σ2 H3 fun y H4 => ∃ acc, H4 D = some (.lst acc) ∧ acc.length < sizeLine ∧ Nx (upd H4 D (.lst (acc ++ [y]))) else Nx H3) := by
  refine ⟨fun i m H => m = xs.length - i ∧ i ≤ xs.length ∧ Pv i H, ⟨xs.length, by simp, Nat.zero_le _, h0⟩, ?_⟩
  rintro i m H ⟨rfl, hi, p⟩
  have q := hl i H hi p
  by_cases hlt : i < xs.length
  · refine .inr ⟨⟨xs, xs[i], q, by simp [hlt]⟩, Pv (i + 1), fun H' p' => ⟨xs.length - (i + 1), by omega, rfl, hlt, p'⟩, fun x H' y => ?_⟩
    obtain ⟨e, y⟩ := y
    subst e
    exact hs i x _ (y xs q) p
  · have e : i = xs.length := by omega
    subst e
    exact .inl ⟨⟨xs, q, Nat.le_refl _⟩, hd H p⟩
noncomputable def blkC (N : List Str) (sc scope : Scope) (own : List (Str × Nat)) : Bool :=
  (match scope.kind with | .function => true | _ => false) && (scope.names.all fun y => decide (scope.names.lookup y.1 = some y.2)) && (own.all fun p => decide (N[p.2]? = some p.1)) &&
    (scope.names.all fun y => match y.2 with
      | .free => (match sc.names.lookup y.1 with | some .cell => true | some .free => true | _ => false)
      | .local => decide (y.1 ∈ own.map (·.1)) || decide (y.1 ∉ N)
      | .cell => decide (y.1 ∈ own.map (·.1)) || decide (y.1 ∉ N)
      | _ => true)
theorem blkOk_by {N : List Str} {sc scope : Scope} {own : List (Str × Nat)} (h : blkC N sc scope own = true) : BlkOk N sc scope own := by
  unfold blkC at h
  simp only [Bool.and_eq_true, List.all_eq_true, decide_eq_true_eq] at h
  obtain ⟨⟨⟨h1, h2⟩, h3⟩, h4⟩ := h
  refine ⟨?_, h2, h3, fun y hy e => ?_, fun y hy e => ?_⟩
  · split at h1
    · assumption
    · cases h1
  · have q := h4 y hy
    simp only [e] at q
    split at q <;> first | exact .inl (by assumption) | exact .inr (by assumption) | cases q
  · have q := h4 y hy
    rcases e with e | e <;> (simp only [e, Bool.or_eq_true, decide_eq_true_eq] at q; exact q)
end L2

namespace L2
open PySem PySem.Spec PyProof.Rows

section
variable {prog : Program} {w : World} {A : Around} {R : Result → Shared → Prop} {s : Shared} {elt t0 i0 t1 i1 : Expr} {ifs0 ifs1 : List Expr} {scope : Scope} {pos : Pos} {it acc : Value} {env : Env}
end

section
variable {X : Cx}
end
end L2

namespace L2
open PySem PySem.Spec PyProof.Rows

section
variable {κ : Type} [DecidableEq κ]
end


section
variable {P : Program} {w : World} {H : Hp} {h : Heap} {a : Addr}
end

section
variable {X : Cx} {pins : List (Addr × Obj)} {σ : St} {H : Hp} {s : Shared} {a : Addr} {y v : V} {u r : Value} {o : Option V} {A : Around} {E : Value → Shared → Prop}

end

section
variable {X : Cx} {pins : List (Addr × Obj)} {σ : St} {H : Hp} {s : Shared} {a : Addr} {kvs : List (Key × V)} {k : Key} {u : Value} {A : Around} {E : Value → Shared → Prop}
end


section
variable {X : Cx} {o i e value : Expr} {pos pos' tpos : Pos} {td ty tv : TE}
end


section
variable {X : Cx} {pos : Pos}
end

structure M1 (X : Cx) (o : Expr) (m : Str) (apos : Pos) (e : Expr) (cpos : Pos) : Prop where
  base : attributeBase o m X.env (eval o X.env) = eval o X.env
  few : ((backTo cpos (starEach [e] X.env)).all (fun x => !x.1) && (backToKw cpos (keywordEach [] X.env)).all (fun x => x.1.isSome)
    && decide (([e] : List Expr).length + ([] : List Keyword).length + (if ([] : List Keyword).isEmpty then 0 else 1) < 30)) = true
  line : (apos.endLine == cpos.line) = true
  trees : backTo cpos (starEach [e] X.env) = [(false, eval e X.env)]
structure M2 (X : Cx) (o : Expr) (m : Str) (apos : Pos) (e f : Expr) (cpos : Pos) : Prop where
  base : attributeBase o m X.env (eval o X.env) = eval o X.env
  few : ((backTo cpos (starEach [e, f] X.env)).all (fun x => !x.1) && (backToKw cpos (keywordEach [] X.env)).all (fun x => x.1.isSome)
    && decide (([e, f] : List Expr).length + ([] : List Keyword).length + (if ([] : List Keyword).isEmpty then 0 else 1) < 30)) = true
  line : (apos.endLine == cpos.line) = true
  trees : backTo cpos (starEach [e, f] X.env) = [(false, eval e X.env), (false, eval f X.env)]

section
variable {X : Cx} {pins : List (Addr × Obj)} {σ : St} {H : Hp} {s : Shared} {a : Addr} {y d : V} {u r : Value} {o : Option V} {A : Around} {E : Value → Shared → Prop}
end

section
variable {X : Cx} {o e f : Expr} {apos cpos : Pos} {td ty tx : TE}
end

section
variable {X : Cx} {pins : List (Addr × Obj)} {σ : St} {H : Hp} {s : Shared} {a : Addr} {kvs : List (Key × V)} {A : Around} {E : Value → Shared → Prop}
end


section
variable {X : Cx} {pins : List (Addr × Obj)} {σ : St} {H : Hp} {s : Shared} {a : Addr} {y : V} {u : Value} {A : Around} {E : Value → Shared → Prop}
end
end L2

namespace L2
open PySem PySem.Spec PyProof.Rows

section
variable {prog : Program} {w : World} {A : Around} {E : Value → Shared → Prop}
end

section
variable {X : Cx}
end
end L2

namespace L2
open PySem PySem.Spec PyProof.Rows

section
variable {X : Cx} {pins : List (Addr × Obj)} {σ : St} {H : Hp} {s : Shared} {h' : Heap}
end
noncomputable def tLock (t : TS) : TS := fun D σ H => ∃ d u, H d = some u ∧ Mut (some u) ∧ ∀ od, t ⟨fun σ' H' => H' d = some (.frz od u) ∧ D.nx σ' (upd H' d u), fun v H' => H' d = some (.frz od u) ∧ D.rt v (upd H' d u), fun σ' H' => H' d = some (.frz od u) ∧ D.bk σ' (upd H' d u), fun σ' H' => H' d = some (.frz od u) ∧ D.ct σ' (upd H' d u)⟩ σ (upd H d (.frz od u))
section
variable {X : Cx}
theorem pi_one {tg : Expr} {pins : List (Addr × Obj)} {σ : St} {H : Hp} {s : Shared} {R : It → Hp → Prop} {J : It} {tn : Nat → Heap → Prop} {tk : Nat} (I : Inv X pins σ H s) (o : Obj)
    (T : Turn X.prog X.w X.K tg J [s.heap.objs.size] s.heap.objs.size tn) (st : tn 0 (s.heap.push o)) (q : R J H) : PIE X pins σ tg R (.ref s.heap.objs.size) { s with heap := s.heap.push o, toks := tk } := by
  refine ⟨s.heap.objs.size, [s.heap.objs.size], tn, J, H, rfl, I.kept fun b ob e => Heap.get?_push_of_some _ e, T, st, fun b hb => ?_, q⟩
  have e : b = s.heap.objs.size := by simpa using hb
  subst e
  exact I.fpOk (Nat.le_refl _) (I.hok.fresh (Nat.le_refl _))
end

section
variable {X : Cx} {tg : Expr}
end
section
variable {X : Cx} {tg : Expr}
end

noncomputable def Its (x : Str) : It := ⟨fun i _ => i < x.cps.size, fun i H v H' => H' = H ∧ ∃ c, x.cps[i]? = some c ∧ v = .str ⟨#[c]⟩, fun i _ => x.cps.size ≤ i⟩
theorem turn_str {P : Program} {w : World} {K : PySem.W.Frag} {tg : Expr} (it : Addr) (x : Str) (t : Tok) (ty : String) (hty : ty = "str_ascii_iterator" ∨ ty = "str_iterator") :
    Turn P w K tg (Its x) [it] it (fun i h => h.IsStrIter it ty x t i) where
  mem := by simp
  obj := fun i h st b hb => by
    have e : b = it := by simpa using hb
    subst e
    obtain ⟨o, e, c, d⟩ := st
    exact ⟨o, e, fun v z => by rw [d] at z; cases z⟩
  keep := fun i h h' st k => let ⟨o, ho, r⟩ := st; ⟨o, k it (by simp) o ho, r⟩
  item := by
    intro X hP hw hK hc i pins s σ H E I hf st hg
    subst hP hw hK
    obtain ⟨f0, f1, f2, f3, f4, f5⟩ := hf it (by simp)
    have W : Walks X.prog X.w X.A it [it] [it] x.cps.size (SignAt x) (fun i h => h.IsStrIter it ty x t i) := by
      rcases hty with e | e
      · rw [e]; exact Walks.strAscii (I.ok.hd hc) it x t
      · rw [e]; exact Walks.strWide (I.ok.hd hc) it x t
    have hno : ["enumerate", "zip", "dict_itemiterator", "dict_reverseitemiterator", "odict_iterator", "itertools.zip_longest", "itertools.pairwise"].contains ty = false := by
      rcases hty with e | e
      · rw [e]; decide
      · rw [e]; decide
    refine W.item i s _ _ hg st fun v h' tk hv st' kk => ?_
    obtain ⟨c, u, hcx, rfl⟩ := hv
    have I1 : Inv X pins σ H { s with heap := h', toks := tk } := I.turned (fun b o hb e => kk b o (by simpa using hb) e) f0 f1 f3 f4 f5
    obtain ⟨oi, e, cc, dd⟩ := id st'
    exact ⟨_, rfl, go_of (s := { s with heap := h', toks := tk }) e cc dd hno ⟨.str ⟨#[c]⟩, H, I1, ⟨u, rfl⟩, ⟨rfl, c, hcx, rfl⟩, st', fun b hb => (hf b hb).1⟩⟩
  done := by
    intro X hP hw hK hc i pins s σ H E I hf st hg
    subst hP hw hK
    obtain ⟨f0, f1, f2, f3, f4, f5⟩ := hf it (by simp)
    have hx : x.cps[i]? = none := Array.getElem?_eq_none hg
    rcases hty with e | e
    · rw [e] at st
      exact wpAny_pyNext_ascii_end (I.ok.hd hc) st hx fun h' eb => ⟨rfl, I.turned (t' := s.toks) (fun b o hb e => eb b o hb e) f0 f1 f3 f4 f5⟩
    · rw [e] at st
      exact wpAny_pyNext_wide_end (I.ok.hd hc) st hx fun h' eb => ⟨rfl, I.turned (t' := s.toks) (fun b o hb e => eb b o hb e) f0 f1 f3 f4 f5⟩
  self := fun A i s Q E st h => by
    rcases hty with e | e
    · rw [e] at st; exact wpAny_pyIter_striter_ascii st h
    · rw [e] at st; exact wpAny_pyIter_striter_wide st h
noncomputable def iStr (te : TE) : TI := fun σ H R => te σ H fun v H1 => ∃ x, v = .str x ∧ R (Its x) H1
theorem pi_str {X : Cx} {tg e : Expr} {te : TE} (he : PE X e te) : PI X tg e (iStr te) := by
  intro pins s σ H R I h
  refine thn (he pins s σ H _ I h) fun v s1 ⟨y, H1, I1, r1, x, ex, q⟩ => ?_
  subst ex
  obtain ⟨t, rfl⟩ := r1
  cases ha : x.cps.all (· < 128)
  · exact wpAny_pyIter_wide ha (pi_one (tk := s1.toks) I1 _ (turn_str _ x t "str_iterator" (.inr rfl)) ⟨_, Heap.get?_push_size _ rfl, rfl, rfl⟩ q)
  · exact wpAny_pyIter_ascii ha (pi_one (tk := s1.toks) I1 _ (turn_str _ x t "str_ascii_iterator" (.inl rfl)) ⟨_, Heap.get?_push_size _ rfl, rfl, rfl⟩ q)

section
variable {prog : Program} {w : World} {A : Around} {E : Value → Shared → Prop} {s : Shared}
end

section
variable {X : Cx} {pins : List (Addr × Obj)} {σ : St} {H : Hp} {s : Shared} {d : Addr} {o : Obj}
end

section
variable {P : Program} {w : World} {K : PySem.W.Frag} {tg : Expr} {d : Addr} {o : Obj} {es : Array DictEntry} {ep : Nat}
end

section
variable {X : Cx} {tg e : Expr} {td : TE} {apos cpos : Pos}
end

end L2

section 
namespace Bits
open PySem PyProof.Rows

end Bits
end 

section 
namespace TL
open PySem PySem.Builtin PySem.Builtin.Str PySem.StrLaws

noncomputable abbrev tl (x : Str) : List Nat := x.cps.toList
theorem len_tl (x : Str) : x.length = (tl x).length := by simp [tl, Str.length]
theorem tl_append (x y : Str) : tl (x ++ y) = tl x ++ tl y := by
  show (x ++ y).cps.toList = _
  rw [Str.cps_append, Array.toList_append]
noncomputable def pre (S l : List Nat) : Bool := l.take S.length == S
noncomputable def spl (S : List Nat) : Nat → List Nat → List Nat → List (List Nat)
  | _, acc, [] => [acc]
  | 0, acc, c :: r => if pre S (c :: r) = true then acc :: spl S (S.length - 1) [] r else spl S 0 (acc ++ [c]) r
  | k + 1, acc, _ :: r => spl S k acc r
noncomputable def par (S : List Nat) : List Nat → List Nat → Option (List Nat × List Nat)
  | _, [] => none
  | acc, c :: r => if pre S (c :: r) = true then some (acc, (c :: r).drop S.length) else par S (acc ++ [c]) r

noncomputable def joinL (S : List Nat) : List (List Nat) → List Nat
  | [] => []
  | [p] => p
  | p :: q :: r => p ++ (S ++ joinL S (q :: r))
theorem tl_join (y : Str) : ∀ parts : List Str, tl (Str.join y parts) = joinL (tl y) (parts.map tl)
  | [] => rfl
  | [_] => rfl
  | x :: z :: r => by
    show tl (x ++ y ++ Str.join y (z :: r)) = tl x ++ (tl y ++ joinL (tl y) ((z :: r).map tl))
    rw [tl_append, tl_append, tl_join y (z :: r), List.append_assoc]
theorem join_eq (y : Str) (parts : List Str) : Txt.join y parts = Str.join y parts := glued_eq_join y parts
end TL
end 

namespace L2
open PySem PySem.Spec PyProof.Rows

theorem strs_of_vals : ∀ {ys : List Str} {us : List Value}, Vals (ys.map V.str) us → StrsAre us ys
  | [], _, .nil => .nil
  | y :: ys, _, .cons r t => by
    obtain ⟨k, rfl⟩ := r
    exact .cons y k (strs_of_vals t)

section
variable {X : Cx} {pins : List (Addr × Obj)} {σ : St} {H : Hp} {s : Shared} {Q : VK}
end

section
variable {X : Cx}

theorem mt_join : MtR X "str.join" (fun x xs H Q => ∃ a p, ∃ ys : List Str, x = .str a ∧ xs = [.ref p] ∧ (SqL X.K H p (ys.map V.str) ∨ SqT X.K H p (ys.map V.str)) ∧
    (ys.map (·.length)).sum + ys.length * a.length ≤ 16777216 ∧ Q (.str (Txt.join a ys)) H) := by
  intro pins s σ H x xs v us Q I rx rs h
  obtain ⟨a, p, ys, rfl, rfl, hp, hz, h⟩ := h
  obtain ⟨t, rfl⟩ := rx
  cases rs with
  | cons r1 rs =>
    cases rs
    cases r1
    rcases hp with hp | hp
    · obtain ⟨its, r, ⟨o, n, ho, hc, _, hd⟩, _⟩ := I.list hp
      exact PyProof.Rows.join_list (items := its.toArray) ⟨o, ho, hc, n, hd⟩ (by rw [List.toList_toArray]; exact strs_of_vals r) hz fun t' k => ⟨.str _, H, I.tok k, ⟨t', rfl⟩, h⟩
    · obtain ⟨its, r, ht, _⟩ := I.tuple hp
      exact PyProof.Rows.join_tuple (items := its.toArray) ht (by rw [List.toList_toArray]; exact strs_of_vals r) hz fun t' k => ⟨.str _, H, I.tok k, ⟨t', rfl⟩, h⟩

end

section
variable {X : Cx} {o e : Expr} {to te : TE}
noncomputable def tM1 (r : V → List V → Hp → VK → Prop) (to te : TE) : TE := fun σ H Q => to σ H fun x H1 => (∃ a, x = .str a) ∧ te σ H1 fun y H2 => r x [y] H2 Q
theorem pe_m1 {id : String} {name : Str} {apos pos : Pos} {r : V → List V → Hp → VK → Prop} (slot : Slot "str" name id) (ty : typeOf (.builtin id) = pure (.type "method_descriptor")) (rule : MtR X id r) (ho : PE X o to) (he : PE X e te)
    (hs : starEach [e] X.env = [(false, eval e X.env)] := by rfl) (hbase : attributeBase o name X.env (eval o X.env) = eval o X.env := by rfl) (hline : (apos.endLine == pos.line) = true := by rfl) :
    PE X (.Call (.Attribute o name apos) [e] [] pos) (tM1 r to te) := by
  intro pins s σ H Q I h
  refine PySem.Call_method1 hbase hs hline (thn (ho pins s σ H _ I h) fun v s1 ⟨x, H1, I1, r1, q1⟩ => ?_)
  obtain ⟨⟨a, rfl⟩, q1⟩ := q1
  obtain ⟨t, rfl⟩ := _root_.id r1
  refine ⟨"str", _, F.plainAttrs_str, slot, ty, typeIs_str _ _ _, (fun _ e => nomatch e), Calls.callWith_builtin rfl (Calls.evalArgs_plain (Calls.spliced_cons ?_))⟩
  exact thn (he pins s1 σ H1 _ I1 q1) fun u s2 ⟨y, H2, I2, r2, q2⟩ => Calls.spliced_nil (rule pins s2 σ H2 _ [y] _ [u] Q I2 r1 (.cons r2 .nil) q2)

theorem pe_join {apos pos : Pos} (ho : PE X o to) (he : PE X e te) (hs : starEach [e] X.env = [(false, eval e X.env)] := by rfl) (hbase : attributeBase o "join" X.env (eval o X.env) = eval o X.env := by rfl) (hline : (apos.endLine == pos.line) = true := by rfl) :
    PE X (.Call (.Attribute o "join" apos) [e] [] pos) (tM1 (fun x xs H Q => ∃ a p, ∃ ys : List Str, x = .str a ∧ xs = [.ref p] ∧ (SqL X.K H p (ys.map V.str) ∨ SqT X.K H p (ys.map V.str)) ∧
      (ys.map (·.length)).sum + ys.length * a.length ≤ 16777216 ∧ Q (.str (Txt.join a ys)) H) to te) :=
  pe_m1 F.slot_str_join F.type_str_join mt_join ho he hs hbase hline
end
end L2

namespace L2
open PySem PySem.Spec PyProof.Rows

section
variable {X : Cx}
theorem op_in_sign : OpR X (compareOp .In) (fun x y H Q => ∃ (c : Nat) (z : Str), x = .str ⟨#[c]⟩ ∧ y = .str z ∧ Q (.bl (decide (c ∈ z.cps.toList))) H) := by
  intro pins s σ H x y v u Q I rx ry h
  obtain ⟨c, z, rfl, rfl, q⟩ := h
  obtain ⟨t, rfl⟩ := rx
  obtain ⟨t', rfl⟩ := ry
  exact PyProof.Rows.in_str (fin_bl I q (PySem.StrLaws.found_one z c).symm)
end

end L2

namespace Att
open PySem PySem.W PySem.Calls PyProof.Rows

section
variable {prog : Program} {w : World} {A : Around} {E : Value → Shared → Prop} {s : Shared} {K : Frag}

noncomputable def ledger (h : Heap) (L d : Addr) : List (Addr × Obj) := (List.range h.objs.size).filterMap fun a => if a = L ∨ a = d then none else (h.get? a).map fun o => (a, o)
end
end Att

namespace L2
open PySem PySem.Spec PyProof.Rows

end L2

namespace L2
open PySem PySem.Spec PyProof.Rows

end L2



namespace L2
open PySem PySem.Spec PyProof.Rows

noncomputable def inClass (s : Stmt) (j : Nat) : Stmt := match s with
  | .ClassDef _ _ _ body _ _ _ _ _ _ _ => body.getD j (.Pass ⟨0, 0, 0, 0⟩)
  | _ => .Pass ⟨0, 0, 0, 0⟩
noncomputable def defArgs (s : Stmt) : Arguments := match s with
  | .FunctionDef _ a _ _ _ _ _ _ _ _ => a
  | _ => { posonlyargs := [], args := [], vararg := none, kwonlyargs := [], kw_defaults := [], kwarg := none, defaults := [] }
noncomputable def defBody (s : Stmt) : List Stmt := match s with
  | .FunctionDef _ _ b _ _ _ _ _ _ _ => b
  | _ => []
noncomputable def defScope (s : Stmt) : Scope := match s with
  | .FunctionDef _ _ _ _ _ _ sc _ _ _ => sc
  | _ => { kind := .function, names := [], isGenerator := false, isCoroutine := false }

noncomputable abbrev E0 : XK := fun _ _ _ => False
structure Fun (K : PySem.W.Frag) (x qual : Str) (st : Stmt) (f : Addr) (fd : FuncData) : Prop where
  ex : ∃ (oc : Value) (od : Option Addr) (kV doc pm : Value) (an : Option Addr) (cdv ct : Value) (osl : Array (Option Value)),
    fd = PySem.W.fnOf x qual (defArgs st) (defBody st) (defScope st) .none kV doc pm an cdv ct ∧ K.lookup f = some ⟨oc, od, .func fd, osl⟩ ∧ PySem.W.codeIn K cdv qual = true
  kp : PySem.W.keepIn K (.ref f) = true
section
variable {P : Program} {w : World} {K : PySem.W.Frag} {mg : Str → Option Value} {base : Heap}
theorem Fun.binds {x qual : Str} {st : Stmt} {f : Addr} {fd : FuncData} {ps : List Str} (F : Fun K x qual st f fd)
    (h : ∀ (kV doc pm : Value) (an : Option Addr) (cdv ct : Value) (us : List Value), us.length = ps.length → bindArgs (PySem.W.fnOf x qual (defArgs st) (defBody st) (defScope st) .none kV doc pm an cdv ct) ⟨us, []⟩ = pure (ps.zip us)) : Binds K fd ps [] := by
  obtain ⟨oc, od, kV, doc, pm, an, cdv, ct, osl, rfl, lk, hcd⟩ := F.ex
  exact .all (h kV doc pm an cdv ct)
theorem fun_mk {x qual : Str} {st : Stmt} {f : Addr} {oc : Value} {od an : Option Addr} {osl : Array (Option Value)} {kV doc pm cdv ct : Value} (l : K.lookup f = some ⟨oc, od, .func (PySem.W.fnOf x qual (defArgs st) (defBody st) (defScope st) .none kV doc pm an cdv ct), osl⟩)
    (c : PySem.W.codeIn K cdv qual = true) (k : PySem.W.keepIn K (.ref f) = true) : Fun K x qual st f (PySem.W.fnOf x qual (defArgs st) (defBody st) (defScope st) .none kV doc pm an cdv ct) := ⟨⟨oc, od, kV, doc, pm, an, cdv, ct, osl, rfl, l, c⟩, k⟩
end
section
variable {X : Cx}
theorem pv (i : Nat) {x : Str} {pos : Pos} (hN : X.N[i]? = some x := by rfl) (hv : Vis X.env.scope x := by first | exact Or.inl rfl | exact Or.inr (Or.inl rfl) | exact Or.inr (Or.inr rfl)) (hd : (x == ("__debug__" : Str)) = false := by decide)
    (hcd : (x == ("__classdict__" : Str)) = false := by decide) : PE X (.Name x pos) (tVar i) := pe_var hN hv hd hcd
end

noncomputable def Same (H H' : Hp) : Prop := ∀ b o, H b = some o → H' b = some o
theorem Same.refl (H : Hp) : Same H H := fun _ _ h => h
theorem Same.trans {H H1 H2 : Hp} (a : Same H H1) (b : Same H1 H2) : Same H H2 := fun c o h => b c o (a c o h)
theorem Same.free {H H' : Hp} (e : Same H H') {l : Addr} (h : H' l = Option.none) : H l = Option.none := by
  cases q : H l with
  | none => rfl
  | some o =>
    rw [e l o q] at h
    cases h
section
variable {κ : Type} [DecidableEq κ]
end
theorem at_of {xs : List V} {z : Int} {j : Nat} {v : V} (e : z = (j : Int)) (h : xs[j]? = some v) : atI xs z = some v := by
  rw [e]
  exact atI_nat h
theorem Same.made {H H1 : Hp} {x dx C : Addr} (nx : H x = Option.none) (nd : H dx = Option.none) (k : ∀ b o, (upd (upd H dx (.own x)) x (.ins C dx [])) b = some o → b ≠ x → H1 b = some o) : Same H H1 := fun b o e =>
  k b o (by rw [upd_ne (ne_of_none e nx), upd_ne (ne_of_none e nd)]; exact e) (ne_of_none e nx)
end L2

end
section
set_option Elab.async false
set_option linter.all false
set_option maxRecDepth 100000
set_option maxHeartbeats 2000000
namespace L2
open PySem PySem.Spec PyProof.Rows
open PySem.W (WData Codec OpenSpec Well WellAll ReadsW ReadsAllW)
mutual
inductive Dw (K : PySem.W.Frag) (H : Hp) : V → WData → Prop
  | non : Dw K H .non .none
  | bl (b : Bool) : Dw K H (.bl b) (.bool b)
  | int (i : Int) : Dw K H (.int i) (.int i)
  | str (x : Str) : Dw K H (.str x) (.str x)
  | byt (b : Array UInt8) : Dw K H (.byt b) (.bytes b.toList)
  | lst {a : Addr} {xs : List V} {ds : List WData} : SqL K H a xs → DwAll K H xs ds → Dw K H (.ref a) (.list ds)
  | tup {a : Addr} {xs : List V} {ds : List WData} : SqT K H a xs → DwAll K H xs ds → Dw K H (.ref a) (.tuple ds)
inductive DwAll (K : PySem.W.Frag) (H : Hp) : List V → List WData → Prop
  | nil : DwAll K H [] []
  | cons {v : V} {vs : List V} {d : WData} {ds : List WData} : Dw K H v d → DwAll K H vs ds → DwAll K H (v :: vs) (d :: ds)
end
theorem dw_ints {K : PySem.W.Frag} {H : Hp} : ∀ ns : List Int, DwAll K H (ns.map V.int) (ns.map WData.int)
  | [] => .nil
  | n :: r => .cons (.int n) (dw_ints r)
theorem ints_dw {K : PySem.W.Frag} {H : Hp} : ∀ (ns : List Int) (xs : List V), DwAll K H xs (ns.map WData.int) → xs = ns.map V.int
  | [], xs, h => by
    cases h
    rfl
  | n :: r, xs, h => by
    cases h with
    | cons h1 h2 =>
      cases h1
      rw [ints_dw r _ h2] <;> rfl
section
variable {P : Program} {w : World} {K : PySem.W.Frag} {H : Hp} {h : Heap} {R : PySem.W.WRecords} {cl : Str → Option Addr}
theorem sqL_at {a : Addr} {xs : List V} (hok : HOk P w H h) (KX : K.In h) (q : SqL K H a xs) : ∃ (its : List Value) (o : Obj) (n : Nat), Vals xs its ∧ h.get? a = some o ∧ o.cls = .type "list" ∧ o.data = .seq its.toArray n := by
  rcases q with q | ⟨o, its, n, e, hc, _, hd, _, hv⟩
  · obtain ⟨_, its, n, hv, e⟩ := (show ObjOk P w H h a (.lst xs) from q.ok hok)
    exact ⟨its, _, n, hv, e, rfl, rfl⟩
  · exact ⟨its.toList, o, n, hv, KX _ _ e, hc, by simp [hd]⟩
theorem sqT_at {a : Addr} {xs : List V} (hok : HOk P w H h) (KX : K.In h) (q : SqT K H a xs) : ∃ (its : List Value) (o : Obj) (n : Nat), Vals xs its ∧ h.get? a = some o ∧ o.cls = .type "tuple" ∧ o.data = .seq its.toArray n := by
  rcases q with q | ⟨o, its, n, e, hc, hd, _, hv⟩
  · obtain ⟨_, its, hv, o, e, hc, n, hd⟩ := (show ObjOk P w H h a (.tup xs) from q.ok hok)
    exact ⟨its, o, n, hv, e, hc, hd⟩
  · exact ⟨its.toList, o, n, hv, KX _ _ e, hc, by simp [hd]⟩
mutual
theorem Dw.reads (hok : HOk P w H h) (KX : K.In h) : ∀ (d : WData) (v : V) (u : Value), Dw K H v d → RelV v u → ∃ as, ReadsW R cl h u d as
  | .none, _, _, x, r => by
    cases x
    cases r
    exact ⟨_, ReadsW.none⟩
  | .bool b, _, _, x, r => by
    cases x
    cases r
    exact ⟨_, ReadsW.bool b⟩
  | .int i, _, _, x, r => by
    cases x
    obtain ⟨t, rfl⟩ := r
    exact ⟨_, ReadsW.int i t⟩
  | .str s, _, _, x, r => by
    cases x
    obtain ⟨t, rfl⟩ := r
    exact ⟨_, ReadsW.str s t⟩
  | .bytes b, _, _, x, r => by
    cases x
    obtain ⟨t, rfl⟩ := r
    exact ⟨_, ReadsW.bytes _ t⟩
  | .list ds, _, _, x, r => by
    cases x with
    | lst hs ha =>
      cases r
      obtain ⟨its, o, n, rv, ho, hc, hd⟩ := sqL_at hok KX hs
      obtain ⟨as, hr⟩ := Dw.readsAll hok KX ds _ its ha rv
      exact ⟨_, ReadsW.list ho hc hd hr⟩
  | .tuple ds, _, _, x, r => by
    cases x with
    | tup hs ha =>
      cases r
      obtain ⟨its, o, n, rv, ho, hc, hd⟩ := sqT_at hok KX hs
      obtain ⟨as, hr⟩ := Dw.readsAll hok KX ds _ its ha rv
      exact ⟨_, ReadsW.tuple ho hc hd hr⟩
  | .float _, _, _, x, _ => by cases x
  | .dict _, _, _, x, _ => by cases x
  | .bytearray _, _, _, x, _ => by cases x
  | .set _, _, _, x, _ => by cases x
  | .frozenset _, _, _, x, _ => by cases x
  | .obj _ _, _, _, x, _ => by cases x
theorem Dw.readsAll (hok : HOk P w H h) (KX : K.In h) : ∀ (ds : List WData) (vs : List V) (us : List Value), DwAll K H vs ds → Vals vs us → ∃ as, ReadsAllW R cl h us ds as
  | [], _, _, x, r => by
    cases x
    cases r
    exact ⟨_, ReadsAllW.nil⟩
  | d :: ds, _, _, x, r => by
    cases x with
    | cons h1 h2 =>
      cases r with
      | cons r1 r2 =>
        obtain ⟨as, q1⟩ := Dw.reads hok KX d _ _ h1 r1
        obtain ⟨bs, q2⟩ := Dw.readsAll hok KX ds _ _ h2 r2
        exact ⟨_, ReadsAllW.cons q1 q2⟩
end
end
mutual
noncomputable def plW : WData → Bool
  | .none => true
  | .bool _ => true
  | .int _ => true
  | .str _ => true
  | .bytes _ => true
  | .list xs => plWs xs
  | .tuple xs => plWs xs
  | _ => false
noncomputable def plWs : List WData → Bool
  | [] => true
  | x :: r => plW x && plWs r
end
theorem plWs_map {α : Type} {f : α → WData} (h : ∀ a, plW (f a) = true) : ∀ l : List α, plWs (l.map f) = true
  | [] => rfl
  | x :: r => by
    show (plW (f x) && plWs (r.map f)) = true
    rw [h x, plWs_map h r] <;> rfl
theorem pl_enc : ∀ (c : Codec) (a : c.denote), plW (c.enc a) = true
  | .unit, _ => rfl
  | .bool, _ => rfl
  | .int _ _, _ => rfl
  | .nat _ _, _ => rfl
  | .u8, _ => rfl
  | .bytes _ _, _ => rfl
  | .text _ _ _ _, _ => rfl
  | .list _ _ c, a => plWs_map (fun x => pl_enc c x) a
  | .pair c d, a => by
    show (plW (c.enc a.1) && (plW (d.enc a.2) && true)) = true
    rw [pl_enc c a.1, pl_enc d a.2] <;> rfl
  | .triple c d e, a => by
    show (plW (c.enc a.1) && (plW (d.enc a.2.1) && (plW (e.enc a.2.2) && true))) = true
    rw [pl_enc c a.1, pl_enc d a.2.1, pl_enc e a.2.2] <;> rfl
  | .option c, none => rfl
  | .option c, some x => pl_enc c x
theorem pl_encAll : ∀ (cs : List Codec) (a : Codec.denoteAll cs), plWs (Codec.encAll cs a) = true
  | [], _ => rfl
  | c :: cs, a => by
    show (plW (c.enc a.1) && plWs (Codec.encAll cs a.2)) = true
    rw [pl_enc c a.1, pl_encAll cs a.2] <;> rfl
theorem weight_mem : ∀ {xs : List WData} {d : WData}, d ∈ xs → d.weight ≤ WData.weightAll xs
  | [], d, h => absurd h (by simp)
  | x :: r, d, h => by
    show d.weight ≤ x.weight + 1 + WData.weightAll r
    rcases List.mem_cons.mp h with e | m
    · rw [e]
      omega
    · have z := weight_mem m
      omega
noncomputable def toV : Value → V
  | .none => .non
  | .bool b => .bl b
  | .int i _ => .int i
  | .str x _ => .str x
  | .bytes b _ => .byt b
  | .ref a => .ref a
  | _ => .non
noncomputable def OkU (A : List Addr) : Value → Prop
  | .none => True
  | .bool _ => True
  | .int _ _ => True
  | .str _ _ => True
  | .bytes _ _ => True
  | .ref a => a ∈ A
  | _ => False
theorem OkU.mono {A B : List Addr} (h : ∀ a ∈ A, a ∈ B) : ∀ {u : Value}, OkU A u → OkU B u := fun {u} x => by
  cases u with
  | ref a => exact h a x
  | none => trivial
  | bool b => trivial
  | int i t => trivial
  | str s t => trivial
  | bytes b t => trivial
  | _ => exact False.elim x
theorem relV_toV {A : List Addr} {u : Value} (x : OkU A u) : RelV (toV u) u := by
  cases u with
  | ref a => rfl
  | none => rfl
  | bool b => rfl
  | int i t => exact ⟨t, rfl⟩
  | str s t => exact ⟨t, rfl⟩
  | bytes b t => exact ⟨t, rfl⟩
  | _ => exact False.elim x
theorem vals_toV {A : List Addr} : ∀ {vs : List Value}, (∀ u ∈ vs, OkU A u) → Vals (vs.map toV) vs
  | [], _ => .nil
  | u :: r, h => .cons (relV_toV (h u (List.mem_cons_self ..))) (vals_toV fun x hx => h x (List.mem_cons_of_mem _ hx))
noncomputable def ArgOb (h : Heap) (A : List Addr) (a : Addr) : Prop := ∃ vs : List Value, vs.length ≤ sizeLine ∧ (∀ u ∈ vs, OkU A u) ∧
  (h.get? a = some { cls := .type "list", data := .seq vs.toArray } ∨ h.get? a = some { cls := .type "tuple", data := .seq vs.toArray })
theorem ArgOb.mono {h : Heap} {A B : List Addr} {a : Addr} (k : ∀ a ∈ A, a ∈ B) (x : ArgOb h A a) : ArgOb h B a := by
  obtain ⟨vs, h1, h2, h3⟩ := x
  exact ⟨vs, h1, fun u hu => (h2 u hu).mono k, h3⟩
theorem wellAll_len {P : Params} {h : Heap} : ∀ {vs : List Value} {ds : List WData}, WellAll P h vs ds → vs.length = ds.length
  | _, _, .nil => rfl
  | _, _, .cons _ b => by
    show _ + 1 = _ + 1
    rw [wellAll_len b]
theorem well_list {P : Params} {h : Heap} {v : Value} {ds : List WData} (x : Well P h v (.list ds)) : ∃ (a : Addr) (vs : List Value), v = .ref a ∧ h.get? a = some { cls := .type "list", data := .seq vs.toArray } ∧ WellAll P h vs ds := by
  cases x with
  | list ho hall => exact ⟨_, _, rfl, ho, hall⟩
theorem well_tuple {P : Params} {h : Heap} {v : Value} {ds : List WData} (x : Well P h v (.tuple ds)) : ∃ (a : Addr) (vs : List Value), v = .ref a ∧ h.get? a = some { cls := .type "tuple", data := .seq vs.toArray } ∧ WellAll P h vs ds := by
  cases x with
  | tuple ho hall => exact ⟨_, _, rfl, ho, hall⟩
theorem well_cons {P : Params} {h : Heap} {us : List Value} {d : WData} {ds : List WData} (x : WellAll P h us (d :: ds)) : ∃ (v : Value) (vs : List Value), us = v :: vs ∧ Well P h v d ∧ WellAll P h vs ds := by
  cases x with
  | cons a b => exact ⟨_, _, rfl, a, b⟩
theorem line_of {n : Nat} (h : n ≤ 1048576) : n ≤ sizeLine := Nat.le_trans h (by decide)
section
variable {P : Params} {h : Heap}
mutual
theorem area_one : ∀ (d : WData) (v : Value), Well P h v d → plW d = true → d.weight ≤ 1048576 → ∃ A : List Addr, OkU A v ∧ ∀ a ∈ A, ArgOb h A a
  | .none, _, x, _, _ => by
    cases x
    exact ⟨[], trivial, fun a m => absurd m (by simp)⟩
  | .bool b, _, x, _, _ => by
    cases x
    exact ⟨[], trivial, fun a m => absurd m (by simp)⟩
  | .int i, _, x, _, _ => by
    cases x
    exact ⟨[], trivial, fun a m => absurd m (by simp)⟩
  | .str s, _, x, _, _ => by
    cases x
    exact ⟨[], trivial, fun a m => absurd m (by simp)⟩
  | .bytes b, _, x, _, _ => by
    cases x
    exact ⟨[], trivial, fun a m => absurd m (by simp)⟩
  | .list ds, _, x, p, z => by
    obtain ⟨a, vs, rfl, ho, hall⟩ := well_list x
    have z2 : WData.weightAll ds ≤ 1048576 := z
    obtain ⟨A, h1, h2⟩ := area_all ds _ hall p fun d hd => Nat.le_trans (weight_mem hd) z2
    have k : ∀ b ∈ A, b ∈ a :: A := fun b hb => List.mem_cons_of_mem _ hb
    refine ⟨a :: A, List.mem_cons_self .., fun b hb => ?_⟩
    rcases List.mem_cons.mp hb with e | m
    · rw [e]
      exact ⟨vs, line_of (by rw [wellAll_len hall]; exact Nat.le_trans (PySem.W.length_le_weightAllW ds) z2), fun u hu => (h1 u hu).mono k, .inl ho⟩
    · exact (h2 b m).mono k
  | .tuple ds, _, x, p, z => by
    obtain ⟨a, vs, rfl, ho, hall⟩ := well_tuple x
    have z2 : WData.weightAll ds ≤ 1048576 := z
    obtain ⟨A, h1, h2⟩ := area_all ds _ hall p fun d hd => Nat.le_trans (weight_mem hd) z2
    have k : ∀ b ∈ A, b ∈ a :: A := fun b hb => List.mem_cons_of_mem _ hb
    refine ⟨a :: A, List.mem_cons_self .., fun b hb => ?_⟩
    rcases List.mem_cons.mp hb with e | m
    · rw [e]
      exact ⟨vs, line_of (by rw [wellAll_len hall]; exact Nat.le_trans (PySem.W.length_le_weightAllW ds) z2), fun u hu => (h1 u hu).mono k, .inr ho⟩
    · exact (h2 b m).mono k
  | .float _, _, _, p, _ => Bool.noConfusion (show false = true from p)
  | .dict _, _, _, p, _ => Bool.noConfusion (show false = true from p)
  | .bytearray _, _, _, p, _ => Bool.noConfusion (show false = true from p)
  | .set _, _, _, p, _ => Bool.noConfusion (show false = true from p)
  | .frozenset _, _, _, p, _ => Bool.noConfusion (show false = true from p)
  | .obj _ _, _, _, p, _ => Bool.noConfusion (show false = true from p)
theorem area_all : ∀ (ds : List WData) (vs : List Value), WellAll P h vs ds → plWs ds = true → (∀ d ∈ ds, d.weight ≤ 1048576) → ∃ A : List Addr, (∀ u ∈ vs, OkU A u) ∧ ∀ a ∈ A, ArgOb h A a
  | [], _, x, _, _ => by
    cases x
    exact ⟨[], fun u m => absurd m (by simp), fun a m => absurd m (by simp)⟩
  | d :: ds, _, x, p, z => by
    obtain ⟨v, vs, rfl, x1, x2⟩ := well_cons x
    have q : plW d = true ∧ plWs ds = true := Bool.and_eq_true_iff.mp p
    obtain ⟨A, a1, a2⟩ := area_one d v x1 q.1 (z d (List.mem_cons_self ..))
    obtain ⟨B, b1, b2⟩ := area_all ds vs x2 q.2 fun e he => z e (List.mem_cons_of_mem _ he)
    have kA : ∀ b ∈ A, b ∈ A ++ B := fun b hb => List.mem_append.mpr (.inl hb)
    have kB : ∀ b ∈ B, b ∈ A ++ B := fun b hb => List.mem_append.mpr (.inr hb)
    refine ⟨A ++ B, fun u hu => ?_, fun b hb => ?_⟩
    · rcases List.mem_cons.mp hu with e | m
      · rw [e]
        exact a1.mono kA
      · exact (b1 u m).mono kB
    · rcases List.mem_append.mp hb with m | m
      · exact (a2 b m).mono kA
      · exact (b2 b m).mono kB
end
end
noncomputable def hoOf (o : Obj) : Option HO := match o.data with
  | .seq vs _ => if (o.cls == Value.type "list") = true then some (.frz o (.lst (vs.toList.map toV))) else some (.frz o (.tup (vs.toList.map toV)))
  | _ => none
noncomputable def argH (K : PySem.W.Frag) (h : Heap) (A : List Addr) : Hp := fun b => if b ∈ A then (if (K.lookup b).isNone = true then (h.get? b).bind hoOf else none) else none
noncomputable def OnlyF (H : Hp) : Prop := ∀ b, H b = none ∨ ∃ o u, H b = some (.frz o u)
theorem hoOf_lst (vs : List Value) : hoOf { cls := .type "list", data := .seq vs.toArray } = some (.frz { cls := .type "list", data := .seq vs.toArray } (.lst (vs.map toV))) := by
  show (if (Value.type "list" == Value.type "list") = true then some (HO.frz { cls := .type "list", data := .seq vs.toArray } (.lst (vs.toArray.toList.map toV))) else some (HO.frz { cls := .type "list", data := .seq vs.toArray } (.tup (vs.toArray.toList.map toV)))) = _
  rw [if_pos (beq_self_eq_true _)]
theorem hoOf_tup (vs : List Value) : hoOf { cls := .type "tuple", data := .seq vs.toArray } = some (.frz { cls := .type "tuple", data := .seq vs.toArray } (.tup (vs.map toV))) := by
  show (if (Value.type "tuple" == Value.type "list") = true then some (HO.frz { cls := .type "tuple", data := .seq vs.toArray } (.lst (vs.toArray.toList.map toV))) else some (HO.frz { cls := .type "tuple", data := .seq vs.toArray } (.tup (vs.toArray.toList.map toV)))) = _
  rw [if_neg (by decide)]
section
variable {P : Program} {w : World} {K : PySem.W.Frag} {h : Heap} {A : List Addr}
theorem argH_at {b : Addr} {o : Obj} (hb : b ∈ A) (hk : K.lookup b = none) (e : h.get? b = some o) : argH K h A b = hoOf o := by
  unfold argH
  rw [if_pos hb, hk, if_pos (show (none : Option Obj).isNone = true from rfl), e] <;> rfl
theorem of_argH {b : Addr} {u : HO} (q : argH K h A b = some u) : b ∈ A ∧ K.lookup b = none := by
  unfold argH at q
  by_cases hb : b ∈ A
  · rw [if_pos hb] at q
    cases hk : K.lookup b with
    | none => exact ⟨hb, rfl⟩
    | some o =>
      rw [hk, if_neg (by simp)] at q
      cases q
  · rw [if_neg hb] at q
    cases q
theorem argH_is (ar : ∀ a ∈ A, ArgOb h A a) {b : Addr} {u : HO} (q : argH K h A b = some u) : K.lookup b = none ∧ ∃ vs : List Value, vs.length ≤ sizeLine ∧ (∀ u ∈ vs, OkU A u) ∧
    ((h.get? b = some { cls := .type "list", data := .seq vs.toArray } ∧ u = .frz { cls := .type "list", data := .seq vs.toArray } (.lst (vs.map toV))) ∨
     (h.get? b = some { cls := .type "tuple", data := .seq vs.toArray } ∧ u = .frz { cls := .type "tuple", data := .seq vs.toArray } (.tup (vs.map toV)))) := by
  obtain ⟨hb, hk⟩ := of_argH q
  obtain ⟨vs, h1, h2, h3⟩ := ar b hb
  refine ⟨hk, vs, h1, h2, ?_⟩
  rcases h3 with e | e
  · rw [argH_at hb hk e, hoOf_lst] at q
    exact .inl ⟨e, (Option.some.inj q).symm⟩
  · rw [argH_at hb hk e, hoOf_tup] at q
    exact .inr ⟨e, (Option.some.inj q).symm⟩
theorem argH_only (ar : ∀ a ∈ A, ArgOb h A a) : OnlyF (argH K h A) := fun b => by
  cases q : argH K h A b with
  | none => exact .inl rfl
  | some u =>
    obtain ⟨_, vs, _, _, ⟨_, e⟩ | ⟨_, e⟩⟩ := argH_is ar q
    · exact .inr ⟨_, _, by rw [e]⟩
    · exact .inr ⟨_, _, by rw [e]⟩
theorem argH_ok (ar : ∀ a ∈ A, ArgOb h A a) : HOk P w (argH K h A) h := fun b u q => by
  obtain ⟨_, vs, h1, h2, ⟨e, rfl⟩ | ⟨e, rfl⟩⟩ := argH_is ar q
  · exact ⟨e, by rw [List.length_map]; exact h1, vs, _, vals_toV h2, e⟩
  · exact ⟨e, by rw [List.length_map]; exact h1, vs, vals_toV h2, _, e, rfl, _, rfl⟩
theorem seq_inj {c c' : Value} {vs us : List Value} (e : (some { cls := c, data := .seq vs.toArray } : Option Obj) = some { cls := c', data := .seq us.toArray }) : c = c' ∧ vs = us := by
  have e1 := Option.some.inj e
  have e2 : c = c' := congrArg Obj.cls e1
  have e3 : Data.seq vs.toArray = Data.seq us.toArray := congrArg Obj.data e1
  injection e3 with e4
  refine ⟨e2, ?_⟩
  have e5 := congrArg Array.toList e4
  simpa using e5
theorem argL (KX : K.In h) (ar : ∀ a ∈ A, ArgOb h A a) {a : Addr} {vs : List Value} (ha : a ∈ A) (e : h.get? a = some { cls := .type "list", data := .seq vs.toArray }) : (∀ u ∈ vs, OkU A u) ∧ SqL K (argH K h A) a (vs.map toV) := by
  obtain ⟨us, h1, h2, h3⟩ := ar a ha
  have hu : us = vs := by
    rcases h3 with q | q
    · rw [e] at q
      exact (seq_inj q).2.symm
    · rw [e] at q
      exact absurd (Value.type.inj (seq_inj q).1) (by decide)
  subst hu
  refine ⟨h2, ?_⟩
  cases hk : K.lookup a with
  | none => exact .inl (.inr ⟨_, by rw [argH_at ha hk e, hoOf_lst]⟩)
  | some o =>
    have e2 := KX a o hk
    rw [e] at e2
    obtain rfl := Option.some.inj e2
    exact .inr ⟨_, us.toArray, _, hk, rfl, rfl, rfl, by rw [List.size_toArray]; exact h1, by simpa using vals_toV h2⟩
theorem argT (KX : K.In h) (ar : ∀ a ∈ A, ArgOb h A a) {a : Addr} {vs : List Value} (ha : a ∈ A) (e : h.get? a = some { cls := .type "tuple", data := .seq vs.toArray }) : (∀ u ∈ vs, OkU A u) ∧ SqT K (argH K h A) a (vs.map toV) := by
  obtain ⟨us, h1, h2, h3⟩ := ar a ha
  have hu : us = vs := by
    rcases h3 with q | q
    · rw [e] at q
      exact absurd (Value.type.inj (seq_inj q).1) (by decide)
    · rw [e] at q
      exact (seq_inj q).2.symm
  subst hu
  refine ⟨h2, ?_⟩
  cases hk : K.lookup a with
  | none => exact .inl (.inr ⟨_, by rw [argH_at ha hk e, hoOf_tup]⟩)
  | some o =>
    have e2 := KX a o hk
    rw [e] at e2
    obtain rfl := Option.some.inj e2
    exact .inr ⟨_, us.toArray, _, hk, rfl, rfl, by rw [List.size_toArray]; exact h1, by simpa using vals_toV h2⟩
mutual
theorem dw_one {Pm : Params} (KX : K.In h) (ar : ∀ a ∈ A, ArgOb h A a) : ∀ (d : WData) (v : Value), Well Pm h v d → plW d = true → OkU A v → Dw K (argH K h A) (toV v) d
  | .none, _, x, _, _ => by
    cases x
    exact .non
  | .bool b, _, x, _, _ => by
    cases x
    exact .bl b
  | .int i, _, x, _, _ => by
    cases x
    exact .int i
  | .str s, _, x, _, _ => by
    cases x
    exact .str s
  | .bytes b, _, x, _, _ => by
    cases x
    have z := Dw.byt (K := K) (H := argH K h A) b.toArray
    exact z
  | .list ds, _, x, p, hu => by
    obtain ⟨a, vs, rfl, ho, hall⟩ := well_list x
    obtain ⟨h2, hs⟩ := argL KX ar hu ho
    exact .lst hs (dw_all KX ar ds _ hall p h2)
  | .tuple ds, _, x, p, hu => by
    obtain ⟨a, vs, rfl, ho, hall⟩ := well_tuple x
    obtain ⟨h2, hs⟩ := argT KX ar hu ho
    exact .tup hs (dw_all KX ar ds _ hall p h2)
  | .float _, _, _, p, _ => Bool.noConfusion (show false = true from p)
  | .dict _, _, _, p, _ => Bool.noConfusion (show false = true from p)
  | .bytearray _, _, _, p, _ => Bool.noConfusion (show false = true from p)
  | .set _, _, _, p, _ => Bool.noConfusion (show false = true from p)
  | .frozenset _, _, _, p, _ => Bool.noConfusion (show false = true from p)
  | .obj _ _, _, _, p, _ => Bool.noConfusion (show false = true from p)
theorem dw_all {Pm : Params} (KX : K.In h) (ar : ∀ a ∈ A, ArgOb h A a) : ∀ (ds : List WData) (vs : List Value), WellAll Pm h vs ds → plWs ds = true → (∀ u ∈ vs, OkU A u) → DwAll K (argH K h A) (vs.map toV) ds
  | [], _, x, _, _ => by
    cases x
    exact .nil
  | d :: ds, _, x, p, hu => by
    obtain ⟨v, vs, rfl, x1, x2⟩ := well_cons x
    have q : plW d = true ∧ plWs ds = true := Bool.and_eq_true_iff.mp p
    exact .cons (dw_one KX ar d v x1 q.1 (hu _ (List.mem_cons_self ..))) (dw_all KX ar ds vs x2 q.2 fun u m => hu u (List.mem_cons_of_mem _ m))
end
end
theorem spec_call {P : Program} {w : World} {K : PySem.W.Frag} {mg mb : Str → Option Value} {CX : CXT} {k : Nat} {fa : Addr} {fd : FuncData} {ps : List Str} {sp : Sp} {s₁ : Shared} {vals : List Value} {ds : List WData} {R : PySem.W.WRecords} {cl : Str → Option Addr} {d0 : WData}
    (KX : K.In s₁.heap) (hns : s₁.heap.Ns mainGlobals mg) (hb : s₁.heap.Ns builtinsNs mb) (hbb : ∀ x : Str, x ≠ "__name__" → mb x = bootBuiltins x) (hlim : s₁.heap.NoLimit) (hg : s₁.gens = #[])
    (hwl : WellAll w.params s₁.heap vals ds) (hpl : plWs ds = true) (hwt : ∀ d ∈ ds, d.weight ≤ 1048576) (hr : Room k callerA)
    (F : ∀ base : Heap, K.In base → base.Ns mainGlobals mg → FnOk P w K mg base CX k fa fd ps sp) (hbind : ∀ (s : Shared) (us : List Value), us.length = ps.length → BindsTo s fd ⟨us, []⟩ (ps.zip us)) (hlen : ds.length = ps.length)
    (hsp : ∀ (H : Hp) (xs : List V), OnlyF H → DwAll K H xs ds → sp xs H (fun v H' => Dw K H' v d0) fun _ _ _ => False)
    (hCX : ∀ H e s', CX [] H s₁ (fun _ _ _ => False) e s' → False) :
    codeAny (model P w) callerA (.call (.ref fa) ⟨vals, []⟩) (fun r s' => ∃ u as, r = .ok (.ret u) ∧ ReadsW R cl s'.heap u d0 as ∧ OldK s₁.heap s'.heap ∧ s'.os = s₁.os ∧ AllBare s'.gens) s₁ := by
  obtain ⟨A, ho, ar⟩ := area_all ds vals hwl hpl hwt
  have hO : OnlyF (argH K s₁.heap A) := argH_only ar
  have hok : HOk P w (argH K s₁.heap A) s₁.heap := argH_ok ar
  have hS := dw_all KX ar ds vals hwl hpl ho
  have hV := vals_toV ho
  have hK : ∀ b u, argH K s₁.heap A b = some u → K.lookup b = none := fun b u q => (argH_is ar q).1
  have noA : ∀ {b : Addr} {o : Obj} {es : Array DictEntry} {ep : Nat}, s₁.heap.get? b = some o → o.data = .dict es ep → argH K s₁.heap A b = none := fun {b o es ep} e d => by
    cases q : argH K s₁.heap A b with
    | none => rfl
    | some u =>
      obtain ⟨_, vs, _, _, ⟨e2, _⟩ | ⟨e2, _⟩⟩ := argH_is ar q
      · rw [e2] at e
        cases e
        have d' : Data.seq vs.toArray _ = Data.dict es ep := d
        cases d'
      · rw [e2] at e
        cases e
        have d' : Data.seq vs.toArray _ = Data.dict es ep := d
        cases d'
  generalize argH K s₁.heap A = H at hO hok hS hK noA
  have base_of : ∀ {b : Addr} {o : Obj}, s₁.heap.get? b = some o → H b = none → (hidT s₁.heap H).get? b = some o := fun e n => hidT_get e n
  have nsK : ∀ {b : Addr} {m : Str → Option Value}, s₁.heap.Ns b m → (hidT s₁.heap H).Ns b m := fun {b m} ⟨o, es, ep, e, d, r⟩ => ⟨o, es, ep, base_of e (noA e d), d, r⟩
  have nK : ∀ b o, K.lookup b = some o → H b = none := fun b o e => by
    cases q : H b with
    | none => rfl
    | some u =>
      rw [hK b u q] at e
      cases e
  have hKb : K.In (hidT s₁.heap H) := fun b o e => base_of (KX b o e) (nK b o e)
  have hM : Mod K mg (hidT s₁.heap H) := ⟨hKb, nsK hns, ⟨mb, nsK hb, hbb⟩, let ⟨mc, h1, h2⟩ := hlim; ⟨mc, nsK h1, h2⟩⟩
  have e0 : Env0 P w K mg (hidT s₁.heap H) callerA [] s₁ H := ⟨rfl, hM, fun b o e => of_hidT e, Nat.le_of_eq (hidT_size _ _), trivial, fun b hb => absurd (show b ∈ ([] : List Addr) from hb) (by simp), hok, .of_eq hg⟩
  have hl : vals.length = ps.length := by rw [wellAll_len hwl]; exact hlen
  refine codeAny_mono ((F _ hKb (nsK hns)).run callerA [] s₁ H ⟨vals, []⟩ vals (vals.map toV) _ _ hr e0 (hbind s₁ vals hl) hV (hsp H _ hO hS)) fun r s' x => ?_
  cases r with
  | error e => exact (hCX H e s' x).elim
  | ok fl =>
    cases fl with
    | next => exact False.elim x
    | brk => exact False.elim x
    | cont => exact False.elim x
    | ret u =>
      obtain ⟨v, H', os, bare, un, hok', r', q⟩ := x
      have kept : ∀ b o, s₁.heap.get? b = some o → s'.heap.get? b = some o := fun b o e => by
        cases q2 : H b with
        | none => exact un.keep b o e q2 (by intro z; exact absurd (show b ∈ ([] : List Addr) from z) (by simp)) (by simp)
        | some u2 =>
          rcases hO b with z | ⟨ob, u3, z⟩
          · rw [q2] at z
            cases z
          · have z2 := un.frzs b ob _ z
            obtain ⟨e1, _⟩ := hok b _ z
            obtain ⟨e2, _⟩ := hok' b _ z2
            rw [e] at e1
            cases e1
            exact e2
      have KX' : K.In s'.heap := fun b o e => kept b o (KX b o e)
      obtain ⟨as, hrd⟩ := Dw.reads (R := R) (cl := cl) hok' KX' d0 v u q r'
      exact ⟨u, as, rfl, hrd, OldK.of_keep kept, os, bare⟩
theorem layable_weight {ds : List WData} (h : WData.layableAll ds = true) : ∀ d ∈ ds, d.weight ≤ 1048576 := fun d hd =>
  (PySem.W.layableW_iff.mp (List.all_eq_true.mp h d hd)).2.2
theorem encAll_len : ∀ (cs : List Codec) (a : Codec.denoteAll cs), (Codec.encAll cs a).length = cs.length
  | [], _ => rfl
  | c :: cs, a => by
    show (Codec.encAll cs a.2).length + 1 = cs.length + 1
    rw [encAll_len cs a.2]
theorem walk_spec {r : OpenSpec} {k : Nat} {q : Program} {loose : List Str} {XP : (Str → Option Value) → Heap → Prop} {YP : World → Heap → Prop} {d : DefRec} {K : Params → PySem.W.Frag} {CX : World → CXT} {ps : List Str} {sp : World → Sp}
    (hwell : r.wellSaid = true) (hdf : d.params.defaults = []) (hlen : r.args.length = ps.length) (hr : Room k callerA)
    (hY : ∀ (w : World) (h : Heap), YP w h → (K w.params).In h)
    (F : ∀ (w : World) (mg : Str → Option Value) (fa : Addr) (h : Heap), YP w h → (K w.params).In h → h.Ns mainGlobals mg → mg d.name = some (.ref fa) →
      ∃ fd : FuncData, (∀ (s : Shared) (us : List Value), us.length = ps.length → BindsTo s fd ⟨us, []⟩ (ps.zip us)) ∧
        ∀ base : Heap, (K w.params).In base → base.Ns mainGlobals mg → FnOk r.prog w (K w.params) mg base (CX w) k fa fd ps (sp w))
    (hsp : ∀ (w : World) (H : Hp) (xs : List V) (a : Codec.denoteAll r.args), OnlyF H → Codec.withinAll r.args a = true → Codec.app r.args r.asked a = true → DwAll (K w.params) H xs (Codec.encAll r.args a) →
      sp w xs H (fun v H' => Dw (K w.params) H' v (r.ret.enc (Codec.app r.args r.f a))) fun _ _ _ => False)
    (hCX : ∀ (w : World) (H : Hp) (s : Shared) (e : Value) (s' : Shared), CX w [] H s (fun _ _ _ => False) e s' → False) :
    PySem.W.WalkOS q loose XP YP r d [] (fun f vs => PySem.call f vs) := by
  intro w s_0 s₁ mg mb G Y fa o pm cd doc dV kV ho hd hcd hD hmg hg args vals as hpre hlay hrd hwl hlo
  obtain ⟨a, e1, e2⟩ := PySem.W.os_pre_some hpre
  obtain ⟨e3, hwi⟩ := Codec.encAll_of_decAll r.args args a e1
  subst e3
  have KX := hY w _ Y
  obtain ⟨fd, hb, hF⟩ := F w mg fa _ Y KX G.T.g hmg
  refine PySem.W.enter_call (codeAny_mono (spec_call (R := []) (cl := classAt s_0.heap) (d0 := r.ret.enc (Codec.app r.args r.f a)) KX G.T.g G.T.b G.T.builtins G.T.nolimit hg hwl (pl_encAll _ _) (layable_weight hlay) hr hF hb (by rw [encAll_len]; exact hlen)
    (fun H xs hO hS => hsp w H xs a hO hwi e2 hS) fun H e s' => hCX w H s₁ e s') fun r' s' hq => ?_)
  obtain ⟨u, as', rfl, h1, h2, h3, h4⟩ := hq
  exact ⟨.inl ⟨u, _, as', rfl, fun _ => rfl, h1, (OpenSpec.post_iff hwell hwi _ _).mpr rfl, fun z => Bool.noConfusion (show false = true from z)⟩, h2, h3, h4⟩
end L2

namespace L2
open PySem PySem.Spec PyProof.Rows
open PySem.W (WData Codec OpenSpec Well WellAll ReadsW ReadsAllW)
theorem walk_specX {r : OpenSpec} {k : Nat} {q : Program} {loose : List Str} {XP : (Str → Option Value) → Heap → Prop} {YP : World → Heap → Prop} {d : DefRec} {K : Params → PySem.W.Frag} {CX : World → CXT} {ps : List Str} {sp : PySem.W.Frag → Sp}
    (hwell : r.wellSaid = true) (hdf : d.params.defaults = []) (hlen : r.args.length = ps.length) (hr : Room k callerA)
    (hY : ∀ (w : World) (h : Heap), YP w h → (K w.params).In h)
    (F : ∀ (w : World) (mg : Str → Option Value) (fa : Addr) (h : Heap), YP w h → (K w.params).In h → h.Ns mainGlobals mg → mg d.name = some (.ref fa) →
      ∃ fd : FuncData, (∀ (s : Shared) (us : List Value), us.length = ps.length → BindsTo s fd ⟨us, []⟩ (ps.zip us)) ∧
        ∀ base : Heap, (K w.params).In base → base.Ns mainGlobals mg → FnOk r.prog w (K w.params) mg base (CX w) k fa fd ps (sp (K w.params)))
    (hsp : ∀ (K : PySem.W.Frag) (H : Hp) (xs : List V) (a : Codec.denoteAll r.args), OnlyF H → Codec.withinAll r.args a = true → Codec.app r.args r.asked a = true → DwAll K H xs (Codec.encAll r.args a) →
      sp K xs H (fun v H' => Dw K H' v (r.ret.enc (Codec.app r.args r.f a))) fun _ _ _ => False)
    (hCX : ∀ (w : World) (H : Hp) (s : Shared) (e : Value) (s' : Shared), CX w [] H s (fun _ _ _ => False) e s' → False) :
    PySem.W.WalkOS q loose XP YP r d [] (fun f vs => PySem.call f vs) :=
  walk_spec (K := K) (CX := CX) (sp := fun w => sp (K w.params)) hwell hdf hlen hr hY F (fun w H xs a h1 h2 h3 h4 => hsp (K w.params) H xs a h1 h2 h3 h4) fun w H s e s' => hCX w H s e s'
end L2

end
section
set_option Elab.async false
set_option linter.all false
set_option maxRecDepth 100000
namespace Xc
open PySem

noncomputable def HeadOk (h : Heap) (x : Addr) (head : Value) : Prop :=
  head = .none ∨ ∃ T oT ts, head = .ref T ∧ T ≠ x ∧ h.get? T = some oT ∧ oT.data = .fields ts ∧ ts[3]? = some Value.none

section
variable {M : Model} {A : Around} {E : Value → Shared → Prop} {s : Shared}

theorem xnew {base : Heap} {env : Env} {outer : List Env} {L x : Addr} {oe : Obj} {vs : Array Value} {head : Value} {hn : Bool} {Q : Unit → Shared → Prop}
    (hfr : A.frames = some (env :: outer)) (hl : s.heap.FunFrames base (env :: outer)) (hf : env.frame = some L)
    (he : s.heap.get? x = some oe) (hd : oe.data = .fields vs) (hz : 1 < vs.size)
    (hQ : ∀ (h' : Heap) (T' : Addr) (oT : Obj) (ts : Array Value), s.heap.get? T' = none → T' ≠ x → s.heap.objs.size ≤ T' → h'.get? x = some (oe.mapFields (·.setIfInBounds 1 (.ref T'))) →
      h'.get? T' = some oT → oT.data = .fields ts → ts[3]? = some (rawInt L) →
      (∀ b o, b ≠ x → b ∉ (env :: outer).filterMap (·.frame) → s.heap.get? b = some o → h'.get? b = some o) →
      (∀ b o, b ∈ (env :: outer).filterMap (·.frame) → s.heap.get? b = some o → ∃ sl, h'.get? b = some { o with slots := sl }) → Q () { s with heap := h' }) :
    wpAny M A (do let a ← frameOf env; let pl ← entryPlaceOf L hn; let b ← EntryCells.newEntry head a .none (rawInt L) .none pl; setField (.ref x) 1 b) Q E s := by
  have nx : x ∉ (env :: outer).filterMap (·.frame) := fun hm => by
    obtain ⟨_, o, ho, nf⟩ := hl.mem hm
    exact nf vs (by rw [he] at ho; cases ho; exact hd)
  refine wpAny_bind (wpAny_frameOf_fun hfr hl hf fun h1 k1 => wpAny_bind (wpAny_entryPlaceOf fun pl hpl => ?_))
  have e1 : h1.get? x = some oe := (k1.2.1 x nx).trans he
  unfold EntryCells.newEntry newFields
  refine wpAny_bind (wpAny_newObj_type ?_ (hpl.sizeOk5 _ _ _ _ _))
  generalize hob : ({ cls := .type "traceback", dict := none, data := .fields ([head, .ref L, .none, rawInt L, .none] ++ (if pl.isEmpty then List.replicate 6 Value.none else pl)).toArray } : Obj) = ob
  have e2 : (h1.push ob).get? x = some oe := Heap.get?_push_of_some _ e1
  refine wpAny_setField e2 hd hz ?_
  have nT : h1.objs.size ≠ x := Nat.ne_of_gt (Heap.lt_size e1)
  have sz : h1.objs.size = s.heap.objs.size := k1.1
  have dd := Obj.data_mapFields hd (·.setIfInBounds 1 (Value.ref h1.objs.size))
  have hobf : ob.isFreed = false := by rw [← hob]; rfl
  have eT : ((h1.push ob).update x (Obj.mapFields (·.setIfInBounds 1 (Value.ref h1.objs.size)))).get? h1.objs.size = some ob :=
    (Heap.get?_update_other _ _ (Ne.symm nT)).trans (Heap.get?_push_size h1 hobf)
  refine hQ _ h1.objs.size ob ([head, .ref L, .none, rawInt L, .none] ++ (if pl.isEmpty then List.replicate 6 Value.none else pl)).toArray ?_ nT (Nat.le_of_eq sz.symm) ?_ eT (by rw [← hob]) (by simp) ?_ ?_
  · exact Heap.get?_none_of_le (Nat.le_of_eq sz.symm)
  · exact Heap.get?_update_self _ e2 (Obj.isFreed_of_fields dd)
  · intro b o hb hnf ho
    rw [Heap.get?_update_other _ _ (Ne.symm hb)]
    exact Heap.get?_push_of_some _ ((k1.2.1 b hnf).trans ho)
  · intro b o hbf ho
    obtain ⟨sl, hs⟩ := k1.2.2 b o ho
    have hb : b ≠ x := fun q => nx (q ▸ hbf)
    exact ⟨sl, by rw [Heap.get?_update_other _ _ (Ne.symm hb)]; exact Heap.get?_push_of_some _ hs⟩

theorem xnote {base : Heap} {env : Env} {outer : List Env} {L x : Addr} {oe : Obj} {vs : Array Value} {head : Value} {Q : Unit → Shared → Prop}
    (hfr : A.frames = some (env :: outer)) (hl : s.heap.FunFrames base (env :: outer)) (hf : env.frame = some L)
    (he : s.heap.get? x = some oe) (hd : oe.data = .fields vs) (h1 : vs[1]? = some head) (hh : HeadOk s.heap x head)
    (hQ : ∀ (h' : Heap) (T' : Addr) (oT : Obj) (ts : Array Value), s.heap.get? T' = none → T' ≠ x → s.heap.objs.size ≤ T' → h'.get? x = some (oe.mapFields (·.setIfInBounds 1 (.ref T'))) →
      h'.get? T' = some oT → oT.data = .fields ts → ts[3]? = some (rawInt L) →
      (∀ b o, b ≠ x → b ∉ (env :: outer).filterMap (·.frame) → s.heap.get? b = some o → h'.get? b = some o) →
      (∀ b o, b ∈ (env :: outer).filterMap (·.frame) → s.heap.get? b = some o → ∃ sl, h'.get? b = some { o with slots := sl }) →
      (∀ b o, s.heap.get? b = some o → ∃ o', h'.get? b = some o') → Q () { s with heap := h' }) :
    wpAny M A (noteFrame (.ref x) env) Q E s := by
  have hz : 1 < vs.size := (Array.getElem?_eq_some_iff.mp h1).1
  unfold noteFrame
  simp only [hf]
  refine wpAny_bind (wpAny_field he hd h1 ?_)
  rcases hh with rfl | ⟨T, oT, ts, rfl, hTx, hT, hTd, hT3⟩
  · rw [if_neg (by decide)]
    refine xnew hfr hl hf he hd hz fun h' T' oT ts a1 a2 a3 a4 a5 a6 a7 a8 a9 => hQ h' T' oT ts a1 a2 a3 a4 a5 a6 a7 a8 a9 fun b o e => ?_
    by_cases hb : b = x
    · subst hb; exact ⟨_, a4⟩
    · by_cases hm : b ∈ (env :: outer).filterMap (·.frame)
      · obtain ⟨sl, q⟩ := a9 b o hm e; exact ⟨_, q⟩
      · exact ⟨o, a8 b o hb hm e⟩
  · rw [if_pos (show (Value.ref T != Value.none) = true from by simp)]
    refine wpAny_bind (wpAny_field hT hTd hT3 ?_)
    rw [if_neg (show ¬ ((Value.none == rawInt L) = true) from by simp [rawInt])]
    refine wpAny_bind (wpAny_setField hT hTd (Array.getElem?_eq_some_iff.mp hT3).1 ?_)
    rw [Heap.update_setField_same s.heap T oT ts 3 Value.none hT hTd hT3]
    refine xnew hfr hl hf he hd hz fun h' T' oT' ts' a1 a2 a3 a4 a5 a6 a7 a8 a9 => hQ h' T' oT' ts' a1 a2 a3 a4 a5 a6 a7 a8 a9 fun b o e => ?_
    by_cases hb : b = x
    · subst hb; exact ⟨_, a4⟩
    · by_cases hm : b ∈ (env :: outer).filterMap (·.frame)
      · obtain ⟨sl, q⟩ := a9 b o hm e; exact ⟨_, q⟩
      · exact ⟨o, a8 b o hb hm e⟩
theorem xland {x T : Addr} {oe oT : Obj} {vs ts : Array Value} {fl : Value} {Q : Unit → Shared → Prop} (he : s.heap.get? x = some oe) (hd : oe.data = .fields vs) (h1 : vs[1]? = some (.ref T)) (hT : s.heap.get? T = some oT) (hTd : oT.data = .fields ts) (h3 : ts[3]? = some fl)
    (hQ : ∀ (h' : Heap) (oT' : Obj) (ts' : Array Value), h'.get? T = some oT' → oT'.data = .fields ts' → ts'[3]? = some .none → (∀ b, b ≠ T → h'.get? b = s.heap.get? b) → Q () { s with heap := h' }) :
    wpAny M A (setFlight (.ref x) none) Q E s := by
  have hz : 3 < ts.size := (Array.getElem?_eq_some_iff.mp h3).1
  unfold setFlight
  refine wpAny_bind (wpAny_field he hd h1 ?_)
  rw [if_pos (show (Value.ref T != Value.none) = true from by simp)]
  refine wpAny_setField hT hTd hz (hQ _ _ _ (Heap.get?_update_self _ hT (Obj.isFreed_of_fields (Obj.data_mapFields hTd _))) (Obj.data_mapFields hTd _) (by simp [hz]) fun b hb => Heap.get?_update_other _ _ (Ne.symm hb))
end
end Xc
namespace Xc
open PySem
open Builtin Builtin.ObjectAttr
noncomputable abbrev bmV : List Value := [.type "ValueError", .type "Exception", .type "BaseException", .type "object"]
noncomputable abbrev xobj (C : Addr) (dict : Option Addr) (t : Addr) : Obj := { cls := .ref C, dict := dict, data := .fields #[.ref t, .none, .none, .none, .bool false, .none] }
section
variable {prog : Program} {w : World} {A : Around} {E : Value → Shared → Prop} {h : Heap} {g : Array GenState} {d : Drawn} {t : Nat} {os : OsState}
variable {nm q : Str} {C N x : Addr} {bs : List Value} {sn : List Str} {sub : List Value} {ab : Bool} {col : Option Bool} {dd : Option Addr} {k0 k1 k2 k3 k5 : Option Value}
  {mN : Str → Option Value} {name : Str} {v : Value}

theorem xstore_entry {tk : Tok} {a0 : Addr} {Q : Fin → Shared → Prop} (hC : h.get? C = some (excClassObj nm q C N bs bmV true sn sub ab col dd k0 k1 k2 k3 k5 "ValueError.__new__")) (hn : h.Ns N mN) (hna : mN name = none)
    (hB : typeLookup (.type "ValueError") name = pure none) (hx : h.get? x = some (xobj C none a0))
    (hq : ∀ h' tk' dx, h.objs.size ≤ dx → dx ≠ x → h'.get? x = some (xobj C (some dx) a0) → h'.Ns1 dx (fun y => if y = name then some v else none) →
      (∀ b o, b ≠ x → h.get? b = some o → h'.get? b = some o) → Q (.done (.ret .none)) ⟨h', g, d, tk', os⟩) :
    wpAny (model prog w) A (Builtin.«object.__setattr__» ⟨[.ref x, .str name tk, v], []⟩) Q E ⟨h, g, d, t, os⟩ := by
  have SF := F.store_ValueError
  have pass := SF.passes (.ref x)
  have hxs : x ≠ h.objs.size := Nat.ne_of_lt (Heap.lt_size hx)
  have hx1 : (h.push { cls := .type "dict", data := .dict #[] }).get? x = some (xobj C none a0) := Heap.get?_push_of_some _ hx
  generalize hg1 : ((h.push { cls := .type "dict", data := .dict #[] }).update x fun o => { cls := o.cls, dict := some h.objs.size, data := o.data, slots := o.slots }) = h1 at *
  have e1 : h1.get? h.objs.size = some { cls := .type "dict", data := .dict #[] } := by rw [← hg1]; exact (Heap.get?_update_ne _ _ _ _ hxs.symm).trans (Heap.get?_push_at rfl rfl)
  have e2 : h1.get? x = some (xobj C (some h.objs.size) a0) := by rw [← hg1]; exact Heap.get?_update_self _ hx1 rfl
  have e3 : ∀ b o, b ≠ x → h.get? b = some o → h1.get? b = some o := fun b o hb ho => by rw [← hg1]; exact (Heap.get?_update_ne _ _ _ _ hb).trans (Heap.get?_push_of_some _ ho)
  have e4 : h1.Ns1 h.objs.size (fun _ => none) := Heap.Ns1.of_empty ⟨_, #[], _, e1, rfl, fun e he => absurd he (by simp), fun _ => rfl⟩
  unfold Builtin.«object.__setattr__»
  repeat (first | with_reducible refine wpAny_nsSet1 (s := ⟨h1, g, d, t, os⟩) e4 ?_ | rw [hg1] | rw [refuse_eq] | (rw [refuseLoop_ref, pass]) | with_reducible refine wpAny_loadPart_at hx ?_ | with_reducible refine wpAny_mroOf_exc hC ?_ | (with_reducible refine wpAny_typeLookup_exc hC hn SF.mro hB ?_; rw [hna]) | wp_step)
  intro h' hn' hs
  obtain ⟨oD, esD, epD, hoD, hdD, hcD⟩ := hn'.count (Within.cons name v Within.nil)
  refine wpAny_bind (wpAny_lookBehind hoD (by rw [hdD]; exact pastItsLine_dict (Nat.le_trans hcD (by rw [List.length_cons, List.length_nil, sizeLine_eq]; omega))) (wpAny_pure ?_))
  exact hq h' _ h.objs.size (Nat.le_refl _) hxs.symm ((hs.2 x hxs).trans e2) hn' fun b o hb ho => (hs.2 b (Nat.ne_of_lt (Heap.lt_size ho))).trans (e3 b o hb ho)

theorem xstore_call {sa owner : String} {tk : Tok} {a0 : Addr} {R : Result → Shared → Prop} (SF : StoreFacts "ValueError" bmV sa owner) (hC : h.get? C = some (excClassObj nm q C N bs bmV true sn sub ab col dd k0 k1 k2 k3 k5 "ValueError.__new__")) (hn : h.Ns N mN) (hna : mN name = none)
    (hB : typeLookup (.type "ValueError") name = pure none) (hx : h.get? x = some (xobj C none a0))
    (hq : ∀ h' tk' dx, h.objs.size ≤ dx → dx ≠ x → h'.get? x = some (xobj C (some dx) a0) → h'.Ns1 dx (fun y => if y = name then some v else none) →
      (∀ b o, b ≠ x → h.get? b = some o → h'.get? b = some o) → R (.ok (.ret .none)) ⟨h', g, d, tk', os⟩) :
    codeAny (model prog w) A (.call (.builtin sa) ⟨[.ref x, .str name tk, v], []⟩) R ⟨h, g, d, t, os⟩ := by
  have ho : ∃ o, h.get? x = some o ∧ o.cls = .ref C := ⟨_, hx, rfl⟩
  obtain ⟨o, ho, hc⟩ := ho
  exact codeAny_call_builtin SF.slot.plain SF.entry (wpAny_check_sa SF hC ho hc (xstore_entry hC hn hna hB hx hq))
theorem xstore_by {sa owner : String} {a0 : Addr} {Q : Unit → Shared → Prop} (SF : StoreFacts "ValueError" bmV sa owner) (hC : h.get? C = some (excClassObj nm q C N bs bmV true sn sub ab col dd k0 k1 k2 k3 k5 "ValueError.__new__")) (hn : h.Ns N mN) (hns : mN "__setattr__" = none) (hna : mN name = none)
    (hB : typeLookup (.type "ValueError") name = pure none) (hx : h.get? x = some (xobj C none a0))
    (hq : ∀ h' tk' dx, h.objs.size ≤ dx → dx ≠ x → h'.get? x = some (xobj C (some dx) a0) → h'.Ns1 dx (fun y => if y = name then some v else none) →
      (∀ b o, b ≠ x → h.get? b = some o → h'.get? b = some o) → Q () ⟨h', g, d, tk', os⟩) :
    wpAny (model prog w) A (setAttr (.ref x) name v) Q E ⟨h, g, d, t, os⟩ := by
  have bnd := SF.slot.bind (.ref x)
  have hx0 : ∃ o, h.get? x = some o ∧ o.cls = .ref C := ⟨_, hx, rfl⟩
  obtain ⟨o, ho, hc⟩ := hx0
  unfold setAttr callSpecial? specialOf
  repeat (first | (with_reducible refine wpAny_loadPart_at ho ?_; rw [hc]) | (with_reducible refine wpAny_typeLookup_exc hC hn SF.mro SF.slot.lookup ?_; rw [hns]) | (with_reducible refine wpAny_of_eq bnd ?_) | wp_step)
  refine xstore_call SF hC hn hna hB hx fun h' tk' dx a1 a2 a3 a4 a5 => ?_
  exact wpAny_pure (wpAny_pure (hq h' tk' dx a1 a2 a3 a4 a5))
theorem xstore {a0 : Addr} {Q : Unit → Shared → Prop} (hC : h.get? C = some (excClassObj nm q C N bs bmV true sn sub ab col dd k0 k1 k2 k3 k5 "ValueError.__new__")) (hn : h.Ns N mN) (hns : mN "__setattr__" = none) (hna : mN name = none)
    (hB : typeLookup (.type "ValueError") name = pure none) (hx : h.get? x = some (xobj C none a0))
    (hq : ∀ h' tk' dx, h.objs.size ≤ dx → dx ≠ x → h'.get? x = some (xobj C (some dx) a0) → h'.Ns1 dx (fun y => if y = name then some v else none) →
      (∀ b o, b ≠ x → h.get? b = some o → h'.get? b = some o) → Q () ⟨h', g, d, tk', os⟩) :
    wpAny (model prog w) A (setAttr (.ref x) name v) Q E ⟨h, g, d, t, os⟩ := xstore_by F.store_ValueError hC hn hns hna hB hx hq

theorem xraise {env : Env} {s : Shared} {y : Sem Value} {Q : Flow → Shared → Prop} (hh : A.handled = none)
    (hy : wpAny (model prog w) A y (fun v s1 => ∃ x nm q C N bs sn sub ab col dd k0 k1 k2 k3 k5 dx t, v = .ref x ∧ s1.heap.get? C = some (excClassObj nm q C N bs bmV true sn sub ab col dd k0 k1 k2 k3 k5 "ValueError.__new__") ∧
      s1.heap.get? x = some (xobj C dx t) ∧ E (.ref x) s1) E s) : wpAny (model prog w) A (raiseStmt env (some y) none) Q E s := by
  unfold raiseStmt
  refine wpAny_bind (wpAny_mono hy (fun v s1 h1 => ?_) fun _ _ z => z)
  obtain ⟨x, nm, q, C, N, bs, sn, sub, ab, col, dd, k0, k1, k2, k3, k5, dx, t, rfl, hC, hx, hE⟩ := h1
  obtain ⟨hp, g, d, tk, os⟩ := s1
  have hcB : (Value.ref C :: bmV).contains (.type "BaseException") = true := by rw [List.contains_cons, F.excBase_ValueError.hasBase, Bool.or_true]
  repeat (first | with_reducible refine wpAny_loadPart_at hx ?_ | with_reducible refine wpAny_loadPart_at hC ?_ | (with_reducible refine wpAny_isSubtype_exc hC ?_; rw [hcB]) | wp_step)
  exact wpAny_raiseNew_none hh hE

theorem xinit {dx : Option Addr} {a0 : Addr} {rest : List Value} {Q : Value → Shared → Prop} (hC : h.get? C = some (excClassObj nm q C N bs bmV true sn sub ab col dd k0 k1 k2 k3 k5 "ValueError.__new__"))
    (hx : h.get? x = some (xobj C dx a0)) (hz : rest.length ≤ sizeLine)
    (hq : ∀ h' a1, h'.get? x = some (xobj C dx a1) → (∀ b o, b ≠ x → h.get? b = some o → h'.get? b = some o) → Q .none ⟨h', g, d, t, os⟩) :
    wpAny (model prog w) A (call (.builtin "ValueError.__init__") (.ref x :: rest)) Q E ⟨h, g, d, t, os⟩ := by
  have F := F.excBase_ValueError
  refine wpAny_call (codeAny_call_builtin F.init.plain F.initEntry (wpAny_check_init_sub F hC hx rfl ?_))
  unfold Builtin.«BaseException.__init__»
  wp_walk
  refine hq _ h.objs.size ?_ fun b o hb ho => ?_
  · exact (Heap.get?_update_self _ (Heap.get?_push_of_some _ hx) rfl).trans rfl
  · exact (Heap.get?_update_ne _ _ _ _ hb).trans (Heap.get?_push_of_some _ ho)

theorem xload_entry {dx : Addr} {tk : Tok} {oe : Obj} {vs : Array Value} {mA : Str → Option Value} {Q : Fin → Shared → Prop} (hC : h.get? C = some (excClassObj nm q C N bs bmV true sn sub ab col dd k0 k1 k2 k3 k5 "ValueError.__new__")) (hn : h.Ns N mN)
    (hna : mN name = none) (hB : typeLookup (.type "ValueError") name = pure none) (hx : h.get? x = some oe) (hc : oe.cls = .ref C) (hd : oe.dict = some dx) (hv' : oe.data = .fields vs) (hA : h.Ns1 dx mA) (hv : mA name = some v)
    (hq : Q (.done (.ret v)) ⟨h, g, d, t, os⟩) : wpAny (model prog w) A (Builtin.«object.__getattribute__» ⟨[.ref x, .str name tk], []⟩) Q E ⟨h, g, d, t, os⟩ := by
  have SF := F.store_ValueError
  unfold Builtin.«object.__getattribute__»
  repeat (first | (with_reducible refine wpAny_loadPart_at hx ?_; rw [hc]) | (with_reducible refine wpAny_typeLookup_exc hC hn SF.mro hB ?_; rw [hna]) | wp_step)
  rw [hv']
  unfold instanceDict
  repeat (first | (with_reducible refine wpAny_loadPart_at hx ?_; rw [hc]) | with_reducible refine wpAny_loadPart_at hC ?_ | wp_step)
  rw [hd]
  repeat (first | (with_reducible refine wpAny_nsGet hA.ns ?_; rw [hv]) | wp_step)
  exact hq
theorem xcheck_ga {M : Model} {nameV : Value} {oe : Obj} {Q : Unit → Shared → Prop} (hC : h.get? C = some (excClassObj nm q C N bs bmV true sn sub ab col dd k0 k1 k2 k3 k5 "ValueError.__new__")) (hx : h.get? x = some oe) (hc : oe.cls = .ref C)
    (hq : Q () ⟨h, g, d, t, os⟩) : wpAny M A (checkBuiltinCall "BaseException.__getattribute__" ⟨[.ref x, nameV], []⟩) Q E ⟨h, g, d, t, os⟩ := by
  have e1 : builtinKind "BaseException.__getattribute__" = some .slot := by decide +kernel
  have e2 : splitId "BaseException.__getattribute__" = some ("BaseException", "__getattribute__") := by decide +kernel
  have e3 : (Value.ref C :: bmV).contains (.type "BaseException") = true := by rw [List.contains_cons, F.excBase_ValueError.hasBase, Bool.or_true]
  have e4 := F.args_bexc_ga (.ref x) nameV
  simp only [checkBuiltinCall, e1, e2]
  refine wpAny_bind ?_
  unfold isInstance
  repeat (first | (with_reducible refine wpAny_loadPart_at hx ?_; rw [hc]) | (with_reducible refine wpAny_isSubtype_exc hC ?_; rw [e3]) | wp_step)
  exact hq
theorem xload_call {dx : Addr} {tk : Tok} {oe : Obj} {vs : Array Value} {mA : Str → Option Value} {R : Result → Shared → Prop} (FB : ExcAttrBase "ValueError" bmV) (hC : h.get? C = some (excClassObj nm q C N bs bmV true sn sub ab col dd k0 k1 k2 k3 k5 "ValueError.__new__")) (hn : h.Ns N mN)
    (hna : mN name = none) (hB : typeLookup (.type "ValueError") name = pure none) (hx : h.get? x = some oe) (hc : oe.cls = .ref C) (hd : oe.dict = some dx) (hv' : oe.data = .fields vs) (hA : h.Ns1 dx mA) (hv : mA name = some v)
    (hq : R (.ok (.ret v)) ⟨h, g, d, t, os⟩) : codeAny (model prog w) A (.call (.builtin "BaseException.__getattribute__") ⟨[.ref x, .str name tk], []⟩) R ⟨h, g, d, t, os⟩ :=
  codeAny_call_builtin FB.ga.plain F.entry_bexc_ga (xcheck_ga hC hx hc (xload_entry hC hn hna hB hx hc hd hv' hA hv hq))
theorem xload {dx : Addr} {oe : Obj} {vs : Array Value} {mA : Str → Option Value} {expr : Bool} {Q : Value → Shared → Prop} (hC : h.get? C = some (excClassObj nm q C N bs bmV true sn sub ab col dd k0 k1 k2 k3 k5 "ValueError.__new__")) (hn : h.Ns N mN)
    (hng : mN "__getattribute__" = none) (hnh : mN "__getattr__" = none) (hna : mN name = none) (hB : typeLookup (.type "ValueError") name = pure none) (hx : h.get? x = some oe) (hc : oe.cls = .ref C) (hd : oe.dict = some dx) (hv' : oe.data = .fields vs) (hA : h.Ns1 dx mA) (hv : mA name = some v)
    (hh : handedOut v = pure v) (hq : Q v ⟨h, g, d, t + 1, os⟩) : wpAny (model prog w) A (getAttr (.ref x) name expr) Q E ⟨h, g, d, t, os⟩ := by
  have FB := F.attrBase_ValueError
  have f3 := FB.ga.bind (.ref x)
  have hx0 : (expr && onTheHeap (Value.builtin "BaseException.__getattribute__")) = false := by cases expr <;> rfl
  have hx2 : (Value.builtin "BaseException.__getattribute__" == Value.builtin "object.__getattribute__") = false := by decide +kernel
  have hx1 : (onTheHeap (Value.ref C) && Value.builtin "BaseException.__getattribute__" == Value.builtin "object.__getattribute__") = false := by rw [hx2]; rfl
  unfold getAttr
  repeat (any_goals (first | assumption | (with_reducible refine wpAny_loadPart_at hx ?_; rw [hc]) | (with_reducible refine wpAny_typeLookup_exc hC hn FB.mro FB.ga.lookup ?_; rw [hng]) | (with_reducible refine wpAny_typeLookup_exc hC hn FB.mro FB.noGetattr ?_; rw [hnh]) | wp_step))
  refine xload_call FB hC hn hna hB hx hc hd hv' hA hv ?_
  show wpAny _ _ (handedOut v) _ _ _
  rw [hh]
  exact wpAny_pure hq
end
end Xc

end
section
set_option Elab.async false
set_option linter.all false
set_option maxRecDepth 100000
set_option maxHeartbeats 2000000
namespace L2
open PySem PySem.Spec PyProof.Rows
section
variable {P : Program} {w : World} {H : Hp} {h h' : Heap} {a : Addr} {o : HO} {fs ex : List Addr}
theorem ObjOk.there (x : ObjOk P w H h a o) : ∃ u, h.get? a = some u := by
  cases o with
  | lst xs => obtain ⟨_, _, _, _, e⟩ := x; exact ⟨_, e⟩
  | tup xs => obtain ⟨_, _, _, ob, e, _⟩ := x; exact ⟨_, e⟩
  | dK kvs => obtain ⟨_, _, _, _, o, _, _, e, _⟩ := x; exact ⟨_, e⟩
  | dT kvs => obtain ⟨_, _, _, _, o, _, _, e, _⟩ := x; exact ⟨_, e⟩
  | set S n => obtain ⟨o, _, _, _, e, _⟩ := x; exact ⟨_, e⟩
  | ins C dx fs => obtain ⟨_, _, _, e, _⟩ := x; exact ⟨_, e⟩
  | own y => obtain ⟨_, e⟩ := x; exact ⟨_, e⟩
  | xd fs => obtain ⟨_, ⟨_, _, _, e, _⟩, _⟩ := x; exact ⟨_, e⟩
  | rng lo hi => obtain ⟨_, _, _, e⟩ := x; exact ⟨_, e⟩
  | frz ob u => obtain ⟨e, _⟩ := x; exact ⟨_, e⟩
  | tbl ps => exact ⟨_, (show h.get? a = some _ from x)⟩
  | met f y => exact ⟨_, (show h.get? a = some _ from x)⟩
  | ext φ => obtain ⟨_, e, _⟩ := x; exact e
theorem HOk.freeN (x : HOk P w H h) (e : h.get? a = none) : H a = none := by
  cases q : H a with
  | none => rfl
  | some u =>
    obtain ⟨v, hv⟩ := (x a u q).there
    rw [e] at hv; cases hv
theorem Un.laidN (k : ∀ b u, h.get? b = some u → h'.get? b = some u) (hp : h.get? a = none) (hn : H a = none) : Un fs ex H (upd H a o) h h' where
  keep := fun b u q _ _ _ => k b u q
  slot := fun b u q _ _ _ => ⟨u.slots, k b u q⟩
  free := fun b u q n _ => by rw [upd_ne (fun z => by subst z; rw [hp] at q; cases q)]; exact n
  there := fun b u q _ => ⟨u, k b u q⟩
  tups := fun b xs q => by rw [upd_ne (ne_of_none q hn)]; exact q
  frzs := fun b u xs q => by rw [upd_ne (ne_of_none q hn)]; exact q
  tbls := fun b ps q => ⟨#[], by rw [upd_ne (ne_of_none q hn), q]; simp⟩
theorem HOk.laidN (x : HOk P w H h) (k : ∀ b u, h.get? b = some u → h'.get? b = some u) (hn : H a = none) (new : ObjOk P w (upd H a o) h' a o) : HOk P w (upd H a o) h' := fun b u e => by
  by_cases hb : b = a
  · subst hb; rw [upd_same] at e; cases e; exact new
  · rw [upd_ne hb] at e
    exact (x b u e).stay (fun c v _ q => k c v q) (fun c q => by rw [upd_ne (ne_of_none q hn)]; exact q) fun c xs q => by rw [upd_ne (ne_of_none q hn)]; exact q
theorem upd_id {H : Hp} {a : Addr} {o : HO} (e : H a = some o) : upd H a o = H := by
  funext b; unfold upd; split
  · rename_i q; subst q; exact e.symm
  · rfl
end
theorem Inv.laidN {X : Cx} {pins : List (Addr × Obj)} {σ : St} {H : Hp} {s : Shared} {h' : Heap} {a : Addr} {o : HO} {t' : Nat} (I : Inv X pins σ H s) (k : ∀ b u, s.heap.get? b = some u → h'.get? b = some u) (hp : s.heap.get? a = none)
    (new : ObjOk X.prog X.w (upd H a o) h' a o) : Inv X pins σ (upd H a o) { s with heap := h', toks := t' } := I.un (Un.laidN k hp (I.hok.freeN hp)) (I.hok.laidN k (I.hok.freeN hp) new)

noncomputable def xnP (x C : Addr) (d : Option Addr) : Heap → Prop := fun h => ∃ a0, h.get? x = some (Xc.xobj C d a0)
noncomputable def xoP (x C d : Addr) : Heap → Prop := fun h => ∃ oe vs, h.get? x = some oe ∧ oe.cls = .ref C ∧ oe.dict = some d ∧ oe.data = .fields vs
noncomputable abbrev xn (x C : Addr) (d : Option Addr) : HO := .ext (xnP x C d)
noncomputable abbrev xo (x C d : Addr) : HO := .ext (xoP x C d)
section
variable {P : Program} {w : World} {H : Hp} {h : Heap} {x C a0 d : Addr} {dd : Option Addr}
theorem xn_ok (e : h.get? x = some (Xc.xobj C dd a0)) : ObjOk P w H h x (xn x C dd) := ⟨⟨a0, e⟩, ⟨_, e⟩, fun _ _ ⟨a, q⟩ k => ⟨a, k _ q⟩⟩
theorem xo_ok {oe : Obj} {vs : Array Value} (e : h.get? x = some oe) (e1 : oe.cls = .ref C) (e2 : oe.dict = some d) (e3 : oe.data = .fields vs) : ObjOk P w H h x (xo x C d) :=
  ⟨⟨oe, vs, e, e1, e2, e3⟩, ⟨_, e⟩, fun _ _ ⟨oe, vs, q, r⟩ k => ⟨oe, vs, k _ q, r⟩⟩
theorem xn_get (hok : HOk P w H h) (e : H x = some (xn x C dd)) : ∃ a0, h.get? x = some (Xc.xobj C dd a0) := (show ObjOk P w H h x (xn x C dd) from hok x _ e).1
theorem xo_get (hok : HOk P w H h) (e : H x = some (xo x C d)) : ∃ oe vs, h.get? x = some oe ∧ oe.cls = .ref C ∧ oe.dict = some d ∧ oe.data = .fields vs := (show ObjOk P w H h x (xo x C d) from hok x _ e).1
end
noncomputable def HdOk (h : Heap) (x : Addr) : Prop := ∃ oe vs hd, h.get? x = some oe ∧ oe.data = .fields vs ∧ vs[1]? = some hd ∧ Xc.HeadOk h x hd
theorem Obj.dict_map {o : Obj} {vs : Array Value} (hd : o.data = .fields vs) (f : Array Value → Array Value) : (o.mapFields f).dict = o.dict := by
  obtain ⟨c, d, dt, sl⟩ := o
  obtain rfl : dt = .fields vs := hd
  rfl

section
variable {X : Cx} {pins : List (Addr × Obj)} {σ : St} {H : Hp} {s : Shared} {x C d : Addr} {E : Value → Shared → Prop} {A : Around} {M : Model}
theorem xfly {Q : Unit → Shared → Prop} (I : Inv X pins σ H s) (hfr : A.frames = some X.stack) (hst : X.stack = X.env :: X.outer) (hf : X.env.frame = some X.env.locals) (hx : H x = some (xo x C d)) (hh : HdOk s.heap x)
    (hQ : ∀ h', Inv X pins σ H { s with heap := h' } → HdOk h' x → Q () { s with heap := h' }) :
    wpAny M A (noteFrame (.ref x) X.env) (fun _ s1 => wpAny M A (setFlight (.ref x) none) Q E s1) E s := by
  obtain ⟨oe, vs, hd, he, hdat, h1, hhd⟩ := hh
  obtain ⟨oe', vs', he', hc, hdi, hdat'⟩ := xo_get I.hok hx
  rw [he] at he'; cases he'
  have hz : 1 < vs.size := (Array.getElem?_eq_some_iff.mp h1).1
  have stk := I.stack
  rw [hst] at stk
  refine Xc.xnote (base := X.base) (hfr.trans (congrArg some hst)) stk hf he hdat h1 hhd fun h' T' oT ts nT ne sz hx' hT hTd hT3 keep slot there => ?_
  have hd2 := Obj.data_mapFields hdat (·.setIfInBounds 1 (Value.ref T'))
  refine Xc.xland hx' hd2 (by simp [hz]) hT hTd hT3 fun h'' oT' ts' hT' hTd' h3' keep' => ?_
  have nold : ∀ b o, s.heap.get? b = some o → b ≠ T' := fun b o e z => by rw [z, nT] at e; cases e
  have hxx := (keep' x (Ne.symm ne)).trans hx'
  have kp : ∀ b o, b ≠ x → b ∉ frs (X.env :: X.outer) → s.heap.get? b = some o → h''.get? b = some o := fun b o n1 n2 e => (keep' b (nold b o e)).trans (keep b o n1 n2 e)
  have sl : ∀ b o, b ∈ frs (X.env :: X.outer) → s.heap.get? b = some o → ∃ sl, h''.get? b = some { o with slots := sl } := fun b o hb e => by
    obtain ⟨q, hq⟩ := slot b o hb e
    exact ⟨q, (keep' b (nold b o e)).trans hq⟩
  have nfr : ∀ b o, H b = some o → b ∉ frs (X.env :: X.outer) := fun b o e z => by
    have := I.stkFree b (by rw [hst]; exact z)
    rw [e] at this; cases this
  have hok' : HOk X.prog X.w H h'' := fun b u e => by
    by_cases hb : b = x
    · subst hb
      rw [hx] at e; cases e
      exact xo_ok hxx ((Obj.cls_mapFields _ _).trans hc) ((Obj.dict_map hdat _).trans hdi) hd2
    · refine (I.hok b u e).stay (fun c v hcc q => kp c v ?_ ?_ q) (fun _ q => q) fun _ _ q => q
      · rcases hcc with z | z
        · rw [z]; exact hb
        · intro y; subst y; rw [hx] at z; cases z
      · rcases hcc with z | z
        · rw [z]; exact nfr b u e
        · exact nfr c _ z
  have un : Un (frs X.stack) [] H H s.heap h'' := by
    rw [hst]
    refine ⟨fun b o q n hb _ => kp b o (fun z => by subst z; rw [hx] at n; cases n) hb q, fun b o q n hb _ => sl b o hb q, fun _ _ _ n _ => n, fun b o q _ => ?_, fun _ _ q => q, fun _ _ _ q => q, fun _ ps q => ⟨#[], by rw [q]; simp⟩⟩
    obtain ⟨o', ho'⟩ := there b o q
    exact ⟨o', (keep' b (nold b o q)).trans ho'⟩
  exact hQ h'' (I.call (g' := s.gens) (t' := s.toks) (d' := s.drawn) (ch := []) un hok' I.bare (fun b z => absurd z (by simp))) ⟨_, _, _, hxx, hd2, by simp [hz], .inr ⟨T', oT', ts', rfl, ne, hT', hTd', h3'⟩⟩
end

noncomputable def CXx (P : Program) (w : World) : CXT := fun outer H s E e s' => ∃ x C d H', e = Value.ref x ∧ s.heap.get? x = none ∧ s'.os = s.os ∧ AllBare s'.gens ∧ Un (frs outer) [] H H' s.heap s'.heap ∧ HOk P w H' s'.heap ∧
  H' x = some (xo x C d) ∧ HdOk s'.heap x ∧ E (.ref C) (some d) H'
noncomputable def Flies (X : Cx) (E : XK) : Prop := ∀ (pins : List (Addr × Obj)) (σ : St) (H : Hp) (s : Shared) (x C d : Addr), Inv X pins σ H s → H x = some (xo x C d) → X.s_0.heap.get? x = none → HdOk s.heap x → E (.ref C) (some d) H → X.xe (.ref x) s
theorem new_old {X : Cx} {pins : List (Addr × Obj)} {σ : St} {H : Hp} {s : Shared} {x : Addr} (I : Inv X pins σ H s) (hex : X.ex = []) (e : s.heap.get? x = none) : X.s_0.heap.get? x = none := by
  cases q : X.s_0.heap.get? x with
  | none => rfl
  | some o =>
    obtain ⟨o', z⟩ := I.base.there x o q (by rw [hex]; simp)
    rw [e] at z; cases z
theorem passX {X : Cx} {E : XK} (hex : X.ex = []) (h : Flies X E) : Passes (CXx X.prog X.w) X E := by
  rintro pins σ H s e s' I ⟨x, C, d, H', rfl, nx, os, bare, un, hok, hx, hh, hE⟩
  exact h pins σ H' s' x C d (I.call' os un hok bare (ch := []) (fun b z => absurd z (by simp))) hx (new_old I hex nx) hh hE
theorem passN {P : Program} {w : World} {X : Cx} : Passes (CXx P w) X E0 := by
  rintro pins σ H s e s' I ⟨x, C, d, H', rfl, nx, os, bare, un, hok, hx, hh, hE⟩
  exact hE.elim
theorem flies {P : Program} {w : World} {K : PySem.W.Frag} {mg : Str → Option Value} {base : Heap} {N : List Str} {qual : Str} {scope : Scope} {f : Addr} {cd : Value} {A : Around} {outer : List Env} {s : Shared} {H : Hp} {E : XK} :
    Flies (cxOf (CXx P w) P w K mg base N qual scope f cd A outer s H E) E := by
  intro pins σ H' s' x C d I hx nx hh hE
  show wpAny _ _ (leaving _ _) _ _ _
  unfold leaving
  refine wpAny_bind (xfly I I.ok.frames rfl rfl hx hh fun h'' I' hh' => ?_)
  exact ⟨x, C, d, H', rfl, nx, I'.os, I'.bare, I'.base, I'.hok, hx, hh', hE⟩
theorem Fun.okX {P : Program} {w : World} {K : PySem.W.Frag} {mg : Str → Option Value} {base : Heap} {x qual : Str} {st : Stmt} {f : Addr} {fd : FuncData} {N ps : List Str} {k : Nat} {sp : Sp} (F : Fun K x qual st f fd) (S : FnScope N ps (defScope st)) (len : ∀ vs H Q E, sp vs H Q E → vs.length = ps.length)
    (hbody : ∀ (cdv : Value) (A : Around) (outer : List Env) (s : Shared) (H : Hp) (vs : List V) (Q : VK) (E : XK), Room k (A.deeper (envOfC qual (defScope st) s.heap.objs.size f cdv)) → sp vs H Q E →
      ∃ t, PSs (cxOf (CXx P w) P w K mg base N qual (defScope st) f cdv A outer s H E) (defBody st) t ∧ t { nx := fun _ H' => Q .non H', rt := Q } (start N vs) H) : FnOk P w K mg base (CXx P w) (k + 1) f fd ps sp := by
  obtain ⟨oc, od, kV, doc, pm, an, cdv, ct, osl, rfl, lk, hcd⟩ := F.ex
  exact fn_of lk hcd S len fun A outer s H vs Q E hr hsp => hbody cdv A outer s H vs Q E hr hsp

structure XCls (K : PySem.W.Frag) (C N fI : Addr) : Prop where
  obj : ∃ nm q bs sn sub ab col dd k0 k1 k2 k3 k5, K.lookup C = some (excClassObj nm q C N bs Xc.bmV true sn sub ab col dd k0 k1 k2 k3 k5 "ValueError.__new__")
  ns : PySem.W.nsOkIn K N = true
  init : PySem.W.nsIn K N "__init__" = some (some (.ref fI))
  nsa : PySem.W.nsIn K N "__setattr__" = some none
  nga : PySem.W.nsIn K N "__getattribute__" = some none
  nge : PySem.W.nsIn K N "__getattr__" = some none
  fn : PySem.W.isFn K (.ref fI) = true
  kp : PySem.W.keepIn K (.ref C) = true
theorem ns_some_of {K : PySem.W.Frag} {h : Heap} {N : Addr} {mg : Str → Option Value} {n : Str} {v : Value} (X : K.In h) (G : h.Ns N mg) (e : PySem.W.nsIn K N n = some (some v)) : mg n = some v := by
  obtain ⟨o, es, ep, ho, hd, _, hf⟩ := G
  unfold PySem.W.nsIn at e
  split at e
  · rename_i c d es' n' sl q
    have := X _ _ q
    rw [ho] at this
    cases this
    cases hd
    split at e
    · rename_i en he
      cases e
      rw [← hf]
      unfold nsFind findBy
      rw [← Array.find?_toList, he]
      rfl
    · split at e <;> cases e
  · cases e
theorem XCls.at {K : PySem.W.Frag} {C N fI : Addr} (c : XCls K C N fI) {h : Heap} (X : K.In h) : h.Ns N (h.nsMap N) := .of_isNs (PySem.W.isNs_of_in X c.ns)
theorem XCls.no {K : PySem.W.Frag} {C N fI : Addr} (c : XCls K C N fI) {h : Heap} (X : K.In h) {n : Str} (e : PySem.W.nsIn K N n = some none) : h.nsMap N n = none := PySem.W.nsMap_none_of_in X c.ns e

noncomputable def tRaise (C : Addr) (sp : Sp) (E : XK) (t : TA) : TS := fun _ σ H => t σ H fun vs H1 => vs.length ≤ 1000 ∧ ∀ x, H1 x = none → sp (.ref x :: vs) (upd H1 x (xn x C none)) (fun v H2 => v = .non ∧ ∃ d, H2 x = some (xn x C (some d)) ∧ E (.ref C) (some d) (upd H2 x (xo x C d))) E0
section
variable {X : Cx} {C N fI : Addr} {k : Nat} {fd : FuncData} {ps : List Str} {sp : Sp} {E : XK} {e : Expr} {es : List Expr} {t : TA} {x : Str} {p cpos pos : Pos}
theorem ps_raise (c : XCls X.K C N fI) (F : FnOk X.prog X.w X.K X.mg X.base (CXx X.prog X.w) k fI fd ps sp) (hr : Room (k + 1) X.A) (hg : Gl X x) (hm : X.mg x = some (.ref C)) (hb : Binds X.K fd ps []) (hcalm : X.calm = true) (hex : X.ex = []) (hfl : Flies X E)
    (ha : PA X (e :: es) t) (hdb : (x == ("__debug__" : Str)) = false := by decide) (he : starEach (e :: es) X.env = (false, eval e X.env) :: starEach es X.env := by rfl) (hpl : (backTo cpos (starEach es X.env)).any (·.1) = false := by rfl) :
    PS X (.Raise (some (.Call (.Name x p) (e :: es) [] cpos)) none pos) (tRaise C sp E t) := by
  intro pins s σ H D I h
  rw [arm_exec_Raise]
  refine wpAny_bind (wpAny_standAt ?_)
  show wpAny _ _ (raiseStmt X.env (some (do let v ← eval (.Call (.Name x p) (e :: es) [] cpos) X.env; standAt pos; pure v)) none) _ _ s
  refine Xc.xraise (I.ok.hd hcalm) (wpAny_bind ?_)
  refine wpAny_Call_Name_kw (ld_glob I hg hm ?_ hdb)
  refine PySem.W.callWith_K (h₀ := X.base) I.ok.mod.kin c.kp (thn (ha cpos pins s σ H _ I h) fun us s1 ⟨vs, H1, I1, r, hz, q⟩ => ⟨I1.kIn, ?_⟩) he hpl
  obtain ⟨h1, g1, d1, t1, os1⟩ := s1
  obtain ⟨nm, qn, bs, sn, sub, ab, col, dd, k0, k1, k2, k3, k5, hC⟩ := c.obj
  have KX : X.K.In h1 := I1.kIn
  have hn := c.at KX
  have hi := ns_some_of KX hn c.init
  obtain ⟨oI, hoI, hcI⟩ : ∃ oI, X.K.lookup fI = some oI ∧ oI.cls = .type "function" := by
    have z := beq_iff_eq.mp (show (PySem.W.typeIn X.K (.ref fI) == some (.type "function")) = true from c.fn)
    obtain ⟨o, ho, hc⟩ := Option.map_eq_some_iff.mp (show (X.K.lookup fI).map (·.cls) = some (.type "function") from z)
    exact ⟨o, ho, hc⟩
  refine wpAny_call_exc_init (F := PySem.F.excBase_ValueError) (KX _ _ hC) hn hi (KX _ _ hoI) hcI (fun h' y hmade => ?_) (by rw [List.nil_append, ← r.length, sizeLine_eq]; omega)
  obtain ⟨tt, hy, _, _⟩ := hmade.there
  have I2 : Inv X pins σ (upd H1 y (xn y C none)) ⟨h', g1, d1, t1, os1⟩ := I1.laidN (t' := t1) hmade.keeps hmade.new (xn_ok (a0 := tt) hy)
  have hq := q y (I1.hok.freeN hmade.new)
  have r2 : Vals (V.ref y :: vs) (Value.ref y :: us) := .cons rfl r
  have hl : (Value.ref y :: us ++ []).length = ps.length := by
    rw [List.append_nil, ← r2.length]; exact F.len _ _ _ _ hq
  have hbd := hb ⟨h', g1, d1, t1, os1⟩ (Value.ref y :: us) I2.kIn hl
  rw [List.append_nil] at hbd
  refine wpAny_call (codeAny_mono (F.run _ X.stack _ _ ⟨Value.ref y :: us, []⟩ (Value.ref y :: us) _ _ E0 (hr.make C us []) (I2.env0.make C us []) hbd r2 hq) fun rr s' hq' => ?_)
  cases rr with
  | error e =>
    obtain ⟨_, _, _, _, _, _, _, _, _, _, _, _, z⟩ := hq'
    exact z.elim
  | ok fl =>
    cases fl with
    | next => exact False.elim hq'
    | brk => exact False.elim hq'
    | cont => exact False.elim hq'
    | ret u =>
      obtain ⟨v, H', I3, rv, ev, d, hx2, hE⟩ := I2.after hq'
      subst ev
      refine ⟨rv, wpAny_bind (wpAny_standAt (wpAny_pure ?_))⟩
      obtain ⟨a0, hy3⟩ := xn_get I3.hok hx2
      refine ⟨y, nm, qn, C, N, bs, sn, sub, ab, col, dd, k0, k1, k2, k3, k5, some d, a0, rfl, I3.kIn _ _ hC, hy3, ?_⟩
      have I4 : Inv X pins σ (upd H' y (xo y C d)) s' := I3.write (h' := s'.heap) (t' := s'.toks) (by rw [hx2]; exact True.intro) (.inl rfl) (fun b u _ q => q) ⟨_, hy3⟩ (xo_ok hy3 rfl rfl rfl)
      exact hfl pins σ _ s' y C d I4 upd_same (new_old I1 hex hmade.new) ⟨_, _, _, hy3, rfl, rfl, .inl rfl⟩ hE
end

noncomputable def tXInit (K : PySem.W.Frag) (t : TA) : TE := fun σ H Q => t σ H fun vs H1 => ∃ x C N fI d rest, vs = .ref x :: rest ∧ rest.length ≤ 1000 ∧ H1 x = some (xn x C d) ∧ XCls K C N fI ∧ Q .non H1
noncomputable def sXFld (K : PySem.W.Frag) (ta tv : TE) (f : Str) : TS := fun D σ H => tv σ H fun y H1 => ta σ H1 fun o H2 => ∃ x C N fI, o = .ref x ∧ H2 x = some (xn x C none) ∧ XCls K C N fI ∧ PySem.W.nsIn K N f = some none ∧
  ∀ d, H2 d = none → D.nx σ (upd (upd H2 x (xn x C (some d))) d (.xd [(f, y)]))
noncomputable def tXGet (K : PySem.W.Frag) (ta : TE) (f : Str) : TE := fun σ H Q => ta σ H fun o H1 => ∃ x C N fI d fs v, o = .ref x ∧ H1 x = some (xo x C d) ∧ XCls K C N fI ∧ PySem.W.nsIn K N f = some none ∧ H1 d = some (.xd fs) ∧ fs.lookup f = some v ∧ Q v H1
section
variable {X : Cx} {o e value : Expr} {f : Str} {pos pos' : Pos} {ta tv : TE}
theorem pe_xget (he : PE X e ta) (hB : typeLookup (.type "ValueError") f = pure none) (hb : attributeBase e f X.env (eval e X.env) = eval e X.env) : PE X (.Attribute e f pos) (tXGet X.K ta f) := by
  intro pins s σ H Q I h
  refine attr_of hb (thn (he pins s σ H _ I h) fun u s1 ⟨o, H1, I1, rx, x, C, N, fI, d, fs, v, eo, ex, c, nf, ed, l, q⟩ => ?_)
  subst eo
  obtain rfl : u = Value.ref x := rx
  obtain ⟨oe, vs, e1, e2, e3, e4⟩ := xo_get I1.hok ex
  obtain ⟨mA, hA, rA⟩ := (show ObjOk X.prog X.w H1 s1.heap d (.xd fs) from I1.hok d _ ed)
  obtain ⟨w', hw, rw'⟩ := RelO.some_of (v := v) (o := mA f) (by rw [← l]; exact rA f)
  obtain ⟨nm, qn, bs, sn, sub, ab, col, dd, k0, k1, k2, k3, k5, hC⟩ := c.obj
  obtain ⟨h1, g1, d1, t1, os1⟩ := s1
  have KX : X.K.In h1 := I1.kIn
  exact Xc.xload (KX _ _ hC) (c.at KX) (c.no KX c.nga) (c.no KX c.nge) (c.no KX nf) hB e1 e2 e3 e4 hA hw (PySem.W.handedOut_of (handed_of rw')) ⟨v, H1, I1.tok _, rw', q⟩
theorem ps_xfld (ha : PE X o ta) (hv : PE X value tv) (hB : typeLookup (.type "ValueError") f = pure none) (hs : swapsWith value (some (.Attribute o f pos')) pos.line X.env = pure false) : PS X (.Assign [.Attribute o f pos'] value pos) (sXFld X.K ta tv f) := by
  intro pins s σ H D I h
  refine plainObj_wpAny_Assign_Attribute (thn (hv pins s σ H _ I h) fun u s1 ⟨y, H1, I1, ry, q⟩ => thn (ha pins s1 σ H1 _ I1 q) fun ov s2 ⟨o, H2, I2, rx, x, C, N, fI, eo, ex, c, nf, q2⟩ => ?_) hs
  subst eo
  obtain rfl : ov = Value.ref x := rx
  obtain ⟨a0, hx⟩ := xn_get I2.hok ex
  obtain ⟨nm, qn, bs, sn, sub, ab, col, dd, k0, k1, k2, k3, k5, hC⟩ := c.obj
  obtain ⟨h1, g1, d1, t1, os1⟩ := s2
  have KX : X.K.In h1 := I2.kIn
  refine Xc.xstore (KX _ _ hC) (c.at KX) (c.no KX c.nsa) (c.no KX nf) hB hx fun h' tk' dx sz ne hx' hns keep => ?_
  have nd : H2 dx = none := I2.hok.fresh sz
  have old : ∀ b o, h1.get? b = some o → b ≠ dx := fun b o e z => absurd (Heap.lt_size e) (by rw [z]; exact Nat.not_lt.mpr sz)
  have xd : x ≠ dx := Ne.symm ne
  have hx2 : ∀ b, H2 b = none → b ≠ x := fun b n z => by rw [z, ex] at n; cases n
  have un : Un X.fs [] H2 (upd (upd H2 x (xn x C (some dx))) dx (.xd [(f, y)])) h1 h' := by
    refine ⟨fun b o e n _ _ => keep b o (hx2 b n) e, fun b o e n _ _ => ⟨o.slots, keep b o (hx2 b n) e⟩, fun b o e n _ => by rw [upd_ne (old b o e), upd_ne (hx2 b n)]; exact n, fun b o e _ => ?_, fun b xs e => ?_, fun b o u e => ?_, fun b ps e => ⟨#[], ?_⟩⟩
    · by_cases z : b = x
      · subst z; exact ⟨_, hx'⟩
      · exact ⟨o, keep b o z e⟩
    · rw [upd_ne (ne_of_none e nd), upd_ne (fun z => by rw [z, ex] at e; cases e)]; exact e
    · rw [upd_ne (ne_of_none e nd), upd_ne (fun z => by rw [z, ex] at e; cases e)]; exact e
    · rw [upd_ne (ne_of_none e nd), upd_ne (fun z => by rw [z, ex] at e; cases e), e]; simp
  have hok : HOk X.prog X.w (upd (upd H2 x (xn x C (some dx))) dx (.xd [(f, y)])) h' := fun b u e => by
    by_cases z : b = dx
    · subst z
      rw [upd_same] at e; cases e
      refine ⟨_, hns, fun g => ?_⟩
      by_cases q : g = f
      · subst q
        show RelO (List.lookup g [(g, y)]) (if g = g then some u else none)
        rw [if_pos rfl]
        simp only [List.lookup, beq_self_eq_true]
        exact ry
      · rw [if_neg q]
        have hb : (g == f) = false := beq_eq_false_iff_ne.mpr q
        simp only [List.lookup, hb]
        exact True.intro
    · rw [upd_ne z] at e
      by_cases z2 : b = x
      · subst z2
        rw [upd_same] at e; cases e
        exact xn_ok hx'
      · rw [upd_ne z2] at e
        refine (I2.hok b u e).stay (fun b' v hb q => keep b' v ?_ q) (fun b' q => ?_) fun b' xs q => ?_
        · rcases hb with y1 | y1
          · rw [y1]; exact z2
          · intro y2; rw [y2, ex] at y1; cases y1
        · rw [upd_ne (ne_of_none q nd), upd_ne (fun y2 => by rw [y2, ex] at q; cases q)]; exact q
        · rw [upd_ne (ne_of_none q nd), upd_ne (fun y2 => by rw [y2, ex] at q; cases q)]; exact q
  exact ⟨σ, _, I2.un (t' := tk') un hok, q2 dx nd⟩
end
end L2

namespace L2
open PySem PySem.Spec PyProof.Rows
theorem boot_VE : bootBuiltins "ValueError" = some (.type "ValueError") := by first | rfl | decide +kernel
theorem find_VEI (K : PySem.W.Frag) : PySem.W.findCls K (.type "ValueError") (.type "type") "__init__" = some (.val (.builtin "ValueError.__init__")) := by first | rfl | kernel_rfl
theorem type_VE : typeOf (.type "ValueError") = pure (.type "type") := by first | rfl | kernel_rfl
section
variable {X : Cx} {e : Expr} {es : List Expr} {p apos pos : Pos} {t : TA}
theorem pe_xinit {pl : Sem Bool} (hg : Gl X "ValueError") (hm : X.mg "ValueError" = none) (ha : PA X (e :: es) t) (he : starEach (e :: es) X.env = (false, eval e X.env) :: starEach es X.env := by rfl) (hpl : (backTo pos (starEach es X.env)).any (·.1) = false := by rfl)
    (ht : eval (.Call (.Attribute (.Name "ValueError" p) "__init__" apos) (e :: es) [] pos) X.env = (do
      let ov ← eval (.Name "ValueError" p) X.env
      standAt apos.atName
      let (f, first) ← holding [ov] (getMethod ov "__init__" pl)
      callWith pos f first (backTo pos (starEach (e :: es) X.env)) (backToKw pos (keywordEach [] X.env))) := by rfl) :
    PE X (.Call (.Attribute (.Name "ValueError" p) "__init__" apos) (e :: es) [] pos) (tXInit X.K t) := by
  intro pins s σ H Q I h
  refine PySem.W.methodCall_KW (pl := pl) (ld_blt I hg hm boot_VE ?_) ht
  obtain ⟨m, F⟩ := I.fr
  refine PySem.W.method_type F I.mod.kin type_VE (by decide +kernel) (find_VEI X.K) rfl ?_
  refine PyProof.Rows.callWith_builtin1 (thn (ha pos pins _ σ H _ (I.tok _) h) fun us s1 ⟨vs, H1, I1, r, x, C, N, fI, d, rest, ev, hz, hx, c, q⟩ => ?_) he hpl
  subst ev
  cases r with
  | @cons _ u _ us' r1 r2 =>
    obtain rfl : u = Value.ref x := r1
    obtain ⟨a0, hx0⟩ := xn_get I1.hok hx
    obtain ⟨nm, qn, bs, sn, sub, ab, col, dd, k0, k1, k2, k3, k5, hC⟩ := c.obj
    obtain ⟨h1, g1, d1, t1, os1⟩ := s1
    have KX : X.K.In h1 := I1.kIn
    refine Xc.xinit (KX _ _ hC) hx0 (by rw [← r2.length, sizeLine_eq]; omega) fun h' a1 hx' keep => ?_
    have I2 : Inv X pins σ (upd H1 x (xn x C d)) ⟨h', g1, d1, t1, os1⟩ := I1.write (h' := h') (t' := t1) (by rw [hx]; exact True.intro) (.inl rfl) keep ⟨_, hx'⟩ (xn_ok hx')
    rw [upd_id hx] at I2
    exact ⟨.non, H1, I2, rfl, q⟩
end

noncomputable abbrev Cx.hand (X : Cx) (x : Addr) : Cx := { X with A := X.A.mark (some (.ref x)), calm := false, xe := fun _ _ => False }
noncomputable abbrev Cx.tr (X : Cx) (pins : List (Addr × Obj)) (E : Value → Shared → Prop) : Cx := { X with pn := X.pn ++ pins, xe := E }
section
variable {X : Cx} {pins pins' : List (Addr × Obj)} {σ : St} {H : Hp} {s : Shared} {x : Addr} {E : Value → Shared → Prop}
theorem Inv.hand (I : Inv X pins σ H s) (x : Addr) : Inv (X.hand x) pins σ H s :=
  ⟨⟨I.ok.mod, I.ok.kind, I.ok.glob, I.ok.blt, I.ok.above, I.ok.inj, I.ok.has, I.ok.cab, fun z => Bool.noConfusion z, I.ok.frames, I.ok.stk, I.ok.exf, I.ok.bs, I.ok.bsz, I.ok.noex, I.ok.exfs, I.ok.funs, I.ok.frf⟩, I.os, I.bare, I.base, I.loc, I.cell, I.free, I.freeC, I.pin, I.hok, I.len⟩
theorem Inv.unhand (ok : X.Ok) (I : Inv (X.hand x) pins σ H s) : Inv X pins σ H s := ⟨ok, I.os, I.bare, I.base, I.loc, I.cell, I.free, I.freeC, I.pin, I.hok, I.len⟩
theorem Inv.tr (I : Inv X pins σ H s) (E : Value → Shared → Prop) : Inv (X.tr pins E) [] σ H s :=
  ⟨⟨I.ok.mod, I.ok.kind, I.ok.glob, I.ok.blt, I.ok.above, I.ok.inj, I.ok.has, I.ok.cab, I.ok.hd, I.ok.frames, I.ok.stk, I.ok.exf, I.ok.bs, I.ok.bsz, I.ok.noex, I.ok.exfs, I.ok.funs, I.ok.frf⟩, I.os, I.bare, I.base, I.loc, I.cell, I.free, I.freeC,
    fun p hp => I.pin p (by rw [List.append_nil] at hp; exact hp), I.hok, I.len⟩
theorem Inv.untr (I : Inv (X.tr pins E) pins' σ H s) : Inv X pins σ H s :=
  ⟨⟨I.ok.mod, I.ok.kind, I.ok.glob, I.ok.blt, I.ok.above, I.ok.inj, I.ok.has, I.ok.cab, I.ok.hd, I.ok.frames, I.ok.stk, I.ok.exf, I.ok.bs, I.ok.bsz, I.ok.noex, I.ok.exfs, I.ok.funs, I.ok.frf⟩, I.os, I.bare, I.base, I.loc, I.cell, I.free, I.freeC,
    fun p hp => I.pin p (List.mem_append_left _ hp), I.hok, I.len⟩
theorem SP.untr {D : Ends} {f : Flow} {s' : Shared} (h : SP (X.tr pins E) pins' D f s') : SP X pins D f s' := by
  cases f with
  | next => obtain ⟨σ', H', I, q⟩ := h; exact ⟨σ', H', I.untr, q⟩
  | brk => obtain ⟨σ', H', I, q⟩ := h; exact ⟨σ', H', I.untr, q⟩
  | cont => obtain ⟨σ', H', I, q⟩ := h; exact ⟨σ', H', I.untr, q⟩
  | ret u => obtain ⟨v, σ', H', I, r, q⟩ := h; exact ⟨v, σ', H', I.untr, r, q⟩
theorem none_at {n i : Nat} {v : V} (h : (List.replicate n (none : Option V))[i]? = some (some v)) : False := by
  rw [List.getElem?_replicate] at h
  split at h <;> cases h
theorem Inv.blank (I : Inv X pins σ H s) : Inv X pins (List.replicate X.N.length none) H s :=
  I.weak (by rw [List.length_replicate, I.len]) fun i v h => (none_at h).elim
theorem Inv.lost {h' : Heap} {m' : Str → Option Value} {t' : Nat} (I : Inv X pins σ H s) (hn' : h'.Ns X.env.locals m') (hs : Heap.SameBut X.env.locals s.heap h') : Inv X pins (List.replicate X.N.length none) H { s with heap := h', toks := t' } := by
  obtain ⟨m, hn, _⟩ := id I.loc
  have cne := I.cne
  refine ⟨I.ok, I.os, I.bare, ⟨fun b o e n hb hx => ?_, fun b o e n hb hx => ?_, I.base.free, fun b o e hx => ?_, I.base.tups, I.base.frzs, I.base.tbls⟩, ⟨_, hn', fun j y v' e1 e2 e3 => (none_at e2).elim⟩, fun y c e => ?_, I.free, I.freeC, fun p hp => ?_, fun b ob e => ?_, by rw [List.length_replicate]⟩
  · exact (hs.2 b (Nat.ne_of_lt (Nat.lt_of_lt_of_le (Heap.lt_size e) I.ok.above))).trans (I.base.keep b o e n hb hx)
  · obtain ⟨sl, e1⟩ := I.base.slot b o e n hb hx
    exact ⟨sl, (hs.2 b (Nat.ne_of_lt (Nat.lt_of_lt_of_le (Heap.lt_size e) I.ok.above))).trans e1⟩
  · obtain ⟨o', e1⟩ := I.base.there b o e hx
    exact ⟨o', (hs.2 b (Nat.ne_of_lt (Nat.lt_of_lt_of_le (Heap.lt_size e) I.ok.above))).trans e1⟩
  · obtain ⟨w', z⟩ := I.cell y c e
    exact ⟨w', z.sameBut hs (cne y c e)⟩
  · obtain ⟨e, n, ne, nf, d⟩ := I.pin p hp
    exact ⟨(hs.2 p.1 ne).trans e, n, ne, nf, d⟩
  · refine (I.hok b ob e).stay (fun c w' hc q => (hs.2 c ?_).trans q) (fun _ q => q) fun _ _ q => q
    rintro rfl
    rcases hc with hc | hc
    · rw [← hc, I.free] at e; cases e
    · rw [I.free] at hc; cases hc
end
noncomputable def ETry (C : Addr) (i n : Nat) (ts : TS) (D : Ends) : XK := fun cls d H' => cls = .ref C ∧ ∃ dx, d = some dx ∧ ∀ x, H' x = some (xo x C dx) → ts { nx := fun _ _ => False, rt := D.rt } ((List.replicate n none).set i (some (.ref x))) H'
noncomputable def XT (X : Cx) (pins : List (Addr × Obj)) (D : Ends) (hs : List ExceptHandler) : Value → Shared → Prop := fun e s1 => wpAny (model X.prog X.w) X.A (noteFrame e X.env) (fun _ s2 => wpAny (model X.prog X.w) X.A (setFlight e none)
  (fun _ s3 => wpAny (model X.prog X.w) X.A (handleBy e X.env hs) (SP X pins D) X.xe s3) X.xe s2) X.xe s1
section
variable {X : Cx} {C N fI : Addr} {cn n : Str} {i : Nat} {b0 : Stmt} {suite body : List Stmt} {ts : TS} {tb : Ends → TS} {p hpos pos : Pos}
theorem xrest {M : Model} {A : Around} {E : Value → Shared → Prop} {s : Shared} {x : Addr} {Q : Unit → Shared → Prop} (hh : HdOk s.heap x) (h : Q () s) : wpAny M A (setFlight (.ref x) none) Q E s := by
  obtain ⟨oe, vs, hd, he, hdat, h1, hhd⟩ := hh
  unfold setFlight
  refine wpAny_bind (wpAny_field he hdat h1 ?_)
  rcases hhd with rfl | ⟨T, oT, ts, rfl, hTx, hT, hTd, hT3⟩
  · rw [if_neg (by decide)]
    exact wpAny_pure h
  · rw [if_pos (show (Value.ref T != Value.none) = true from by simp)]
    refine wpAny_setField hT hTd (Array.getElem?_eq_some_iff.mp hT3).1 ?_
    show Q () { s with heap := s.heap.update T (Obj.mapFields (·.setIfInBounds 3 Value.none)) }
    rw [Heap.update_setField_same s.heap T oT ts 3 Value.none hT hTd hT3]
    exact h
theorem flies_try {pins : List (Addr × Obj)} {D : Ends} (c : XCls X.K C N fI) (hst : X.stack = X.env :: X.outer) (hf : X.env.frame = some X.env.locals) (hg : Gl X cn) (hm : X.mg cn = some (.ref C)) (nd : X.N.Nodup) (hi : X.N[i]? = some n) (hl : X.env.scope.names.lookup n = some .local)
    (hS : ∀ x, PSs (X.hand x) (b0 :: suite) ts) (hdb : (cn == ("__debug__" : Str)) = false) :
    Flies (X.tr pins (XT X pins D [.ExceptHandler (some (.Name cn p)) (some n) (b0 :: suite) hpos])) (ETry C i X.N.length ts D) := by
  rintro pins' σ' H s x C' d I hx nx hh ⟨eC, dx, ed, hE⟩
  cases eC
  cases ed
  have I0 : Inv X pins (List.replicate X.N.length none) H s := (Inv.untr I).blank
  show wpAny _ _ (noteFrame _ _) _ _ s
  refine xfly I0 I0.ok.frames hst hf hx hh fun h' I1 hh1 => ?_
  refine wpAny_handleBy_cons (codeAny_handlers_test ?_) (by intro q; cases q)
  refine ld_glob (X := X.hand x) (I1.hand x) hg hm ?_ hdb
  obtain ⟨oe, vs, e1, e2, e3, e4⟩ := xo_get I1.hok hx
  obtain ⟨nm, qn, bs, sn, sub, ab, col, dd, k0, k1, k2, k3, k5, hC⟩ := c.obj
  obtain ⟨h0, g0, d0, t0, os0⟩ := s
  refine wpAny_excMatches_sub_self (I1.kIn _ _ hC) e1 e2 PySem.F.excBase_ValueError.hasBase ?_
  show codeAny _ _ (.handlers _ [.ExceptHandler none (some n) (b0 :: suite) hpos] _) _ _
  refine codeAny_handlers_suite_as (xrest hh1 ?_)
  refine store_ok (X := X.hand x) (v := .ref x) (I1.hand x) nd hi (Or.inl hl) rfl (fun s2 I2 => ?_) (.inr hl)
  refine wpAny_mono (hS x pins s2 _ H _ I2 (hE x hx)) (fun f s3 hf3 => ?_) (fun _ _ z => z.elim)
  cases f with
  | next => obtain ⟨_, _, _, z⟩ := hf3; exact z.elim
  | brk => obtain ⟨_, _, _, z⟩ := hf3; exact False.elim z
  | cont => obtain ⟨_, _, _, z⟩ := hf3; exact False.elim z
  | ret u =>
    obtain ⟨v, σ3, H3, I3, rv, q⟩ := hf3
    have I4 : Inv X pins σ3 H3 s3 := I3.unhand I0.ok
    obtain ⟨m, hn, _⟩ := id I4.loc
    show wpAny _ _ (do bindName X.env n .none; unbindBehindTheSuite X.env n hpos) _ _ s3
    refine wpAny_nameGoes hl hn (by rw [I4.ok.kind]; rfl) fun h5 m5 hn5 hs5 => ?_
    exact ⟨v, _, H3, I4.lost hn5 hs5, rv, q⟩
noncomputable def tTry (tb : Ends → TS) : TS := fun D σ H => tb D D σ H
theorem ps_try (c : XCls X.K C N fI) (hst : X.stack = X.env :: X.outer) (hf : X.env.frame = some X.env.locals) (hg : Gl X cn) (hm : X.mg cn = some (.ref C)) (nd : X.N.Nodup) (hi : X.N[i]? = some n) (hl : X.env.scope.names.lookup n = some .local)
    (hS : ∀ x, PSs (X.hand x) (b0 :: suite) ts)
    (hB : ∀ pins D, Flies (X.tr pins (XT X pins D [.ExceptHandler (some (.Name cn p)) (some n) (b0 :: suite) hpos])) (ETry C i X.N.length ts D) → PSs (X.tr pins (XT X pins D [.ExceptHandler (some (.Name cn p)) (some n) (b0 :: suite) hpos])) body (tb D))
    (hdb : (cn == ("__debug__" : Str)) = false := by decide) : PS X (.Try body [.ExceptHandler (some (.Name cn p)) (some n) (b0 :: suite) hpos] [] [] pos) (tTry tb) := by
  intro pins s σ H D I h
  refine wpAny_Try_except (wpAny_mono (hB pins D (flies_try c hst hf hg hm nd hi hl hS hdb) [] s σ H D (I.tr _) h) (fun f s1 q => ?_) fun e s1 q => q)
  have q' : SP X pins D f s1 := q.untr
  cases f with
  | next => exact wpAny_execs_nil q'
  | brk => exact q'
  | cont => exact q'
  | ret u => exact q'
end
end L2

end
section
set_option linter.all false
namespace Ma
open Sh
noncomputable def byt (ns : List Int) : Bytes := ns.map fun n => UInt8.ofNat n.toNat
noncomputable def Byts (ns : List Int) : Prop := ∀ x ∈ ns, 0 ≤ x ∧ x ≤ 255
theorem byt_len (ns : List Int) : (byt ns).length = ns.length := List.length_map _
theorem ofNat_toNat {z : Int} (h : 0 ≤ z ∧ z ≤ 255) : (UInt8.ofNat z.toNat).toNat = z.toNat := by
  rw [UInt8.toNat_ofNat']; omega
theorem num_end {lo hi x p : Nat} {B : Bytes} (h : B.length ≤ p) : numAt lo hi x p (B.drop p) = .error p := by
  rw [List.drop_eq_nil_of_le h]; rfl
theorem drop_at {ns : List Int} {p : Nat} {z : Int} (h : ns[p]? = some z) : (byt ns).drop p = UInt8.ofNat z.toNat :: (byt ns).drop (p + 1) := by
  have hp : p < ns.length := (List.getElem?_eq_some_iff.mp h).1
  have e : (byt ns)[p]? = some (UInt8.ofNat z.toNat) := by rw [byt, List.getElem?_map, h]; rfl
  obtain ⟨h1, h2⟩ := List.getElem?_eq_some_iff.mp e
  rw [List.drop_eq_getElem_cons h1, h2]
theorem num_at {ns : List Int} {lo hi x p : Nat} {z : Int} (hb : Byts ns) (h : ns[p]? = some z) :
    numAt lo hi x p ((byt ns).drop p) = if z < lo ∨ (hi : Int) < z ∨ z = x then .error p else .ok (z.toNat, p + 1, (byt ns).drop (p + 1)) := by
  have hz := hb z (List.mem_of_getElem? h)
  rw [drop_at h]
  unfold numAt
  simp only [ofNat_toNat hz]
  by_cases q : z < lo ∨ (hi : Int) < z ∨ z = x
  · rw [if_pos q, if_pos (by omega)]
  · rw [if_neg q, if_neg (by omega)]
theorem num_ok {lo hi x p : Nat} {B : Bytes} {t : Nat × Nat × Bytes} (h : numAt lo hi x p (B.drop p) = .ok t) :
    t = (t.1, p + 1, B.drop (p + 1)) ∧ p < B.length ∧ lo ≤ t.1 ∧ t.1 ≤ hi ∧ t.1 ≠ x := by
  by_cases q : p < B.length
  · rw [List.drop_eq_getElem_cons q] at h
    unfold numAt at h
    simp only at h
    split at h
    · cases h
    · rename_i hn
      cases h
      exact ⟨rfl, q, by simp only; omega, by simp only; omega, by simp only; omega⟩
  · rw [num_end (by omega)] at h; cases h

noncomputable def plainAt (p : Nat) (b : Bytes) : Except Nat (Field × Nat × Bytes) := match numAt 0 8 ANY p b with
  | .error e => .error e
  | .ok t => .ok (.plain t.1, t.2)
noncomputable def partedAt (p : Nat) (b : Bytes) : Except Nat (Field × Nat × Bytes) := match numAt 0 7 ANY p b with
  | .error e => .error e
  | .ok d => match numAt 0 5 ANY d.2.1 d.2.2 with
    | .error e => .error e
    | .ok l => match numAt 0 8 ANY l.2.1 l.2.2 with
      | .error e => .error e
      | .ok a => match numAt 0 8 a.1 a.2.1 a.2.2 with
        | .error e => .error e
        | .ok c => .ok (.parted d.1 l.1 a.1 c.1, c.2)
noncomputable def variedAt (p : Nat) (b : Bytes) : Except Nat (Field × Nat × Bytes) := match numAt 0 6 ANY p b with
  | .error e => .error e
  | .ok v => match numAt 2 24 ANY v.2.1 v.2.2 with
    | .error e => .error e
    | .ok n => match numAt 0 (if 5 ≤ v.1 then 0 else 5) ANY n.2.1 n.2.2 with
      | .error e => .error e
      | .ok l => match numAt 0 8 ANY l.2.1 l.2.2 with
        | .error e => .error e
        | .ok a => match numAt 0 8 a.1 a.2.1 a.2.2 with
          | .error e => .error e
          | .ok c => .ok (.varied v.1 n.1 l.1 a.1 c.1, c.2)
theorem field_eq (p : Nat) (b : Bytes) : fieldAt p b = match numAt 0 2 ANY p b with
    | .error e => .error e
    | .ok k => if k.1 = 0 then plainAt k.2.1 k.2.2 else if k.1 = 1 then partedAt k.2.1 k.2.2 else variedAt k.2.1 k.2.2 := by
  unfold fieldAt plainAt partedAt variedAt twoAt
  cases numAt 0 2 ANY p b with
  | error e => rfl
  | ok k =>
    simp only
    split
    · rfl
    · split
      · cases numAt 0 7 ANY k.2.1 k.2.2 with
        | error e => rfl
        | ok d =>
          simp only
          cases numAt 0 5 ANY d.2.1 d.2.2 with
          | error e => rfl
          | ok l =>
            simp only
            cases numAt 0 8 ANY l.2.1 l.2.2 with
            | error e => rfl
            | ok a =>
              simp only
              cases numAt 0 8 a.1 a.2.1 a.2.2 <;> rfl
      · cases numAt 0 6 ANY k.2.1 k.2.2 with
        | error e => rfl
        | ok v =>
          simp only
          cases numAt 2 24 ANY v.2.1 v.2.2 with
          | error e => rfl
          | ok n =>
            simp only
            cases numAt 0 (if 5 ≤ v.1 then 0 else 5) ANY n.2.1 n.2.2 with
            | error e => rfl
            | ok l =>
              simp only
              cases numAt 0 8 ANY l.2.1 l.2.2 with
              | error e => rfl
              | ok a =>
                simp only
                cases numAt 0 8 a.1 a.2.1 a.2.2 <;> rfl
noncomputable def FieldOk : Field → Prop
  | .plain t => t ≤ 8
  | .parted d l a b => d ≤ 7 ∧ l ≤ 5 ∧ a ≤ 8 ∧ b ≤ 8 ∧ b ≠ a
  | .varied v n l a b => v ≤ 6 ∧ 2 ≤ n ∧ n ≤ 24 ∧ l ≤ 5 ∧ (5 ≤ v → l = 0) ∧ a ≤ 8 ∧ b ≤ 8 ∧ b ≠ a
noncomputable def After (B : Bytes) (p : Nat) (t : Nat × Bytes) : Prop := p < t.1 ∧ t.1 ≤ B.length ∧ t.2 = B.drop t.1
theorem plain_ok {p : Nat} {B : Bytes} {t : Field × Nat × Bytes} (h : plainAt p (B.drop p) = .ok t) : FieldOk t.1 ∧ After B p t.2 := by
  unfold plainAt at h
  cases e : numAt 0 8 ANY p (B.drop p) with
  | error e' => rw [e] at h; cases h
  | ok k =>
    obtain ⟨e1, e2, e3, e4, e5⟩ := num_ok e
    rw [e, e1] at h
    cases h
    exact ⟨e4, Nat.lt_succ_self _, e2, rfl⟩
theorem parted_ok {p : Nat} {B : Bytes} {t : Field × Nat × Bytes} (h : partedAt p (B.drop p) = .ok t) : FieldOk t.1 ∧ After B p t.2 := by
  unfold partedAt at h
  cases e : numAt 0 7 ANY p (B.drop p) with
  | error e' => rw [e] at h; cases h
  | ok k =>
    obtain ⟨e1, e2, e3, e4, e5⟩ := num_ok e
    rw [e, e1] at h
    simp only at h
    cases f : numAt 0 5 ANY (p + 1) (B.drop (p + 1)) with
    | error e' => rw [f] at h; cases h
    | ok l =>
      obtain ⟨f1, f2, f3, f4, f5⟩ := num_ok f
      rw [f, f1] at h
      simp only at h
      cases g : numAt 0 8 ANY (p + 1 + 1) (B.drop (p + 1 + 1)) with
      | error e' => rw [g] at h; cases h
      | ok a =>
        obtain ⟨g1, g2, g3, g4, g5⟩ := num_ok g
        rw [g, g1] at h
        simp only at h
        cases i : numAt 0 8 a.1 (p + 1 + 1 + 1) (B.drop (p + 1 + 1 + 1)) with
        | error e' => rw [i] at h; cases h
        | ok c =>
          obtain ⟨i1, i2, i3, i4, i5⟩ := num_ok i
          rw [i, i1] at h
          cases h
          exact ⟨⟨e4, f4, g4, i4, i5⟩, by show p < p + 1 + 1 + 1 + 1; omega, i2, rfl⟩
theorem varied_ok {p : Nat} {B : Bytes} {t : Field × Nat × Bytes} (h : variedAt p (B.drop p) = .ok t) : FieldOk t.1 ∧ After B p t.2 := by
  unfold variedAt at h
  cases e : numAt 0 6 ANY p (B.drop p) with
  | error e' => rw [e] at h; cases h
  | ok v =>
    obtain ⟨e1, e2, e3, e4, e5⟩ := num_ok e
    rw [e, e1] at h
    simp only at h
    cases j : numAt 2 24 ANY (p + 1) (B.drop (p + 1)) with
    | error e' => rw [j] at h; cases h
    | ok n =>
      obtain ⟨j1, j2, j3, j4, j5⟩ := num_ok j
      rw [j, j1] at h
      simp only at h
      cases f : numAt 0 (if 5 ≤ v.1 then 0 else 5) ANY (p + 1 + 1) (B.drop (p + 1 + 1)) with
      | error e' => rw [f] at h; cases h
      | ok l =>
        obtain ⟨f1, f2, f3, f4, f5⟩ := num_ok f
        rw [f, f1] at h
        simp only at h
        cases g : numAt 0 8 ANY (p + 1 + 1 + 1) (B.drop (p + 1 + 1 + 1)) with
        | error e' => rw [g] at h; cases h
        | ok a =>
          obtain ⟨g1, g2, g3, g4, g5⟩ := num_ok g
          rw [g, g1] at h
          simp only at h
          cases i : numAt 0 8 a.1 (p + 1 + 1 + 1 + 1) (B.drop (p + 1 + 1 + 1 + 1)) with
          | error e' => rw [i] at h; cases h
          | ok c =>
            obtain ⟨i1, i2, i3, i4, i5⟩ := num_ok i
            rw [i, i1] at h
            cases h
            exact ⟨⟨e4, j3, j4, by split at f4 <;> omega, fun q => by rw [if_pos q] at f4; omega, g4, i4, i5⟩, by show p < p + 1 + 1 + 1 + 1 + 1; omega, i2, rfl⟩
theorem field_ok {p : Nat} {B : Bytes} {t : Field × Nat × Bytes} (h : fieldAt p (B.drop p) = .ok t) : FieldOk t.1 ∧ After B p t.2 := by
  rw [field_eq] at h
  cases e : numAt 0 2 ANY p (B.drop p) with
  | error e' => rw [e] at h; cases h
  | ok k =>
    obtain ⟨e1, e2, e3, e4, e5⟩ := num_ok e
    rw [e, e1] at h
    simp only at h
    have up : ∀ {x : Nat × Bytes}, After B (p + 1) x → After B p x := fun ⟨a, b, c⟩ => ⟨by omega, b, c⟩
    split at h
    · obtain ⟨a, b⟩ := plain_ok h; exact ⟨a, up b⟩
    · split at h
      · obtain ⟨a, b⟩ := parted_ok h; exact ⟨a, up b⟩
      · obtain ⟨a, b⟩ := varied_ok h; exact ⟨a, up b⟩
noncomputable def FillOk (below : Field) : Fill → Prop
  | .solid f => FieldOk f
  | .counter => below.two.isSome = true
theorem fill_ok {below : Field} {p : Nat} {B : Bytes} {t : Fill × Nat × Bytes} (h : fillAt below p (B.drop p) = .ok t) : FillOk below t.1 ∧ After B p t.2 := by
  unfold fillAt at h
  cases e : numAt 0 (if below.two.isSome = true then 1 else 0) ANY p (B.drop p) with
  | error e' => rw [e] at h; cases h
  | ok k =>
    obtain ⟨e1, e2, e3, e4, e5⟩ := num_ok e
    rw [e, e1] at h
    simp only at h
    split at h
    · rename_i hk
      cases h
      refine ⟨?_, Nat.lt_succ_self _, e2, rfl⟩
      show below.two.isSome = true
      cases q : below.two.isSome with
      | true => rfl
      | false => rw [q] at e4; simp at e4; omega
    · cases f : fieldAt (p + 1) (B.drop (p + 1)) with
      | error e' => rw [f] at h; cases h
      | ok x =>
        obtain ⟨f1, f2, f3, f4⟩ := field_ok f
        rw [f] at h
        cases h
        exact ⟨f1, by show p < x.2.1; omega, f3, f4⟩
noncomputable def ordAt (below : Field) (p : Nat) (b : Bytes) : Except Nat (Layer × Nat × Bytes) := match numAt 0 12 ANY p b with
  | .error e => .error e
  | .ok o => match numAt 0 5 ANY o.2.1 o.2.2 with
    | .error e => .error e
    | .ok l => match fillAt below l.2.1 l.2.2 with
      | .error e => .error e
      | .ok f => .ok (.ord o.1 l.1 f.1, f.2)
noncomputable def groupAt (below : Field) (p : Nat) (b : Bytes) : Except Nat (Layer × Nat × Bytes) := match numAt 0 15 ANY p b with
  | .error e => .error e
  | .ok c => match numAt 1 10 ANY c.2.1 c.2.2 with
    | .error e => .error e
    | .ok n => match numAt 0 6 ANY n.2.1 n.2.2 with
      | .error e => .error e
      | .ok m => match numAt 1 4 ANY m.2.1 m.2.2 with
        | .error e => .error e
        | .ok s => match fillAt below s.2.1 s.2.2 with
          | .error e => .error e
          | .ok f => .ok (.group c.1 n.1 m.1 s.1 f.1, f.2)
theorem layer_eq (below : Field) (p : Nat) (b : Bytes) : layerAt below p b = match numAt 0 1 ANY p b with
    | .error e => .error e
    | .ok k => if k.1 = 0 then ordAt below k.2.1 k.2.2 else groupAt below k.2.1 k.2.2 := by
  unfold layerAt ordAt groupAt
  rfl
noncomputable def LayerOk (below : Field) : Layer → Prop
  | .ord o l f => o ≤ 12 ∧ l ≤ 5 ∧ FillOk below f
  | .group c n m s f => c ≤ 15 ∧ 1 ≤ n ∧ n ≤ 10 ∧ m ≤ 6 ∧ 1 ≤ s ∧ s ≤ 4 ∧ FillOk below f
theorem ord_ok {below : Field} {p : Nat} {B : Bytes} {t : Layer × Nat × Bytes} (h : ordAt below p (B.drop p) = .ok t) : LayerOk below t.1 ∧ After B p t.2 := by
  unfold ordAt at h
  cases e : numAt 0 12 ANY p (B.drop p) with
  | error e' => rw [e] at h; cases h
  | ok o =>
    obtain ⟨e1, e2, e3, e4, e5⟩ := num_ok e
    rw [e, e1] at h
    simp only at h
    cases f : numAt 0 5 ANY (p + 1) (B.drop (p + 1)) with
    | error e' => rw [f] at h; cases h
    | ok l =>
      obtain ⟨f1, f2, f3, f4, f5⟩ := num_ok f
      rw [f, f1] at h
      simp only at h
      cases g : fillAt below (p + 1 + 1) (B.drop (p + 1 + 1)) with
      | error e' => rw [g] at h; cases h
      | ok x =>
        obtain ⟨g1, g2, g3, g4⟩ := fill_ok g
        rw [g] at h
        cases h
        exact ⟨⟨e4, f4, g1⟩, by show p < x.2.1; omega, g3, g4⟩
theorem group_ok {below : Field} {p : Nat} {B : Bytes} {t : Layer × Nat × Bytes} (h : groupAt below p (B.drop p) = .ok t) : LayerOk below t.1 ∧ After B p t.2 := by
  unfold groupAt at h
  cases e : numAt 0 15 ANY p (B.drop p) with
  | error e' => rw [e] at h; cases h
  | ok c =>
    obtain ⟨e1, e2, e3, e4, e5⟩ := num_ok e
    rw [e, e1] at h
    simp only at h
    cases f : numAt 1 10 ANY (p + 1) (B.drop (p + 1)) with
    | error e' => rw [f] at h; cases h
    | ok n =>
      obtain ⟨f1, f2, f3, f4, f5⟩ := num_ok f
      rw [f, f1] at h
      simp only at h
      cases i : numAt 0 6 ANY (p + 1 + 1) (B.drop (p + 1 + 1)) with
      | error e' => rw [i] at h; cases h
      | ok m =>
        obtain ⟨i1, i2, i3, i4, i5⟩ := num_ok i
        rw [i, i1] at h
        simp only at h
        cases j : numAt 1 4 ANY (p + 1 + 1 + 1) (B.drop (p + 1 + 1 + 1)) with
        | error e' => rw [j] at h; cases h
        | ok s =>
          obtain ⟨j1, j2, j3, j4, j5⟩ := num_ok j
          rw [j, j1] at h
          simp only at h
          cases g : fillAt below (p + 1 + 1 + 1 + 1) (B.drop (p + 1 + 1 + 1 + 1)) with
          | error e' => rw [g] at h; cases h
          | ok x =>
            obtain ⟨g1, g2, g3, g4⟩ := fill_ok g
            rw [g] at h
            cases h
            exact ⟨⟨e4, f3, f4, i4, j3, j4, g1⟩, by show p < x.2.1; omega, g3, g4⟩
theorem layer_ok {below : Field} {p : Nat} {B : Bytes} {t : Layer × Nat × Bytes} (h : layerAt below p (B.drop p) = .ok t) : LayerOk below t.1 ∧ After B p t.2 := by
  rw [layer_eq] at h
  cases e : numAt 0 1 ANY p (B.drop p) with
  | error e' => rw [e] at h; cases h
  | ok k =>
    obtain ⟨e1, e2, e3, e4, e5⟩ := num_ok e
    rw [e, e1] at h
    simp only at h
    split at h
    · obtain ⟨a, b1, b2, b3⟩ := ord_ok h; exact ⟨a, by omega, b2, b3⟩
    · obtain ⟨a, b1, b2, b3⟩ := group_ok h; exact ⟨a, by omega, b2, b3⟩
theorem text_of {ns : List Int} (h : Byts ns) : ArmsNeutral.text? ns = some (byt ns) := by
  unfold ArmsNeutral.text?
  have q : NeutralIO.bytes ns = true := by
    unfold NeutralIO.bytes
    rw [List.all_eq_true]
    intro x hx
    have := h x hx
    simp [this.1, this.2]
  rw [if_pos q]
  rfl
end Ma

end
section
set_option linter.all false
namespace Ma
open Sh
theorem num_other {x p : Nat} {b : Bytes} : numAt 0 8 x p b = match numAt 0 8 ANY p b with
    | .error e => .error e
    | .ok t => if t.1 = x then .error p else .ok t := by
  cases b with
  | nil => rfl
  | cons c r =>
    have hc : c.toNat < 256 := c.toNat_lt
    simp only [numAt]
    by_cases q : 8 < c.toNat
    · rw [if_pos (.inr (.inl q)), if_pos (.inr (.inl q))]
    · rw [if_neg (show ¬ (c.toNat < 0 ∨ 8 < c.toNat ∨ c.toNat = ANY) by unfold ANY; omega)]
      simp only
      by_cases q2 : c.toNat = x
      · rw [if_pos (.inr (.inr q2)), if_pos q2]
      · rw [if_neg (by omega), if_neg q2]
end Ma

end
section
set_option linter.all false
namespace Ma
open Sh
noncomputable def bnd {α β : Type} (x : Except Nat (α × Nat × Bytes)) (f : α → Nat → Bytes → Except Nat β) : Except Nat β := match x with
  | .error e => .error e
  | .ok t => f t.1 t.2.1 t.2.2
noncomputable def plainB (p : Nat) (b : Bytes) : Except Nat (Field × Nat × Bytes) := bnd (numAt 0 8 ANY p b) fun t p b => .ok (.plain t, p, b)
noncomputable def partedB (p : Nat) (b : Bytes) : Except Nat (Field × Nat × Bytes) := bnd (numAt 0 7 ANY p b) fun d p b => bnd (numAt 0 5 ANY p b) fun l p b => bnd (numAt 0 8 ANY p b) fun x p b => bnd (numAt 0 8 x p b) fun y p b => .ok (.parted d l x y, p, b)
noncomputable def variedB (p : Nat) (b : Bytes) : Except Nat (Field × Nat × Bytes) := bnd (numAt 0 6 ANY p b) fun v p b => bnd (numAt 2 24 ANY p b) fun n p b => bnd (numAt 0 (if 5 ≤ v then 0 else 5) ANY p b) fun l p b =>
  bnd (numAt 0 8 ANY p b) fun x p b => bnd (numAt 0 8 x p b) fun y p b => .ok (.varied v n l x y, p, b)
theorem plain_b (p : Nat) (b : Bytes) : plainAt p b = plainB p b := by
  unfold plainAt plainB bnd
  cases numAt 0 8 ANY p b <;> rfl
theorem parted_b (p : Nat) (b : Bytes) : partedAt p b = partedB p b := by
  unfold partedAt partedB bnd
  cases numAt 0 7 ANY p b with
  | error e => rfl
  | ok d =>
    simp only
    cases numAt 0 5 ANY d.2.1 d.2.2 with
    | error e => rfl
    | ok l =>
      simp only
      cases numAt 0 8 ANY l.2.1 l.2.2 with
      | error e => rfl
      | ok a =>
        simp only
        cases numAt 0 8 a.1 a.2.1 a.2.2 <;> rfl
theorem varied_b (p : Nat) (b : Bytes) : variedAt p b = variedB p b := by
  unfold variedAt variedB bnd
  cases numAt 0 6 ANY p b with
  | error e => rfl
  | ok v =>
    simp only
    cases numAt 2 24 ANY v.2.1 v.2.2 with
    | error e => rfl
    | ok n =>
      simp only
      cases numAt 0 (if 5 ≤ v.1 then 0 else 5) ANY n.2.1 n.2.2 with
      | error e => rfl
      | ok l =>
        simp only
        cases numAt 0 8 ANY l.2.1 l.2.2 with
        | error e => rfl
        | ok a =>
          simp only
          cases numAt 0 8 a.1 a.2.1 a.2.2 <;> rfl
theorem field_b (p : Nat) (b : Bytes) : fieldAt p b = bnd (numAt 0 2 ANY p b) fun k p b => if k = 0 then plainB p b else if k = 1 then partedB p b else variedB p b := by
  rw [field_eq]
  unfold bnd
  cases numAt 0 2 ANY p b with
  | error e => rfl
  | ok k => simp only [plain_b, parted_b, varied_b]
theorem fill_b (below : Field) (p : Nat) (b : Bytes) : fillAt below p b = bnd (numAt 0 (if below.two.isSome = true then 1 else 0) ANY p b) fun k p b => if k = 1 then .ok (.counter, p, b) else bnd (fieldAt p b) fun f p b => .ok (.solid f, p, b) := by
  unfold fillAt bnd
  cases numAt 0 (if below.two.isSome = true then 1 else 0) ANY p b with
  | error e => rfl
  | ok k =>
    simp only
    split
    · rfl
    · cases fieldAt k.2.1 k.2.2 <;> rfl
noncomputable def ordB (below : Field) (p : Nat) (b : Bytes) : Except Nat (Layer × Nat × Bytes) := bnd (numAt 0 12 ANY p b) fun o p b => bnd (numAt 0 5 ANY p b) fun l p b => bnd (fillAt below p b) fun f p b => .ok (.ord o l f, p, b)
noncomputable def groupB (below : Field) (p : Nat) (b : Bytes) : Except Nat (Layer × Nat × Bytes) := bnd (numAt 0 15 ANY p b) fun c p b => bnd (numAt 1 10 ANY p b) fun n p b => bnd (numAt 0 6 ANY p b) fun m p b => bnd (numAt 1 4 ANY p b) fun s p b =>
  bnd (fillAt below p b) fun f p b => .ok (.group c n m s f, p, b)
theorem ord_b (below : Field) (p : Nat) (b : Bytes) : ordAt below p b = ordB below p b := by
  unfold ordAt ordB bnd
  cases numAt 0 12 ANY p b with
  | error e => rfl
  | ok d =>
    simp only
    cases numAt 0 5 ANY d.2.1 d.2.2 with
    | error e => rfl
    | ok l =>
      simp only
      cases fillAt below l.2.1 l.2.2 <;> rfl
theorem group_b (below : Field) (p : Nat) (b : Bytes) : groupAt below p b = groupB below p b := by
  unfold groupAt groupB bnd
  cases numAt 0 15 ANY p b with
  | error e => rfl
  | ok v =>
    simp only
    cases numAt 1 10 ANY v.2.1 v.2.2 with
    | error e => rfl
    | ok n =>
      simp only
      cases numAt 0 6 ANY n.2.1 n.2.2 with
      | error e => rfl
      | ok l =>
        simp only
        cases numAt 1 4 ANY l.2.1 l.2.2 with
        | error e => rfl
        | ok a =>
          simp only
          cases fillAt below a.2.1 a.2.2 <;> rfl
theorem layer_b (below : Field) (p : Nat) (b : Bytes) : layerAt below p b = bnd (numAt 0 1 ANY p b) fun k p b => if k = 0 then ordB below p b else groupB below p b := by
  rw [layer_eq]
  unfold bnd
  cases numAt 0 1 ANY p b with
  | error e => rfl
  | ok k => simp only [ord_b, group_b]
theorem layers_b (below : Field) (k p : Nat) (b : Bytes) : layersAt below (k + 1) p b = bnd (layerAt below p b) fun x p b => match layersAt below k p b with | .error e => .error e | .ok l => .ok (x :: l) := by
  conv => lhs; unfold layersAt
  unfold bnd
  cases layerAt below p b <;> rfl
theorem arms_b (b : Bytes) : readArms b = bnd (fieldAt 0 b) fun f p b => bnd (numAt 0 8 ANY p b) fun n p b => match layersAt f n p b with | .error e => .error e | .ok l => .ok ⟨f, l⟩ := by
  unfold readArms bnd
  cases fieldAt 0 b with
  | error e => rfl
  | ok f =>
    simp only
    have : numAt 0 MOST ANY f.2.1 f.2.2 = numAt 0 8 ANY f.2.1 f.2.2 := rfl
    rw [this]
    cases numAt 0 8 ANY f.2.1 f.2.2 <;> rfl
end Ma

end
section
set_option linter.all false
namespace Ma
open Sh
theorem layers_ok {below : Field} {B : Bytes} : ∀ {k p : Nat} {ls : List Layer}, layersAt below k p (B.drop p) = .ok ls → ls.length = k ∧ ∀ l ∈ ls, LayerOk below l
  | 0, p, ls, h => by
    have h : (if B.drop p = [] then Except.ok [] else Except.error p : Except Nat (List Layer)) = .ok ls := h
    split at h
    · cases h; exact ⟨rfl, fun l hl => nomatch hl⟩
    · cases h
  | k + 1, p, ls, h => by
    rw [layers_b] at h
    cases e : layerAt below p (B.drop p) with
    | error e' => rw [e] at h; cases h
    | ok t =>
      obtain ⟨h1, _, _, h3⟩ := layer_ok e
      rw [e] at h
      have h : (match layersAt below k t.2.1 t.2.2 with | .error e => .error e | .ok l => .ok (t.1 :: l) : Except Nat (List Layer)) = .ok ls := h
      rw [h3] at h
      cases e2 : layersAt below k t.2.1 (B.drop t.2.1) with
      | error e' => rw [e2] at h; cases h
      | ok l =>
        rw [e2] at h
        cases h
        obtain ⟨i1, i2⟩ := layers_ok e2
        refine ⟨by rw [List.length_cons, i1], fun x hx => ?_⟩
        rcases List.mem_cons.mp hx with z | z
        · rw [z]; exact h1
        · exact i2 x z
theorem arms_ok {B : Bytes} {x : Arms} (h : readArms B = .ok x) : FieldOk x.field ∧ x.layers.length ≤ 8 ∧ ∀ l ∈ x.layers, LayerOk x.field l := by
  rw [arms_b] at h
  cases e : fieldAt 0 B with
  | error e' => rw [e] at h; cases h
  | ok t =>
    obtain ⟨h1, _, _, h3⟩ := field_ok (B := B) (p := 0) (by rw [List.drop_zero]; exact e)
    rw [e] at h
    have h : (bnd (numAt 0 8 ANY t.2.1 t.2.2) fun n p b => match layersAt t.1 n p b with | .error e => .error e | .ok l => .ok ⟨t.1, l⟩ : Except Nat Arms) = .ok x := h
    rw [h3] at h
    cases e2 : numAt 0 8 ANY t.2.1 (B.drop t.2.1) with
    | error e' => rw [e2] at h; cases h
    | ok n =>
      obtain ⟨n1, _, _, n2, _⟩ := num_ok e2
      rw [e2, n1] at h
      have h : (match layersAt t.1 n.1 (t.2.1 + 1) (B.drop (t.2.1 + 1)) with | .error e => .error e | .ok l => .ok ⟨t.1, l⟩ : Except Nat Arms) = .ok x := h
      cases e3 : layersAt t.1 n.1 (t.2.1 + 1) (B.drop (t.2.1 + 1)) with
      | error e' => rw [e3] at h; cases h
      | ok l =>
        rw [e3] at h
        cases h
        obtain ⟨i1, i2⟩ := layers_ok e3
        exact ⟨h1, by rw [i1]; exact n2, i2⟩
theorem print_eq {ns : List Int} (h : Byts ns) : PyWqbabn.print_of ns = match readArms (byt ns) with | .error p => [-1, (p : Int)] | .ok x => ((ShBlazon.print x).length : Int) :: (ShBlazon.print x).map fun (b : UInt8) => (b.toNat : Int) := by
  have e : ArmsNeutral.callOf [[8], ns] = some (.print (byt ns)) := by
    show (ArmsNeutral.text? ns).map ShOffice.Call.print = _
    rw [text_of h]; rfl
  unfold PyWqbabn.print_of ArmsNeutral.f
  rw [e]
  have a : ShOffice.answer (.print (byt ns)) = (match readArms (byt ns) with | .error p => ShOffice.tells (-1) [p] | .ok x => ShOffice.gives (ShBlazon.print x)) := rfl
  simp only [a]
  cases readArms (byt ns) <;> rfl
end Ma

end
set_option Elab.async false
set_option linter.all false
set_option maxRecDepth 100000
set_option maxHeartbeats 2000000

namespace Pr8
open PySem PySem.Spec PyProof.Rows L2 Sh Ma TL
open PySem.W (Codec)
noncomputable def top (i : Nat) : Stmt := PySem.Challenge.pw_shieldwords_s08_print_of.main.body.getD i (.Pass ⟨0, 0, 0, 0⟩)
noncomputable abbrev sFI : Stmt := inClass (top 18) 0
noncomputable abbrev sOI : Stmt := inClass (top 19) 0
noncomputable abbrev sGI : Stmt := inClass (top 20) 0
noncomputable abbrev sAI : Stmt := inClass (top 21) 0
noncomputable abbrev sXI : Stmt := inClass (top 23) 0
noncomputable abbrev sRI : Stmt := inClass (top 24) 0
noncomputable abbrev sTk : Stmt := inClass (top 24) 1
noncomputable abbrev sTr : Stmt := inClass (top 24) 2
noncomputable abbrev sTo : Stmt := inClass (top 24) 3
noncomputable abbrev sTe : Stmt := inClass (top 24) 4
noncomputable abbrev sRP : Stmt := top 30
noncomputable abbrev sRT : Stmt := top 31
noncomputable abbrev sLV : Stmt := top 32
noncomputable abbrev sRV : Stmt := top 33
noncomputable abbrev sRF : Stmt := top 34
noncomputable abbrev sFL : Stmt := top 35
noncomputable abbrev sOL : Stmt := top 36
noncomputable abbrev sGL : Stmt := top 37
noncomputable abbrev sRL : Stmt := top 38
noncomputable abbrev sRA : Stmt := top 39
noncomputable abbrev sAB : Stmt := top 52
noncomputable abbrev sCW : Stmt := top 53
noncomputable abbrev sSd : Stmt := top 55
noncomputable abbrev sT2 : Stmt := top 56
noncomputable abbrev sPW : Stmt := top 57
noncomputable abbrev sFW : Stmt := top 58
noncomputable abbrev sFw : Stmt := top 59
noncomputable abbrev sOW : Stmt := top 60
noncomputable abbrev sMW : Stmt := top 61
noncomputable abbrev sGW : Stmt := top 62
noncomputable abbrev sLW : Stmt := top 63
noncomputable abbrev sAZ : Stmt := top 64
noncomputable abbrev sBB : Stmt := top 65
noncomputable abbrev sWL : Stmt := top 68
noncomputable abbrev sPr : Stmt := top 69
theorem iteP {c A B : Prop} [Decidable c] (h : c) (a : A) : if c then A else B := by
  rw [if_pos h]
  exact a
theorem iteN {c A B : Prop} [Decidable c] (h : ¬ c) (b : B) : if c then A else B := by
  rw [if_neg h]
  exact b
theorem look1 (f : Str) (v : V) : List.lookup f [(f, v)] = some v := by simp only [List.lookup, beq_self_eq_true]
noncomputable def rf (a : Addr) (p : Nat) : List (Str × V) := putF "place" (.int p) (putF "data" (.ref a) [])
theorem putF_putF (f : Str) (u v : V) : ∀ fs : List (Str × V), putF f v (putF f u fs) = putF f v fs
  | [] => by
    show (if f = f then [(f, v)] else _) = [(f, v)]
    rw [if_pos rfl]
  | (k, x) :: r => by
    have ih := putF_putF f u v r
    by_cases hk : k = f
    · have e1 : putF f u ((k, x) :: r) = (k, u) :: r := by
        show (if k = f then (k, u) :: r else _) = _
        rw [if_pos hk]
      have e2 : putF f v ((k, u) :: r) = (k, v) :: r := by
        show (if k = f then (k, v) :: r else _) = _
        rw [if_pos hk]
      have e3 : putF f v ((k, x) :: r) = (k, v) :: r := by
        show (if k = f then (k, v) :: r else _) = _
        rw [if_pos hk]
      rw [e1, e2, e3]
    · have e1 : putF f u ((k, x) :: r) = (k, x) :: putF f u r := by
        show (if k = f then _ else (k, x) :: putF f u r) = _
        rw [if_neg hk]
      have e2 : putF f v ((k, x) :: putF f u r) = (k, x) :: putF f v (putF f u r) := by
        show (if k = f then _ else (k, x) :: putF f v (putF f u r)) = _
        rw [if_neg hk]
      have e3 : putF f v ((k, x) :: r) = (k, x) :: putF f v r := by
        show (if k = f then _ else (k, x) :: putF f v r) = _
        rw [if_neg hk]
      rw [e1, e2, e3, ih]
theorem rf_place (a : Addr) (p : Nat) : (rf a p).lookup ("place" : Str) = some (.int p) := by
  unfold rf
  rw [lookup_putF, if_pos rfl]
theorem rf_data (a : Addr) (p : Nat) : (rf a p).lookup ("data" : Str) = some (.ref a) := by
  unfold rf
  rw [lookup_putF, if_neg (by decide +kernel), lookup_putF, if_pos rfl]
theorem rf_no (a : Addr) (p : Nat) {m : Str} (h1 : ¬ m = "place") (h2 : ¬ m = "data") : (rf a p).lookup m = none := by
  unfold rf
  rw [lookup_putF, if_neg h1, lookup_putF, if_neg h2]
  all_goals rfl
theorem rf_put (a : Addr) (p q : Nat) : putF "place" (.int q) (rf a p) = rf a q := by
  unfold rf
  rw [putF_putF]
theorem rf_len (a : Addr) (p : Nat) : (rf a p).length < 1000 := by
  have h1 := length_putF "place" (.int p) (putF "data" (.ref a) [])
  have h2 := length_putF "data" (.ref a) []
  unfold rf
  simp only [List.length_nil] at h2
  omega
noncomputable def Wrong (C : Addr) (E : XK) (n : Nat) : Prop := ∀ d H', H' d = some (.xd [("place", .int n)]) → E (.ref C) (some d) H'
noncomputable def Rk {α : Type} (C : Addr) (E : XK) (x : Except Nat (α × Nat × Bytes)) (k : α → Nat → Prop) : Prop := match x with
  | .error e => Wrong C E e
  | .ok t => k t.1 t.2.1
noncomputable def Oth (r : Addr) (H H' : Hp) : Prop := ∀ b o, b ≠ r → H b = some o → H' b = some o
theorem Oth.trans {r : Addr} {H H1 H2 : Hp} (a : Oth r H H1) (b : Oth r H1 H2) : Oth r H H2 := fun c o n e => b c o n (a c o n e)
theorem Oth.upd (r : Addr) (H : Hp) (o : HO) : Oth r H (upd H r o) := fun b u n e => by rw [upd_ne n]; exact e
noncomputable def SqF (K : PySem.W.Frag) (H : Hp) (a : Addr) (xs : List V) : Prop := (∃ o, H a = some (.frz o (.lst xs))) ∨ SqL K (fun _ => none) a xs
theorem SqF.l {K : PySem.W.Frag} {H : Hp} {a : Addr} {xs : List V} (h : SqF K H a xs) : SqL K H a xs := by
  rcases h with h | (h | ⟨o, h⟩) | h
  · exact .inl (.inr h)
  · cases h
  · cases h
  · exact .inr h
theorem SqF.keep {K : PySem.W.Frag} {H H' : Hp} {a : Addr} {xs : List V} (h : SqF K H a xs) (k : ∀ o u, H a = some (.frz o u) → H' a = some (.frz o u)) : SqF K H' a xs := by
  rcases h with ⟨o, h⟩ | h
  · exact .inl ⟨o, k _ _ h⟩
  · exact .inr h
theorem SqF.of {K : PySem.W.Frag} {H : Hp} {a : Addr} {xs : List V} (h : SqL K H a xs) (n : ∀ ys, ¬ H a = some (.lst ys)) : SqF K H a xs := by
  rcases h with (h | h) | h
  · exact (n _ h).elim
  · exact .inl h
  · exact .inr (.inr h)
structure RdAt (K : PySem.W.Frag) (CR : Addr) (H : Hp) (r a : Addr) (ns : List Int) (p : Nat) : Prop where
  byts : Byts ns
  obj : ∃ dr, H r = some (.ins CR dr (rf a p))
  seq : SqF K H a (ns.map V.int)
  le : p ≤ ns.length
theorem RdAt.oth {K : PySem.W.Frag} {CR : Addr} {H H' : Hp} {r a : Addr} {ns : List Int} {p q : Nat} (R : RdAt K CR H r a ns p) (o : Oth r H H') (hq : q ≤ ns.length) (h : ∃ dr, H' r = some (.ins CR dr (rf a q))) : RdAt K CR H' r a ns q := by
  obtain ⟨dr, h1⟩ := R.obj
  exact ⟨R.byts, h, R.seq.keep fun ob u e => o _ _ (ne_of e h1 (by intro z; cases z)) e, hq⟩
theorem RdAt.same {K : PySem.W.Frag} {CR : Addr} {H H' : Hp} {r a : Addr} {ns : List Int} {p : Nat} (R : RdAt K CR H r a ns p) (o : Same H H') : RdAt K CR H' r a ns p := by
  obtain ⟨dr, h1⟩ := R.obj
  exact ⟨R.byts, ⟨dr, o _ _ h1⟩, R.seq.keep fun ob u e => o _ _ e, R.le⟩
theorem RdAt.lst {K : PySem.W.Frag} {CR : Addr} {H : Hp} {r a l : Addr} {ns : List Int} {p : Nat} {xs ys : List V} (R : RdAt K CR H r a ns p) (e : H l = some (.lst xs)) : RdAt K CR (upd H l (.lst ys)) r a ns p := by
  obtain ⟨dr, h1⟩ := R.obj
  exact ⟨R.byts, ⟨dr, by rw [upd_ne (ne_of h1 e (by intro z; cases z))]; exact h1⟩, R.seq.keep fun ob u q => by rw [upd_ne (ne_of q e (by intro z; cases z))]; exact q, R.le⟩
noncomputable def spXI (C : Addr) : Sp := fun vs H Q _ => ∃ (x : Addr) (n : Int), vs = [.ref x, .int n] ∧ H x = some (xn x C none) ∧ ∀ d H', H' x = some (xn x C (some d)) → H' d = some (.xd [("place", .int n)]) → Q .non H'
noncomputable def spRI (C : Addr) : Sp := fun vs H Q _ => ∃ (r dr a : Addr), vs = [.ref r, .ref a] ∧ H r = some (.ins C dr []) ∧ ∀ H', H' r = some (.ins C dr (rf a 0)) → Oth r H H' → Q .non H'
noncomputable def spTake (K : PySem.W.Frag) (CE CR : Addr) : Sp := fun vs H Q E => ∃ (r a : Addr) (ns : List Int) (p lo hi : Nat), vs = [.ref r, .int lo, .int hi] ∧ RdAt K CR H r a ns p ∧
  Rk CE E (numAt lo hi ANY p ((byt ns).drop p)) fun n q => ∀ H', RdAt K CR H' r a ns q → Oth r H H' → Q (.int n) H'
noncomputable def spRow (K : PySem.W.Frag) (CE CR : Addr) : Sp := fun vs H Q E => ∃ (r a : Addr) (ns : List Int) (p m : Nat), vs = [.ref r, .int (m + 1 : Nat)] ∧ RdAt K CR H r a ns p ∧
  Rk CE E (numAt 0 m ANY p ((byt ns).drop p)) fun n q => ∀ H', RdAt K CR H' r a ns q → Oth r H H' → Q (.int n) H'
noncomputable def spOther (K : PySem.W.Frag) (CE CR : Addr) : Sp := fun vs H Q E => ∃ (r a : Addr) (ns : List Int) (p x : Nat) (v : V), vs = [.ref r, v] ∧ ((v = .non ∧ 8 < x) ∨ v = .int x) ∧ RdAt K CR H r a ns p ∧
  Rk CE E (numAt 0 8 x p ((byt ns).drop p)) fun n q => ∀ H', RdAt K CR H' r a ns q → Oth r H H' → Q (.int n) H'
noncomputable def spEnd (K : PySem.W.Frag) (CE CR : Addr) : Sp := fun vs H Q E => ∃ (r a : Addr) (ns : List Int) (p : Nat), vs = [.ref r] ∧ RdAt K CR H r a ns p ∧ (p < ns.length → Wrong CE E p) ∧ (p = ns.length → Q .non H)
structure TR (K : PySem.W.Frag) (mg : Str → Option Value) (CE NE fE CR fR fTk fTr fTo fTe : Addr) : Prop where
  xc : XCls K CE NE fE
  nx : PySem.W.nsIn K NE "place" = some none
  mgE : mg "WrongByte" = some (.ref CE)
  ve : mg "ValueError" = none
  len : mg "len" = none
  mgR : mg "ByteReader" = some (.ref CR)
  cl : Cls K CR
  nD : NoAttr K CR "data"
  nP : NoAttr K CR "place"
  mkR : Mk K CR fR
  mTk : Meth K CR "take" fTk
  mTr : Meth K CR "take_row" fTr
  mTo : Meth K CR "take_other_tincture" fTo
  mTe : Meth K CR "take_end" fTe
  t9 : ∃ t, mg "TINCTURE_ROWS" = some (.int 9 t)
section
variable {P : Program} {w : World} {K : PySem.W.Frag} {mg : Str → Option Value} {base : Heap} {CE NE fE CR fR fTk fTr fTo fTe : Addr}
theorem ty_place : typeLookup (.type "ValueError") "place" = pure none := by rw [typeLookup_type, builtinLookup_eq_fast]; first | rfl | kernel_rfl
theorem scXI : FnScope ["self", "place"] ["self", "place"] (defScope sXI) := ⟨rfl, rfl, rfl, by decide +kernel, rfl, by decide +kernel, by decide +kernel⟩
theorem ok_xi {fd : FuncData} (F : Fun K "__init__" "WrongByte.__init__" sXI fE fd) (T : TR K mg CE NE fE CR fR fTk fTr fTo fTe) : FnOk P w K mg base (CXx P w) 1 fE fd ["self", "place"] (spXI CE) := by
  refine F.okX scXI (fun vs H Q E h => ?_) (fun cdv A outer s H vs Q E hr h => ?_)
  · obtain ⟨x, n, rfl, _⟩ := h
    rfl
  · obtain ⟨x, n, rfl, hx, k⟩ := h
    refine ⟨_, pss_cons (ps_expr (pe_xinit rfl T.ve (pa_cons (pv 0) (pa_cons (pv 1) pa_nil)))) (pss_one (ps_xfld (pv 0) (pv 1) ty_place rfl)), ?_⟩
    refine ⟨_, rfl, _, rfl, x, CE, NE, fE, none, _, rfl, (by show 1 ≤ 1000; decide), hx, T.xc, _, rfl, _, rfl, x, CE, NE, fE, rfl, hx, T.xc, T.nx, fun d hd => ?_⟩
    exact k d _ (by rw [upd_ne (ne_of_none hx hd), upd_same]) upd_same
theorem raise_wrong {E : XK} {n : Nat} (hW : Wrong CE E n) (H1 : Hp) : ∀ x, H1 x = none → spXI CE [.ref x, .int n] (upd H1 x (xn x CE none)) (fun v H2 => v = .non ∧ ∃ d, H2 x = some (xn x CE (some d)) ∧ E (.ref CE) (some d) (upd H2 x (xo x CE d))) E0 :=
  fun x _ => ⟨x, n, rfl, upd_same, fun d H' h1 h2 => ⟨rfl, d, h1, hW d _ (by rw [upd_ne (ne_of h2 h1 (by intro z; cases z))]; exact h2)⟩⟩
theorem scRI : FnScope ["self", "data"] ["self", "data"] (defScope sRI) := ⟨rfl, rfl, rfl, by decide +kernel, rfl, by decide +kernel, by decide +kernel⟩
theorem ok_ri {fd : FuncData} (F : Fun K "__init__" "ByteReader.__init__" sRI fR fd) (T : TR K mg CE NE fE CR fR fTk fTr fTo fTe) : FnOk P w K mg base (CXx P w) 1 fR fd ["self", "data"] (spRI CR) := by
  refine F.okX scRI (fun vs H Q E h => ?_) (fun cdv A outer s H vs Q E hr h => ?_)
  · obtain ⟨r, dr, a, rfl, _⟩ := h
    rfl
  · obtain ⟨r, dr, a, rfl, hr0, k⟩ := h
    refine ⟨_, pss_cons (ps_fld (pv 0) (pv 1) rfl) (pss_one (ps_fld (pv 0) pe_int rfl)), ?_⟩
    refine ⟨_, rfl, _, rfl, r, CR, dr, [], rfl, hr0, T.cl, T.nD, (by show 0 < 1000; decide), _, rfl, r, CR, dr, _, rfl, upd_same, T.cl, T.nP, (by show 1 < 1000; decide), ?_⟩
    rw [upd_upd]
    exact k _ upd_same (Oth.upd _ _ _)
theorem scTk : FnScope ["self", "least", "most", "byte"] ["self", "least", "most"] (defScope sTk) := ⟨rfl, rfl, rfl, by decide +kernel, rfl, by decide +kernel, by decide +kernel⟩
theorem ok_take {fdE fd : FuncData} (F : Fun K "take" "ByteReader.take" sTk fTk fd) (T : TR K mg CE NE fE CR fR fTk fTr fTo fTe) (GI : FnOk P w K mg base (CXx P w) 1 fE fdE ["self", "place"] (spXI CE)) (bI : Binds K fdE ["self", "place"] []) :
    FnOk P w K mg base (CXx P w) 3 fTk fd ["self", "least", "most"] (spTake K CE CR) := by
  refine F.okX scTk (fun vs H Q E h => ?_) (fun cdv A outer s H vs Q E hr h => ?_)
  · obtain ⟨r, a, ns, p, lo, hi, rfl, _⟩ := h
    rfl
  · obtain ⟨r, a, ns, p, lo, hi, rfl, R, k⟩ := h
    obtain ⟨hb, ⟨dr, hR⟩, hS, hp⟩ := id R
    refine ⟨_, pss_cons (ps_if (pt_cmpR op_eq (pe_fld (pv 0) rfl) (pe_callB call_len_seq (by rfl) T.len PySem.boot_len (pa_cons (pe_fld (pv 0) rfl) pa_nil)) (nomark _)) (pss_one (ps_raise T.xc GI hr rfl T.mgE bI rfl rfl flies (pa_cons (pe_fld (pv 0) rfl) pa_nil))) pss_nil)
      (pss_cons (ps_set (i := 3) scTk.nd rfl (Or.inl rfl) (pe_ix ix_list (pe_fld (pv 0) rfl) (pe_fld (pv 0) rfl) (fun _ _ => rfl)))
      (pss_cons (ps_if (PW.pt (pw_or (pt_cmpR op_lt (pv 3) (pv 1) (nomark _)) (pw_or1 (pt_cmpR op_gt (pv 3) (pv 2) (nomark _))))) (pss_one (ps_raise T.xc GI hr rfl T.mgE bI rfl rfl flies (pa_cons (pe_fld (pv 0) rfl) pa_nil))) pss_nil)
      (pss_cons (ps_fld (pv 0) (pe_op op_add (pe_fld (pv 0) rfl) pe_int) rfl)
      (pss_one (ps_ret (pv 3)))))), ?_⟩
    refine ⟨_, rfl, r, CR, dr, _, _, rfl, hR, T.cl, T.nP, rf_place a p, _, rfl, r, CR, dr, _, _, rfl, hR, T.cl, T.nD, rf_data a p, a, _, rfl, .inl hS.l, rfl, _, rfl, ?_⟩
    rw [List.length_map]
    by_cases hpl : p = ns.length
    · refine iteP (decide_eq_true (by rw [hpl])) ?_
      rw [num_end (by rw [byt_len]; omega)] at k
      exact ⟨_, rfl, r, CR, dr, _, _, rfl, hR, T.cl, T.nP, rf_place a p, (by show 1 ≤ 1000; decide), raise_wrong k H⟩
    · refine iteN (by exact fun z => hpl (by have := of_decide_eq_true z; injection this with e; omega)) ?_
      have hlt : p < ns.length := by omega
      obtain ⟨z, hz⟩ : ∃ z, ns[p]? = some z := ⟨_, List.getElem?_eq_getElem hlt⟩
      have hzb := hb z (List.mem_of_getElem? hz)
      refine ⟨_, rfl, r, CR, dr, _, _, rfl, hR, T.cl, T.nD, rf_data a p, _, rfl, r, CR, dr, _, _, rfl, hR, T.cl, T.nP, rf_place a p, a, _, _, _, rfl, rfl, hS.l, at_of (j := p) (v := V.int z) rfl (by rw [List.getElem?_map, hz]; rfl), ?_⟩
      rw [num_at hb hz] at k
      have bad : ∀ D σ, Wrong CE E p → (σ : L2.St)[0]? = some (some (V.ref r)) → tRaise CE (spXI CE) E (tCons (tFld K (tVar 0) "place") tNil) D σ H := fun D σ q h0 =>
        ⟨_, h0, r, CR, dr, _, _, rfl, hR, T.cl, T.nP, rf_place a p, (by show 1 ≤ 1000; decide), raise_wrong q H⟩
      refine ⟨_, rfl, _, rfl, _, _, rfl, rfl, _, rfl, ?_⟩
      by_cases h1 : z < lo
      · refine iteP (decide_eq_true h1) (iteP rfl ?_)
        rw [if_pos (.inl h1)] at k
        exact bad _ _ k rfl
      · refine iteN (by rw [decide_eq_false h1]; exact Bool.false_ne_true) ?_
        refine ⟨_, rfl, _, rfl, _, _, rfl, rfl, _, rfl, ?_⟩
        by_cases h2 : (hi : Int) < z
        · refine iteP (decide_eq_true h2) ?_
          rw [if_pos (.inr (.inl h2))] at k
          exact bad _ _ k rfl
        · refine iteN (by rw [decide_eq_false h2]; exact Bool.false_ne_true) ?_
          rw [if_neg (by unfold ANY; omega)] at k
          refine ⟨_, rfl, r, CR, dr, _, _, rfl, hR, T.cl, T.nP, rf_place a p, _, _, rfl, rfl, _, rfl, r, CR, dr, _, rfl, hR, T.cl, T.nP, rf_len a p, _, rfl, ?_⟩
          have e1 : putF "place" (V.int ((p : Int) + 1)) (rf a p) = rf a (p + 1) := rf_put a p (p + 1)
          have e2 : V.int z = V.int ((z.toNat : Nat) : Int) := by rw [Int.toNat_of_nonneg hzb.1]
          show Q (V.int z) (upd H r (.ins CR dr (putF "place" (V.int ((p : Int) + 1)) (rf a p))))
          rw [e1, e2]
          exact k _ (R.oth (Oth.upd _ _ _) hlt ⟨dr, upd_same⟩) (Oth.upd _ _ _)
theorem scTr : FnScope ["self", "rows"] ["self", "rows"] (defScope sTr) := ⟨rfl, rfl, rfl, by decide +kernel, rfl, by decide +kernel, by decide +kernel⟩
theorem ok_row {fdT fd : FuncData} (F : Fun K "take_row" "ByteReader.take_row" sTr fTr fd) (T : TR K mg CE NE fE CR fR fTk fTr fTo fTe) (G : FnOk P w K mg base (CXx P w) 3 fTk fdT ["self", "least", "most"] (spTake K CE CR)) (b : Binds K fdT ["self", "least", "most"] []) :
    FnOk P w K mg base (CXx P w) 4 fTr fd ["self", "rows"] (spRow K CE CR) := by
  refine F.okX scTr (fun vs H Q E h => ?_) (fun cdv A outer s H vs Q E hr h => ?_)
  · obtain ⟨r, a, ns, p, m, rfl, _⟩ := h
    rfl
  · obtain ⟨r, a, ns, p, m, rfl, R, k⟩ := h
    obtain ⟨hb, ⟨dr, hR⟩, hS, hp⟩ := id R
    refine ⟨_, pss_one (ps_ret (pe_meth (pv 0) T.cl T.mTk G hr b .nil (passX rfl flies) (pa_cons pe_int (pa_cons (pe_op op_sub (pv 1) pe_int) pa_nil)))), ?_⟩
    refine ⟨_, rfl, r, dr, _, rfl, hR, rf_no a p (by decide +kernel) (by decide +kernel), _, rfl, _, _, rfl, rfl, r, a, ns, p, 0, m, ?_, R, k⟩
    dsimp only
    rw [show (((m + 1 : Nat) : Int) - 1) = (m : Int) by omega]
    rfl
theorem scTo : FnScope ["self", "first", "tincture"] ["self", "first"] (defScope sTo) := ⟨rfl, rfl, rfl, by decide +kernel, rfl, by decide +kernel, by decide +kernel⟩
theorem ok_other {fdE fdT fd : FuncData} (F : Fun K "take_other_tincture" "ByteReader.take_other_tincture" sTo fTo fd) (T : TR K mg CE NE fE CR fR fTk fTr fTo fTe) (GI : FnOk P w K mg base (CXx P w) 1 fE fdE ["self", "place"] (spXI CE)) (bI : Binds K fdE ["self", "place"] [])
    (G : FnOk P w K mg base (CXx P w) 4 fTr fdT ["self", "rows"] (spRow K CE CR)) (b : Binds K fdT ["self", "rows"] []) : FnOk P w K mg base (CXx P w) 5 fTo fd ["self", "first"] (spOther K CE CR) := by
  refine F.okX scTo (fun vs H Q E h => ?_) (fun cdv A outer s H vs Q E hr h => ?_)
  · obtain ⟨r, a, ns, p, x, v, rfl, _⟩ := h
    rfl
  · obtain ⟨r, a, ns, p, x, v, rfl, hv, R, k⟩ := h
    obtain ⟨hb, ⟨dr, hR⟩, hS, hp⟩ := id R
    obtain ⟨t9, h9⟩ := T.t9
    have hr2 : Room 2 _ := hr.mono (by decide)
    refine ⟨_, pss_cons (ps_set (i := 2) scTo.nd rfl (Or.inl rfl) (pe_meth (pv 0) T.cl T.mTr G hr b .nil (passX rfl flies) (pa_cons (pe_glob (v := .int 9) rfl h9 ⟨t9, rfl⟩) pa_nil)))
      (pss_cons (ps_if (pt_cmpR op_eq (pv 2) (pv 1) (nomark _)) (pss_one (ps_raise T.xc GI hr2 rfl T.mgE bI rfl rfl flies (pa_cons (pe_op op_sub (pe_fld (pv 0) rfl) pe_int) pa_nil))) pss_nil)
      (pss_one (ps_ret (pv 2)))), ?_⟩
    refine ⟨_, rfl, r, dr, _, rfl, hR, rf_no a p (by decide +kernel) (by decide +kernel), r, a, ns, p, 8, rfl, R, ?_⟩
    rw [num_other] at k
    cases e : numAt 0 8 ANY p ((byt ns).drop p) with
    | error q => rw [e] at k; exact k
    | ok t =>
      obtain ⟨e1, e2, e3, e4, e5⟩ := num_ok e
      rw [e] at k
      intro H' R' o'
      obtain ⟨dr', hR'⟩ := R'.obj
      have ep : t.2.1 = p + 1 := by rw [e1]
      have sc : scal (V.int (t.1 : Nat)) v = true := by
        rcases hv with ⟨rfl, _⟩ | rfl <;> rfl
      refine ⟨_, rfl, _, rfl, sc, _, rfl, ?_⟩
      simp only at k
      by_cases hx : t.1 = x
      · rw [if_pos hx] at k
        have ev : V.int (t.1 : Nat) = v := by
          rcases hv with ⟨_, h8⟩ | rfl
          · omega
          · rw [hx]
        refine iteP (decide_eq_true ev) ?_
        refine ⟨_, rfl, r, CR, dr', _, _, rfl, hR', T.cl, T.nP, rf_place a _, _, _, rfl, rfl, (by show 1 ≤ 1000; decide), ?_⟩
        dsimp only
        rw [show ((t.2.1 : Nat) : Int) - 1 = (p : Int) by rw [ep]; omega]
        exact raise_wrong k H'
      · rw [if_neg hx] at k
        have ev : ¬ V.int (t.1 : Nat) = v := by
          rcases hv with ⟨rfl, _⟩ | rfl
          · intro z; cases z
          · intro z; injection z with z; exact hx (by omega)
        refine iteN (by rw [decide_eq_false ev]; exact Bool.false_ne_true) ?_
        exact ⟨_, rfl, k H' R' o'⟩
theorem scTe : FnScope ["self"] ["self"] (defScope sTe) := ⟨rfl, rfl, rfl, by decide +kernel, rfl, by decide +kernel, by decide +kernel⟩
theorem ok_end {fdE fd : FuncData} (F : Fun K "take_end" "ByteReader.take_end" sTe fTe fd) (T : TR K mg CE NE fE CR fR fTk fTr fTo fTe) (GI : FnOk P w K mg base (CXx P w) 1 fE fdE ["self", "place"] (spXI CE)) (bI : Binds K fdE ["self", "place"] []) :
    FnOk P w K mg base (CXx P w) 3 fTe fd ["self"] (spEnd K CE CR) := by
  refine F.okX scTe (fun vs H Q E h => ?_) (fun cdv A outer s H vs Q E hr h => ?_)
  · obtain ⟨r, a, ns, p, rfl, _⟩ := h
    rfl
  · obtain ⟨r, a, ns, p, rfl, R, k1, k2⟩ := h
    obtain ⟨hb, ⟨dr, hR⟩, hS, hp⟩ := id R
    refine ⟨_, pss_one (ps_if (pt_cmpR op_lt (pe_fld (pv 0) rfl) (pe_callB call_len_seq (by rfl) T.len PySem.boot_len (pa_cons (pe_fld (pv 0) rfl) pa_nil)) (nomark _)) (pss_one (ps_raise T.xc GI hr rfl T.mgE bI rfl rfl flies (pa_cons (pe_fld (pv 0) rfl) pa_nil))) pss_nil), ?_⟩
    refine ⟨_, rfl, r, CR, dr, _, _, rfl, hR, T.cl, T.nP, rf_place a p, _, rfl, r, CR, dr, _, _, rfl, hR, T.cl, T.nD, rf_data a p, a, _, rfl, .inl hS.l, _, _, rfl, rfl, _, rfl, ?_⟩
    rw [List.length_map]
    by_cases hpl : p < ns.length
    · refine iteP (decide_eq_true (by omega)) ?_
      exact ⟨_, rfl, r, CR, dr, _, _, rfl, hR, T.cl, T.nP, rf_place a p, (by show 1 ≤ 1000; decide), raise_wrong (k1 hpl) H⟩
    · refine iteN (by exact fun z => hpl (by have := of_decide_eq_true z; omega)) ?_
      exact k2 (by omega)
end
theorem rk1 {α β : Type} {C : Addr} {E : XK} {x : Except Nat (α × Nat × Bytes)} {F : α → Nat → Bytes → Except Nat (β × Nat × Bytes)} {Kg : β → Nat → Prop} {Kf : α → Nat → Prop} (k : Rk C E (bnd x F) Kg)
    (h : ∀ t, x = .ok t → Rk C E (F t.1 t.2.1 t.2.2) Kg → Kf t.1 t.2.1) : Rk C E x Kf := by
  cases x with
  | error e => exact k
  | ok t => exact h t rfl k
theorem rk_num {β : Type} {C : Addr} {E : XK} {lo hi y p : Nat} {ns : List Int} {F : Nat → Nat → Bytes → Except Nat (β × Nat × Bytes)} {Kg : β → Nat → Prop} {Kf : Nat → Nat → Prop} (k : Rk C E (bnd (numAt lo hi y p ((byt ns).drop p)) F) Kg)
    (h : ∀ n, lo ≤ n → n ≤ hi → n ≠ y → Rk C E (F n (p + 1) ((byt ns).drop (p + 1))) Kg → Kf n (p + 1)) : Rk C E (numAt lo hi y p ((byt ns).drop p)) Kf := by
  refine rk1 k fun t e q => ?_
  obtain ⟨e1, _, e2, e3, e4⟩ := num_ok e
  rw [e1] at q ⊢
  exact h _ e2 e3 e4 q
theorem rk_field {β : Type} {C : Addr} {E : XK} {p : Nat} {ns : List Int} {F : Field → Nat → Bytes → Except Nat (β × Nat × Bytes)} {Kg : β → Nat → Prop} {Kf : Field → Nat → Prop} (k : Rk C E (bnd (fieldAt p ((byt ns).drop p)) F) Kg)
    (h : ∀ f q, FieldOk f → Rk C E (F f q ((byt ns).drop q)) Kg → Kf f q) : Rk C E (fieldAt p ((byt ns).drop p)) Kf := by
  refine rk1 k fun t e q => ?_
  obtain ⟨e1, _, _, e3⟩ := field_ok e
  rw [e3] at q
  exact h _ _ e1 q
theorem rk_fill {β : Type} {C : Addr} {E : XK} {p : Nat} {ns : List Int} {below : Field} {F : Fill → Nat → Bytes → Except Nat (β × Nat × Bytes)} {Kg : β → Nat → Prop} {Kf : Fill → Nat → Prop} (k : Rk C E (bnd (fillAt below p ((byt ns).drop p)) F) Kg)
    (h : ∀ f q, FillOk below f → Rk C E (F f q ((byt ns).drop q)) Kg → Kf f q) : Rk C E (fillAt below p ((byt ns).drop p)) Kf := by
  refine rk1 k fun t e q => ?_
  obtain ⟨e1, _, _, e3⟩ := fill_ok e
  rw [e3] at q
  exact h _ _ e1 q
theorem free_of {r z : Addr} {H H1 : Hp} {u : HO} (o : Oth r H H1) (hr : H1 r = some u) (nz : H1 z = none) : H z = none := by
  cases q : H z with
  | none => rfl
  | some v =>
    have y := o z v (fun e => by rw [e, hr] at nz; cases nz) q
    rw [nz] at y; cases y
noncomputable abbrev vn (n : Nat) : V := .int (n : Int)
structure RC (K : PySem.W.Frag) (mg : Str → Option Value) (nm : Str) (C f : Addr) (as : List Str) : Prop where
  cl : Cls K C
  at_ : mg nm = some (.ref C)
  mkc : L2.Mk K C f
  no : ∀ a ∈ as, NoAttr K C a
noncomputable def ffv (k w n l a b : V) : List (Str × V) := putF "second" b (putF "first" a (putF "line" l (putF "pieces" n (putF "way" w (putF "kind" k [])))))
noncomputable def ff (k w n l a b : Nat) : List (Str × V) := ffv (vn k) (vn w) (vn n) (vn l) (vn a) (vn b)
noncomputable def fOf : Field → List (Str × V)
  | .plain t => ff 0 0 0 0 t t
  | .parted d l a b => ff 1 d 0 l a b
  | .varied v n l a b => ff 2 v n l a b
noncomputable def ofv (o l f : V) : List (Str × V) := putF "fill" f (putF "line" l (putF "ordinary" o []))
noncomputable def gfv (c n m s f : V) : List (Str × V) := putF "fill" f (putF "size" s (putF "manner" m (putF "how_many" n (putF "charge" c []))))
noncomputable def afv (f l : V) : List (Str × V) := putF "layers" l (putF "field" f [])
noncomputable def FieldAt (CF : Addr) (H : Hp) (z : Addr) (f : Field) : Prop := ∃ dz, H z = some (.ins CF dz (fOf f))
noncomputable def FillAt (CF : Addr) (H : Hp) (v : V) : Fill → Prop
  | .counter => v = .non
  | .solid f => ∃ y, v = .ref y ∧ FieldAt CF H y f
noncomputable def LayerAt (CF CO CG : Addr) (H : Hp) (z : Addr) : Layer → Prop
  | .ord o l f => ∃ dz v, H z = some (.ins CO dz (ofv (vn o) (vn l) v)) ∧ FillAt CF H v f
  | .group c n m s f => ∃ dz v, H z = some (.ins CG dz (gfv (vn c) (vn n) (vn m) (vn s) v)) ∧ FillAt CF H v f
noncomputable def LayersAt (CF CO CG : Addr) (H : Hp) (zs : List Addr) (ls : List Layer) : Prop := Paired (fun z l => LayerAt CF CO CG H z l) zs ls
noncomputable def ArmsAt (CF CO CG CA : Addr) (H : Hp) (z : Addr) (x : Arms) : Prop := ∃ dz zf zl zs, H z = some (.ins CA dz (afv (.ref zf) (.ref zl))) ∧ FieldAt CF H zf x.field ∧ H zl = some (.lst (zs.map V.ref)) ∧ LayersAt CF CO CG H zs x.layers
noncomputable def Kp (CR : Addr) (H H' : Hp) : Prop := ∀ b C d fs, C ≠ CR → H b = some (.ins C d fs) → H' b = some (.ins C d fs)
theorem Kp.of_oth {CR r dr : Addr} {fs : List (Str × V)} {H H' : Hp} (h : H r = some (.ins CR dr fs)) (o : Oth r H H') : Kp CR H H' := fun b C d gs hc e => o b _ (ne_of e h (by intro z; injection z with z; exact hc z)) e
theorem Kp.of_same {CR : Addr} {H H' : Hp} (s : Same H H') : Kp CR H H' := fun b C d gs _ e => s _ _ e
theorem Kp.lst {CR l : Addr} {xs ys : List V} {H : Hp} (h : H l = some (.lst xs)) : Kp CR H (upd H l (.lst ys)) := fun b C d gs _ e => by rw [upd_ne (ne_of e h (by intro z; cases z))]; exact e
theorem Kp.trans {CR : Addr} {H H1 H2 : Hp} (a : Kp CR H H1) (b : Kp CR H1 H2) : Kp CR H H2 := fun c C d gs hc e => b c C d gs hc (a c C d gs hc e)
theorem FieldAt.kp {CF CR z : Addr} {H H' : Hp} {f : Field} (x : FieldAt CF H z f) (n : CF ≠ CR) (k : Kp CR H H') : FieldAt CF H' z f := let ⟨d, e⟩ := x; ⟨d, k _ _ _ _ n e⟩
theorem FillAt.kp {CF CR : Addr} {v : V} {H H' : Hp} {f : Fill} (x : FillAt CF H v f) (n : CF ≠ CR) (k : Kp CR H H') : FillAt CF H' v f := by
  cases f with
  | counter => exact x
  | solid f => obtain ⟨y, e, q⟩ := x; exact ⟨y, e, q.kp n k⟩
theorem LayerAt.kp {CF CO CG CR z : Addr} {H H' : Hp} {l : Layer} (x : LayerAt CF CO CG H z l) (n : CF ≠ CR) (n2 : CO ≠ CR) (n3 : CG ≠ CR) (k : Kp CR H H') : LayerAt CF CO CG H' z l := by
  cases l with
  | ord o l f => obtain ⟨d, v, e, q⟩ := x; exact ⟨d, v, k _ _ _ _ n2 e, q.kp n k⟩
  | group c n' m s f => obtain ⟨d, v, e, q⟩ := x; exact ⟨d, v, k _ _ _ _ n3 e, q.kp n k⟩
theorem LayersAt.kp {CF CO CG CR : Addr} {H H' : Hp} {zs : List Addr} {ls : List Layer} (x : LayersAt CF CO CG H zs ls) (n : CF ≠ CR) (n2 : CO ≠ CR) (n3 : CG ≠ CR) (k : Kp CR H H') : LayersAt CF CO CG H' zs ls :=
  Paired.mapP x fun _ _ q => q.kp n n2 n3 k
theorem paired_snoc {α β : Type} {G : α → β → Prop} {a : α} {b : β} (g : G a b) : ∀ {l : List α} {m : List β}, Paired G l m → Paired G (l ++ [a]) (m ++ [b])
  | _, _, .nil => .cons g .nil
  | _, _, .cons r t => .cons r (paired_snoc g t)
theorem paired_len {α β : Type} {G : α → β → Prop} : ∀ {l : List α} {m : List β}, Paired G l m → l.length = m.length
  | _, _, .nil => rfl
  | _, _, .cons _ t => congrArg (· + 1) (paired_len t)
theorem f_kind (f : Field) : (fOf f).lookup ("kind" : Str) = some (.int (match f with | .plain _ => 0 | .parted .. => 1 | .varied .. => 2)) := by
  cases f <;> kernel_rfl
noncomputable def spFI (C : Addr) : Sp := fun vs H Q _ => ∃ (z dz : Addr) (k w n l a b : V), vs = [.ref z, k, w, n, l, a, b] ∧ H z = some (.ins C dz []) ∧ ∀ H', H' z = some (.ins C dz (ffv k w n l a b)) → Oth z H H' → Q .non H'
noncomputable def spOI (C : Addr) : Sp := fun vs H Q _ => ∃ (z dz : Addr) (o l f : V), vs = [.ref z, o, l, f] ∧ H z = some (.ins C dz []) ∧ ∀ H', H' z = some (.ins C dz (ofv o l f)) → Oth z H H' → Q .non H'
noncomputable def spGI (C : Addr) : Sp := fun vs H Q _ => ∃ (z dz : Addr) (c n m s f : V), vs = [.ref z, c, n, m, s, f] ∧ H z = some (.ins C dz []) ∧ ∀ H', H' z = some (.ins C dz (gfv c n m s f)) → Oth z H H' → Q .non H'
noncomputable def spAI (C : Addr) : Sp := fun vs H Q _ => ∃ (z dz : Addr) (f l : V), vs = [.ref z, f, l] ∧ H z = some (.ins C dz []) ∧ ∀ H', H' z = some (.ins C dz (afv f l)) → Oth z H H' → Q .non H'
noncomputable def spFd (K : PySem.W.Frag) (CE CR CF : Addr) (g : Nat → Bytes → Except Nat (Field × Nat × Bytes)) : Sp := fun vs H Q E => ∃ (r a : Addr) (ns : List Int) (p : Nat), vs = [.ref r] ∧ RdAt K CR H r a ns p ∧
  Rk CE E (g p ((byt ns).drop p)) fun f q => ∀ H' z, RdAt K CR H' r a ns q → Oth r H H' → H z = none → FieldAt CF H' z f → Q (.ref z) H'
noncomputable def spFl (K : PySem.W.Frag) (CE CR CF : Addr) : Sp := fun vs H Q E => ∃ (r a zf : Addr) (ns : List Int) (p : Nat) (below : Field), vs = [.ref r, .ref zf] ∧ RdAt K CR H r a ns p ∧ FieldAt CF H zf below ∧
  Rk CE E (fillAt below p ((byt ns).drop p)) fun f q => ∀ H' v, RdAt K CR H' r a ns q → Oth r H H' → FillAt CF H' v f → Q v H'
noncomputable def spLy (K : PySem.W.Frag) (CE CR CF CO CG : Addr) (g : Field → Nat → Bytes → Except Nat (Layer × Nat × Bytes)) : Sp := fun vs H Q E => ∃ (r a zf : Addr) (ns : List Int) (p : Nat) (below : Field), vs = [.ref r, .ref zf] ∧ RdAt K CR H r a ns p ∧ FieldAt CF H zf below ∧
  Rk CE E (g below p ((byt ns).drop p)) fun l q => ∀ H' z, RdAt K CR H' r a ns q → Oth r H H' → H z = none → LayerAt CF CO CG H' z l → Q (.ref z) H'
noncomputable def spRA (K : PySem.W.Frag) (CE CR CF CO CG CA : Addr) : Sp := fun vs H Q E => ∃ (a : Addr) (ns : List Int), vs = [.ref a] ∧ Byts ns ∧ SqF K H a (ns.map V.int) ∧
  match readArms (byt ns) with
  | .error e => Wrong CE E e
  | .ok x => ∀ H' z, Same H H' → H z = none → ArmsAt CF CO CG CA H' z x → Q (.ref z) H'
noncomputable def spLV : Sp := fun vs H Q _ => ∃ v : Nat, vs = [vn v] ∧ Q (vn ((if 5 ≤ v then 0 else 5) + 1)) H ∧ v ≤ 6
structure TA1 (K : PySem.W.Frag) (mg : Str → Option Value) (CR CF CO CG CA fF fO fG fA fRP fRT fLV fRV fRF fFL fOL fGL fRL fRA : Addr) : Prop where
  F : RC K mg "Field" CF fF ["kind", "way", "pieces", "line", "first", "second"]
  O : RC K mg "OrdinaryLayer" CO fO ["ordinary", "line", "fill"]
  G : RC K mg "GroupLayer" CG fG ["charge", "how_many", "manner", "size", "fill"]
  A : RC K mg "Arms" CA fA ["field", "layers"]
  nF : CF ≠ CR
  nO : CO ≠ CR
  nG : CG ≠ CR
  nA : CA ≠ CR
  rng : mg "range" = none
  i : ∀ nm z, (nm, z) ∈ ([("PLAIN", 0), ("PARTED", 1), ("VARIED", 2), ("LINE_ROWS", 6), ("PARTED_ROWS", 8), ("VARIED_ROWS", 7), ("ORDINARY_ROWS", 13), ("CHARGE_ROWS", 16), ("MANNER_ROWS", 7), ("CHEQUY", 5), ("LOZENGY", 6),
    ("LEAST_PIECES", 2), ("MOST_PIECES", 24), ("MOST_CHARGES", 10), ("MOST_SIZE", 4), ("MOST_LAYERS", 8), ("ORDINARY_LAYER", 0), ("GROUP_LAYER", 1), ("FIELD_FILL", 0), ("COUNTERCHANGED_FILL", 1)] : List (Str × Int)) → ∃ t, mg nm = some (.int z t)
  mRP : mg "read_plain" = some (.ref fRP)
  mRT : mg "read_parted" = some (.ref fRT)
  mLV : mg "lines_of_varied" = some (.ref fLV)
  mRV : mg "read_varied" = some (.ref fRV)
  mRF : mg "read_field" = some (.ref fRF)
  mFL : mg "read_fill" = some (.ref fFL)
  mOL : mg "read_ordinary_layer" = some (.ref fOL)
  mGL : mg "read_group_layer" = some (.ref fGL)
  mRL : mg "read_layer" = some (.ref fRL)
  mRA : mg "read_arms" = some (.ref fRA)
section
variable {P : Program} {w : World} {K : PySem.W.Frag} {mg : Str → Option Value} {base : Heap} {CE NE fE CR fR fTk fTr fTo fTe CF CO CG CA fF fO fG fA fRP fRT fLV fRV fRF fFL fOL fGL fRL fRA : Addr}
theorem scFI : FnScope ["self", "kind", "way", "pieces", "line", "first", "second"] ["self", "kind", "way", "pieces", "line", "first", "second"] (defScope sFI) := ⟨rfl, rfl, rfl, by decide +kernel, rfl, by decide +kernel, by decide +kernel⟩
theorem ok_fi {fd : FuncData} (F : Fun K "__init__" "Field.__init__" sFI fF fd) (T : RC K mg "Field" CF fF ["kind", "way", "pieces", "line", "first", "second"]) : FnOk P w K mg base (CXx P w) 1 fF fd ["self", "kind", "way", "pieces", "line", "first", "second"] (spFI CF) := by
  refine F.okX scFI (fun vs H Q E h => ?_) (fun cdv A outer s H vs Q E hr h => ?_)
  · obtain ⟨z, dz, k, w, n, l, a, b, rfl, _⟩ := h
    rfl
  · obtain ⟨z, dz, k, w, n, l, a, b, rfl, hz, q⟩ := h
    refine ⟨_, pss_cons (ps_fld (pv 0) (pv 1) rfl) (pss_cons (ps_fld (pv 0) (pv 2) rfl) (pss_cons (ps_fld (pv 0) (pv 3) rfl) (pss_cons (ps_fld (pv 0) (pv 4) rfl) (pss_cons (ps_fld (pv 0) (pv 5) rfl) (pss_one (ps_fld (pv 0) (pv 6) rfl)))))), ?_⟩
    refine ⟨_, rfl, _, rfl, z, CF, dz, [], rfl, hz, T.cl, T.no _ (by decide +kernel), (by show 0 < 1000; decide), ?_⟩
    refine ⟨_, rfl, _, rfl, z, CF, dz, _, rfl, upd_same, T.cl, T.no _ (by decide +kernel), (by show 1 < 1000; decide), ?_⟩
    refine ⟨_, rfl, _, rfl, z, CF, dz, _, rfl, upd_same, T.cl, T.no _ (by decide +kernel), (by show 2 < 1000; decide), ?_⟩
    refine ⟨_, rfl, _, rfl, z, CF, dz, _, rfl, upd_same, T.cl, T.no _ (by decide +kernel), (by show 3 < 1000; decide), ?_⟩
    refine ⟨_, rfl, _, rfl, z, CF, dz, _, rfl, upd_same, T.cl, T.no _ (by decide +kernel), (by show 4 < 1000; decide), ?_⟩
    refine ⟨_, rfl, _, rfl, z, CF, dz, _, rfl, upd_same, T.cl, T.no _ (by decide +kernel), (by show 5 < 1000; decide), ?_⟩
    exact q _ upd_same fun b o n e => by simp only [upd_ne n]; exact e
theorem scOI : FnScope ["self", "ordinary", "line", "fill"] ["self", "ordinary", "line", "fill"] (defScope sOI) := ⟨rfl, rfl, rfl, by decide +kernel, rfl, by decide +kernel, by decide +kernel⟩
theorem ok_oi {fd : FuncData} (F : Fun K "__init__" "OrdinaryLayer.__init__" sOI fO fd) (T : RC K mg "OrdinaryLayer" CO fO ["ordinary", "line", "fill"]) : FnOk P w K mg base (CXx P w) 1 fO fd ["self", "ordinary", "line", "fill"] (spOI CO) := by
  refine F.okX scOI (fun vs H Q E h => ?_) (fun cdv A outer s H vs Q E hr h => ?_)
  · obtain ⟨z, dz, o, l, f, rfl, _⟩ := h
    rfl
  · obtain ⟨z, dz, o, l, f, rfl, hz, q⟩ := h
    refine ⟨_, pss_cons (ps_fld (pv 0) (pv 1) rfl) (pss_cons (ps_fld (pv 0) (pv 2) rfl) (pss_one (ps_fld (pv 0) (pv 3) rfl))), ?_⟩
    refine ⟨_, rfl, _, rfl, z, CO, dz, [], rfl, hz, T.cl, T.no _ (by decide +kernel), (by show 0 < 1000; decide), ?_⟩
    refine ⟨_, rfl, _, rfl, z, CO, dz, _, rfl, upd_same, T.cl, T.no _ (by decide +kernel), (by show 1 < 1000; decide), ?_⟩
    refine ⟨_, rfl, _, rfl, z, CO, dz, _, rfl, upd_same, T.cl, T.no _ (by decide +kernel), (by show 2 < 1000; decide), ?_⟩
    exact q _ upd_same fun b o n e => by simp only [upd_ne n]; exact e
theorem scGI : FnScope ["self", "charge", "how_many", "manner", "size", "fill"] ["self", "charge", "how_many", "manner", "size", "fill"] (defScope sGI) := ⟨rfl, rfl, rfl, by decide +kernel, rfl, by decide +kernel, by decide +kernel⟩
theorem ok_gi {fd : FuncData} (F : Fun K "__init__" "GroupLayer.__init__" sGI fG fd) (T : RC K mg "GroupLayer" CG fG ["charge", "how_many", "manner", "size", "fill"]) : FnOk P w K mg base (CXx P w) 1 fG fd ["self", "charge", "how_many", "manner", "size", "fill"] (spGI CG) := by
  refine F.okX scGI (fun vs H Q E h => ?_) (fun cdv A outer s H vs Q E hr h => ?_)
  · obtain ⟨z, dz, c, n, m, s, f, rfl, _⟩ := h
    rfl
  · obtain ⟨z, dz, c, n, m, s', f, rfl, hz, q⟩ := h
    refine ⟨_, pss_cons (ps_fld (pv 0) (pv 1) rfl) (pss_cons (ps_fld (pv 0) (pv 2) rfl) (pss_cons (ps_fld (pv 0) (pv 3) rfl) (pss_cons (ps_fld (pv 0) (pv 4) rfl) (pss_one (ps_fld (pv 0) (pv 5) rfl))))), ?_⟩
    refine ⟨_, rfl, _, rfl, z, CG, dz, [], rfl, hz, T.cl, T.no _ (by decide +kernel), (by show 0 < 1000; decide), ?_⟩
    refine ⟨_, rfl, _, rfl, z, CG, dz, _, rfl, upd_same, T.cl, T.no _ (by decide +kernel), (by show 1 < 1000; decide), ?_⟩
    refine ⟨_, rfl, _, rfl, z, CG, dz, _, rfl, upd_same, T.cl, T.no _ (by decide +kernel), (by show 2 < 1000; decide), ?_⟩
    refine ⟨_, rfl, _, rfl, z, CG, dz, _, rfl, upd_same, T.cl, T.no _ (by decide +kernel), (by show 3 < 1000; decide), ?_⟩
    refine ⟨_, rfl, _, rfl, z, CG, dz, _, rfl, upd_same, T.cl, T.no _ (by decide +kernel), (by show 4 < 1000; decide), ?_⟩
    exact q _ upd_same fun b o n e => by simp only [upd_ne n]; exact e
theorem scAI : FnScope ["self", "field", "layers"] ["self", "field", "layers"] (defScope sAI) := ⟨rfl, rfl, rfl, by decide +kernel, rfl, by decide +kernel, by decide +kernel⟩
theorem ok_ai {fd : FuncData} (F : Fun K "__init__" "Arms.__init__" sAI fA fd) (T : RC K mg "Arms" CA fA ["field", "layers"]) : FnOk P w K mg base (CXx P w) 1 fA fd ["self", "field", "layers"] (spAI CA) := by
  refine F.okX scAI (fun vs H Q E h => ?_) (fun cdv A outer s H vs Q E hr h => ?_)
  · obtain ⟨z, dz, f, l, rfl, _⟩ := h
    rfl
  · obtain ⟨z, dz, f, l, rfl, hz, q⟩ := h
    refine ⟨_, pss_cons (ps_fld (pv 0) (pv 1) rfl) (pss_one (ps_fld (pv 0) (pv 2) rfl)), ?_⟩
    refine ⟨_, rfl, _, rfl, z, CA, dz, [], rfl, hz, T.cl, T.no _ (by decide +kernel), (by show 0 < 1000; decide), ?_⟩
    refine ⟨_, rfl, _, rfl, z, CA, dz, _, rfl, upd_same, T.cl, T.no _ (by decide +kernel), (by show 1 < 1000; decide), ?_⟩
    exact q _ upd_same fun b o n e => by simp only [upd_ne n]; exact e
theorem scRP : FnScope ["reader", "tincture"] ["reader"] (defScope sRP) := ⟨rfl, rfl, rfl, by decide +kernel, rfl, by decide +kernel, by decide +kernel⟩
theorem ok_rp {fdW fdF fd : FuncData} (F : Fun K "read_plain" "read_plain" sRP fRP fd) (T : TR K mg CE NE fE CR fR fTk fTr fTo fTe) (U : TA1 K mg CR CF CO CG CA fF fO fG fA fRP fRT fLV fRV fRF fFL fOL fGL fRL fRA)
    (GW : FnOk P w K mg base (CXx P w) 4 fTr fdW ["self", "rows"] (spRow K CE CR)) (bW : Binds K fdW ["self", "rows"] []) (GF : FnOk P w K mg base (CXx P w) 1 fF fdF ["self", "kind", "way", "pieces", "line", "first", "second"] (spFI CF)) (bF : Binds K fdF ["self", "kind", "way", "pieces", "line", "first", "second"] []) :
    FnOk P w K mg base (CXx P w) 5 fRP fd ["reader"] (spFd K CE CR CF plainB) := by
  refine F.okX scRP (fun vs H Q E h => ?_) (fun cdv A outer s H vs Q E hr h => ?_)
  · obtain ⟨r, a, ns, p, rfl, _⟩ := h
    rfl
  · obtain ⟨r, a, ns, p, rfl, R, k⟩ := h
    obtain ⟨dr, hR⟩ := R.obj
    obtain ⟨t9, h9⟩ := T.t9
    obtain ⟨t0, h0⟩ := U.i "PLAIN" 0 (by decide +kernel)
    have hr2 : Room 2 _ := hr.mono (by decide)
    refine ⟨_, pss_cons (ps_set (i := 1) scRP.nd rfl (Or.inl rfl) (pe_meth (pv 0) T.cl T.mTr GW hr bW .nil (passX rfl flies) (pa_cons (pe_glob (v := .int 9) rfl h9 ⟨t9, rfl⟩) pa_nil)))
      (pss_one (ps_ret (pe_make U.F.mkc GF hr2 rfl U.F.at_ bF .nil passN (pa_cons (pe_glob (v := .int 0) rfl h0 ⟨t0, rfl⟩) (pa_cons pe_int (pa_cons pe_int (pa_cons pe_int (pa_cons (pv 1) (pa_cons (pv 1) pa_nil))))))))), ?_⟩
    refine ⟨_, rfl, r, dr, _, rfl, hR, rf_no a p (by decide +kernel) (by decide +kernel), r, a, ns, p, 8, rfl, R, rk_num k fun n _ _ _ k => fun H1 R1 o1 => ?_⟩
    obtain ⟨dr1, hR1⟩ := R1.obj
    refine ⟨_, rfl, _, rfl, fun z dz nz nd ne => ⟨z, dz, _, _, _, _, _, _, rfl, upd_same, fun H2 hz o2 => ⟨rfl, ?_⟩⟩⟩
    have s2 : Same H1 H2 := Same.made nz nd fun b o e hb => o2 b o hb e
    exact k H2 z (R1.same s2) (fun b o n e => s2 _ _ (o1 b o n e)) (free_of o1 hR1 nz) ⟨dz, hz⟩
end
section
variable {P : Program} {w : World} {K : PySem.W.Frag} {mg : Str → Option Value} {base : Heap} {CE NE fE CR fR fTk fTr fTo fTe CF CO CG CA fF fO fG fA fRP fRT fLV fRV fRF fFL fOL fGL fRL fRA : Addr}
theorem scRT : FnScope ["reader", "way", "line", "first", "second"] ["reader"] (defScope sRT) := ⟨rfl, rfl, rfl, by decide +kernel, rfl, by decide +kernel, by decide +kernel⟩
theorem ok_rt {fdW fdO fdF fd : FuncData} (F : Fun K "read_parted" "read_parted" sRT fRT fd) (T : TR K mg CE NE fE CR fR fTk fTr fTo fTe) (U : TA1 K mg CR CF CO CG CA fF fO fG fA fRP fRT fLV fRV fRF fFL fOL fGL fRL fRA)
    (GW : FnOk P w K mg base (CXx P w) 4 fTr fdW ["self", "rows"] (spRow K CE CR)) (bW : Binds K fdW ["self", "rows"] []) (GO : FnOk P w K mg base (CXx P w) 5 fTo fdO ["self", "first"] (spOther K CE CR)) (bO : Binds K fdO ["self", "first"] [])
    (GF : FnOk P w K mg base (CXx P w) 1 fF fdF ["self", "kind", "way", "pieces", "line", "first", "second"] (spFI CF)) (bF : Binds K fdF ["self", "kind", "way", "pieces", "line", "first", "second"] []) :
    FnOk P w K mg base (CXx P w) 6 fRT fd ["reader"] (spFd K CE CR CF partedB) := by
  refine F.okX scRT (fun vs H Q E h => ?_) (fun cdv A outer s H vs Q E hr h => ?_)
  · obtain ⟨r, a, ns, p, rfl, _⟩ := h
    rfl
  · obtain ⟨r, a, ns, p, rfl, R, k⟩ := h
    obtain ⟨dr, hR⟩ := R.obj
    obtain ⟨t9, h9⟩ := T.t9
    obtain ⟨t1, h1⟩ := U.i "PARTED" 1 (by decide +kernel)
    obtain ⟨t8, h8⟩ := U.i "PARTED_ROWS" 8 (by decide +kernel)
    obtain ⟨t6, h6⟩ := U.i "LINE_ROWS" 6 (by decide +kernel)
    have hr2 : Room 2 _ := hr.mono (by decide)
    have hr4 : Room 4 _ := hr.mono (by decide)
    refine ⟨_, pss_cons (ps_set (i := 1) scRT.nd rfl (Or.inl rfl) (pe_meth (pv 0) T.cl T.mTr GW hr4 bW .nil (passX rfl flies) (pa_cons (pe_glob (v := .int 8) rfl h8 ⟨t8, rfl⟩) pa_nil)))
      (pss_cons (ps_set (i := 2) scRT.nd rfl (Or.inl rfl) (pe_meth (pv 0) T.cl T.mTr GW hr4 bW .nil (passX rfl flies) (pa_cons (pe_glob (v := .int 6) rfl h6 ⟨t6, rfl⟩) pa_nil)))
      (pss_cons (ps_set (i := 3) scRT.nd rfl (Or.inl rfl) (pe_meth (pv 0) T.cl T.mTr GW hr4 bW .nil (passX rfl flies) (pa_cons (pe_glob (v := .int 9) rfl h9 ⟨t9, rfl⟩) pa_nil)))
      (pss_cons (ps_set (i := 4) scRT.nd rfl (Or.inl rfl) (pe_meth (pv 0) T.cl T.mTo GO hr bO .nil (passX rfl flies) (pa_cons (pv 3) pa_nil)))
      (pss_one (ps_ret (pe_make U.F.mkc GF hr2 rfl U.F.at_ bF .nil passN (pa_cons (pe_glob (v := .int 1) rfl h1 ⟨t1, rfl⟩) (pa_cons (pv 1) (pa_cons pe_int (pa_cons (pv 2) (pa_cons (pv 3) (pa_cons (pv 4) pa_nil)))))))))))), ?_⟩
    refine ⟨_, rfl, r, dr, _, rfl, hR, rf_no a p (by decide +kernel) (by decide +kernel), r, a, ns, p, 7, rfl, R, rk_num k fun n1 _ _ _ k => fun H1 R1 o1 => ?_⟩
    obtain ⟨dr1, hR1⟩ := R1.obj
    refine ⟨_, rfl, r, dr1, _, rfl, hR1, rf_no a _ (by decide +kernel) (by decide +kernel), r, a, ns, _, 5, rfl, R1, rk_num k fun n2 _ _ _ k => fun H2 R2 o2 => ?_⟩
    obtain ⟨dr2, hR2⟩ := R2.obj
    refine ⟨_, rfl, r, dr2, _, rfl, hR2, rf_no a _ (by decide +kernel) (by decide +kernel), r, a, ns, _, 8, rfl, R2, rk_num k fun n3 _ _ _ k => fun H3 R3 o3 => ?_⟩
    obtain ⟨dr3, hR3⟩ := R3.obj
    refine ⟨_, rfl, r, dr3, _, rfl, hR3, rf_no a _ (by decide +kernel) (by decide +kernel), _, rfl, r, a, ns, _, n3, _, rfl, .inr rfl, R3, rk_num k fun n4 _ _ _ k => fun H4 R4 o4 => ?_⟩
    obtain ⟨dr4, hR4⟩ := R4.obj
    refine ⟨_, rfl, _, rfl, _, rfl, _, rfl, fun z dz nz nd ne => ⟨z, dz, _, _, _, _, _, _, rfl, upd_same, fun H5 hz o5 => ⟨rfl, ?_⟩⟩⟩
    have s5 : Same H4 H5 := Same.made nz nd fun b o e hb => o5 b o hb e
    have oo : Oth r H H4 := ((o1.trans o2).trans o3).trans o4
    exact k H5 z (R4.same s5) (fun b o n e => s5 _ _ (oo b o n e)) (free_of oo hR4 nz) ⟨dz, hz⟩
theorem scLV : FnScope ["way"] ["way"] (defScope sLV) := ⟨rfl, rfl, rfl, by decide +kernel, rfl, by decide +kernel, by decide +kernel⟩
theorem ok_lv {fd : FuncData} (F : Fun K "lines_of_varied" "lines_of_varied" sLV fLV fd) (U : TA1 K mg CR CF CO CG CA fF fO fG fA fRP fRT fLV fRV fRF fFL fOL fGL fRL fRA) : FnOk P w K mg base (CXx P w) 1 fLV fd ["way"] spLV := by
  refine F.okX scLV (fun vs H Q E h => ?_) (fun cdv A outer s H vs Q E hr h => ?_)
  · obtain ⟨v, rfl, _⟩ := h
    rfl
  · obtain ⟨v, rfl, k, hv⟩ := h
    obtain ⟨t5, h5⟩ := U.i "CHEQUY" 5 (by decide +kernel)
    obtain ⟨t6, h6⟩ := U.i "LOZENGY" 6 (by decide +kernel)
    obtain ⟨tl, hl⟩ := U.i "LINE_ROWS" 6 (by decide +kernel)
    refine ⟨_, pss_cons (ps_if (PW.pt (pw_or (pt_cmpR op_eq (pv 0) (pe_glob (v := .int 5) rfl h5 ⟨t5, rfl⟩) (nomark _)) (pw_or1 (pt_cmpR op_eq (pv 0) (pe_glob (v := .int 6) rfl h6 ⟨t6, rfl⟩) (nomark _))))) (pss_one (ps_ret pe_int)) pss_nil)
      (pss_one (ps_ret (pe_glob (v := .int 6) rfl hl ⟨tl, rfl⟩))), ?_⟩
    refine ⟨_, rfl, rfl, _, rfl, ?_⟩
    by_cases q5 : v = 5
    · subst q5
      refine iteP (decide_eq_true (by rfl)) (iteP rfl ?_)
      exact k
    · refine iteN (by intro z; have := of_decide_eq_true z; injection this with e; omega) ?_
      refine ⟨_, rfl, rfl, _, rfl, ?_⟩
      by_cases q6 : v = 6
      · subst q6
        refine iteP (decide_eq_true (by rfl)) ?_
        exact k
      · refine iteN (by intro z; have := of_decide_eq_true z; injection this with e; omega) ?_
        rw [if_neg (by omega)] at k
        exact k
theorem scRV : FnScope ["reader", "way", "pieces", "line", "first", "second"] ["reader"] (defScope sRV) := ⟨rfl, rfl, rfl, by decide +kernel, rfl, by decide +kernel, by decide +kernel⟩
theorem ok_rv {fdK fdW fdO fdF fdL fd : FuncData} (F : Fun K "read_varied" "read_varied" sRV fRV fd) (T : TR K mg CE NE fE CR fR fTk fTr fTo fTe) (U : TA1 K mg CR CF CO CG CA fF fO fG fA fRP fRT fLV fRV fRF fFL fOL fGL fRL fRA)
    (GK : FnOk P w K mg base (CXx P w) 3 fTk fdK ["self", "least", "most"] (spTake K CE CR)) (bK : Binds K fdK ["self", "least", "most"] [])
    (GW : FnOk P w K mg base (CXx P w) 4 fTr fdW ["self", "rows"] (spRow K CE CR)) (bW : Binds K fdW ["self", "rows"] []) (GO : FnOk P w K mg base (CXx P w) 5 fTo fdO ["self", "first"] (spOther K CE CR)) (bO : Binds K fdO ["self", "first"] [])
    (GF : FnOk P w K mg base (CXx P w) 1 fF fdF ["self", "kind", "way", "pieces", "line", "first", "second"] (spFI CF)) (bF : Binds K fdF ["self", "kind", "way", "pieces", "line", "first", "second"] [])
    (GL : FnOk P w K mg base (CXx P w) 1 fLV fdL ["way"] spLV) (bL : Binds K fdL ["way"] []) (kL : PySem.W.keepIn K (.ref fLV) = true) :
    FnOk P w K mg base (CXx P w) 6 fRV fd ["reader"] (spFd K CE CR CF variedB) := by
  refine F.okX scRV (fun vs H Q E h => ?_) (fun cdv A outer s H vs Q E hr h => ?_)
  · obtain ⟨r, a, ns, p, rfl, _⟩ := h
    rfl
  · obtain ⟨r, a, ns, p, rfl, R, k⟩ := h
    obtain ⟨dr, hR⟩ := R.obj
    obtain ⟨t9, h9⟩ := T.t9
    obtain ⟨t2, h2⟩ := U.i "VARIED" 2 (by decide +kernel)
    obtain ⟨t7, h7⟩ := U.i "VARIED_ROWS" 7 (by decide +kernel)
    obtain ⟨tl, hl⟩ := U.i "LEAST_PIECES" 2 (by decide +kernel)
    obtain ⟨tm, hm⟩ := U.i "MOST_PIECES" 24 (by decide +kernel)
    have hr1 : Room 1 _ := hr.mono (by decide)
    have hr2 : Room 2 _ := hr.mono (by decide)
    have hr3 : Room 3 _ := hr.mono (by decide)
    have hr4 : Room 4 _ := hr.mono (by decide)
    refine ⟨_, pss_cons (ps_set (i := 1) scRV.nd rfl (Or.inl rfl) (pe_meth (pv 0) T.cl T.mTr GW hr4 bW .nil (passX rfl flies) (pa_cons (pe_glob (v := .int 7) rfl h7 ⟨t7, rfl⟩) pa_nil)))
      (pss_cons (ps_set (i := 2) scRV.nd rfl (Or.inl rfl) (pe_meth (pv 0) T.cl T.mTk GK hr3 bK .nil (passX rfl flies) (pa_cons (pe_glob (v := .int 2) rfl hl ⟨tl, rfl⟩) (pa_cons (pe_glob (v := .int 24) rfl hm ⟨tm, rfl⟩) pa_nil))))
      (pss_cons (ps_set (i := 3) scRV.nd rfl (Or.inl rfl) (pe_meth (pv 0) T.cl T.mTr GW hr4 bW .nil (passX rfl flies) (pa_cons (pe_call GL hr1 rfl U.mLV kL bL .nil passN (pa_cons (pv 1) pa_nil)) pa_nil)))
      (pss_cons (ps_set (i := 4) scRV.nd rfl (Or.inl rfl) (pe_meth (pv 0) T.cl T.mTr GW hr4 bW .nil (passX rfl flies) (pa_cons (pe_glob (v := .int 9) rfl h9 ⟨t9, rfl⟩) pa_nil)))
      (pss_cons (ps_set (i := 5) scRV.nd rfl (Or.inl rfl) (pe_meth (pv 0) T.cl T.mTo GO hr bO .nil (passX rfl flies) (pa_cons (pv 4) pa_nil)))
      (pss_one (ps_ret (pe_make U.F.mkc GF hr2 rfl U.F.at_ bF .nil passN (pa_cons (pe_glob (v := .int 2) rfl h2 ⟨t2, rfl⟩) (pa_cons (pv 1) (pa_cons (pv 2) (pa_cons (pv 3) (pa_cons (pv 4) (pa_cons (pv 5) pa_nil))))))))))))), ?_⟩
    refine ⟨_, rfl, r, dr, _, rfl, hR, rf_no a p (by decide +kernel) (by decide +kernel), r, a, ns, p, 6, rfl, R, rk_num k fun n1 _ b1 _ k => fun H1 R1 o1 => ?_⟩
    obtain ⟨dr1, hR1⟩ := R1.obj
    refine ⟨_, rfl, r, dr1, _, rfl, hR1, rf_no a _ (by decide +kernel) (by decide +kernel), r, a, ns, _, 2, 24, rfl, R1, rk_num k fun n2 _ _ _ k => fun H2 R2 o2 => ?_⟩
    obtain ⟨dr2, hR2⟩ := R2.obj
    refine ⟨_, rfl, r, dr2, _, rfl, hR2, rf_no a _ (by decide +kernel) (by decide +kernel), _, rfl, n1, rfl, ⟨r, a, ns, _, (if 5 ≤ n1 then 0 else 5), rfl, R2, rk_num k fun n3 _ _ _ k => fun H3 R3 o3 => ?_⟩, b1⟩
    obtain ⟨dr3, hR3⟩ := R3.obj
    refine ⟨_, rfl, r, dr3, _, rfl, hR3, rf_no a _ (by decide +kernel) (by decide +kernel), r, a, ns, _, 8, rfl, R3, rk_num k fun n4 _ _ _ k => fun H4 R4 o4 => ?_⟩
    obtain ⟨dr4, hR4⟩ := R4.obj
    refine ⟨_, rfl, r, dr4, _, rfl, hR4, rf_no a _ (by decide +kernel) (by decide +kernel), _, rfl, r, a, ns, _, n4, _, rfl, .inr rfl, R4, rk_num k fun n5 _ _ _ k => fun H5 R5 o5 => ?_⟩
    obtain ⟨dr5, hR5⟩ := R5.obj
    refine ⟨_, rfl, _, rfl, _, rfl, _, rfl, _, rfl, fun z dz nz nd ne => ⟨z, dz, _, _, _, _, _, _, rfl, upd_same, fun H6 hz o6 => ⟨rfl, ?_⟩⟩⟩
    have s6 : Same H5 H6 := Same.made nz nd fun b o e hb => o6 b o hb e
    have oo : Oth r H H5 := (((o1.trans o2).trans o3).trans o4).trans o5
    exact k H6 z (R5.same s6) (fun b o n e => s6 _ _ (oo b o n e)) (free_of oo hR5 nz) ⟨dz, hz⟩
theorem scRF : FnScope ["reader", "kind"] ["reader"] (defScope sRF) := ⟨rfl, rfl, rfl, by decide +kernel, rfl, by decide +kernel, by decide +kernel⟩
theorem ok_rf {fdK fd1 fd2 fd3 fd : FuncData} (F : Fun K "read_field" "read_field" sRF fRF fd) (T : TR K mg CE NE fE CR fR fTk fTr fTo fTe) (U : TA1 K mg CR CF CO CG CA fF fO fG fA fRP fRT fLV fRV fRF fFL fOL fGL fRL fRA)
    (GK : FnOk P w K mg base (CXx P w) 3 fTk fdK ["self", "least", "most"] (spTake K CE CR)) (bK : Binds K fdK ["self", "least", "most"] [])
    (G1 : FnOk P w K mg base (CXx P w) 5 fRP fd1 ["reader"] (spFd K CE CR CF plainB)) (b1 : Binds K fd1 ["reader"] []) (k1 : PySem.W.keepIn K (.ref fRP) = true)
    (G2 : FnOk P w K mg base (CXx P w) 6 fRT fd2 ["reader"] (spFd K CE CR CF partedB)) (b2 : Binds K fd2 ["reader"] []) (k2 : PySem.W.keepIn K (.ref fRT) = true)
    (G3 : FnOk P w K mg base (CXx P w) 6 fRV fd3 ["reader"] (spFd K CE CR CF variedB)) (b3 : Binds K fd3 ["reader"] []) (k3 : PySem.W.keepIn K (.ref fRV) = true) :
    FnOk P w K mg base (CXx P w) 7 fRF fd ["reader"] (spFd K CE CR CF fieldAt) := by
  refine F.okX scRF (fun vs H Q E h => ?_) (fun cdv A outer s H vs Q E hr h => ?_)
  · obtain ⟨r, a, ns, p, rfl, _⟩ := h
    rfl
  · obtain ⟨r, a, ns, p, rfl, R, k⟩ := h
    obtain ⟨dr, hR⟩ := R.obj
    obtain ⟨t0, h0⟩ := U.i "PLAIN" 0 (by decide +kernel)
    obtain ⟨t1, h1⟩ := U.i "PARTED" 1 (by decide +kernel)
    obtain ⟨t2, h2⟩ := U.i "VARIED" 2 (by decide +kernel)
    have hr3 : Room 3 _ := hr.mono (by decide)
    have hr5 : Room 5 _ := hr.mono (by decide)
    refine ⟨_, pss_cons (ps_set (i := 1) scRF.nd rfl (Or.inl rfl) (pe_meth (pv 0) T.cl T.mTk GK hr3 bK .nil (passX rfl flies) (pa_cons (pe_glob (v := .int 0) rfl h0 ⟨t0, rfl⟩) (pa_cons (pe_glob (v := .int 2) rfl h2 ⟨t2, rfl⟩) pa_nil))))
      (pss_cons (ps_if (pt_cmpR op_eq (pv 1) (pe_glob (v := .int 0) rfl h0 ⟨t0, rfl⟩) (nomark _)) (pss_one (ps_ret (pe_call G1 hr5 rfl U.mRP k1 b1 .nil (passX rfl flies) (pa_cons (pv 0) pa_nil)))) pss_nil)
      (pss_cons (ps_if (pt_cmpR op_eq (pv 1) (pe_glob (v := .int 1) rfl h1 ⟨t1, rfl⟩) (nomark _)) (pss_one (ps_ret (pe_call G2 hr rfl U.mRT k2 b2 .nil (passX rfl flies) (pa_cons (pv 0) pa_nil)))) pss_nil)
      (pss_one (ps_ret (pe_call G3 hr rfl U.mRV k3 b3 .nil (passX rfl flies) (pa_cons (pv 0) pa_nil)))))), ?_⟩
    rw [field_b] at k
    refine ⟨_, rfl, r, dr, _, rfl, hR, rf_no a p (by decide +kernel) (by decide +kernel), r, a, ns, p, 0, 2, rfl, R, rk_num k fun n _ hn _ k => fun H1 R1 o1 => ?_⟩
    obtain ⟨dr1, hR1⟩ := R1.obj
    have done : ∀ g : Nat → Bytes → Except Nat (Field × Nat × Bytes), Rk CE E (g (p + 1) ((byt ns).drop (p + 1))) (fun f q => ∀ H' z, RdAt K CR H' r a ns q → Oth r H H' → H z = none → FieldAt CF H' z f → Q (.ref z) H') → spFd K CE CR CF g [.ref r] H1 Q E := fun g kk => by
      refine ⟨r, a, ns, p + 1, rfl, R1, ?_⟩
      cases e : g (p + 1) ((byt ns).drop (p + 1)) with
      | error e' => rw [e] at kk; exact kk
      | ok t =>
        rw [e] at kk
        intro H' z R' o' nz fz
        exact kk H' z R' (o1.trans o') (free_of o1 hR1 nz) fz
    refine ⟨_, rfl, rfl, _, rfl, ?_⟩
    by_cases q0 : n = 0
    · subst q0
      refine iteP (decide_eq_true rfl) ?_
      rw [if_pos rfl] at k
      exact ⟨_, rfl, done _ k⟩
    · refine iteN (by intro z; have := of_decide_eq_true z; injection this with e; omega) ?_
      rw [if_neg q0] at k
      refine ⟨_, rfl, rfl, _, rfl, ?_⟩
      by_cases q1 : n = 1
      · subst q1
        refine iteP (decide_eq_true rfl) ?_
        rw [if_pos rfl] at k
        exact ⟨_, rfl, done _ k⟩
      · refine iteN (by intro z; have := of_decide_eq_true z; injection this with e; omega) ?_
        rw [if_neg q1] at k
        exact ⟨_, rfl, done _ k⟩
theorem scFL : FnScope ["reader", "arms_field", "most"] ["reader", "arms_field"] (defScope sFL) := ⟨rfl, rfl, rfl, by decide +kernel, rfl, by decide +kernel, by decide +kernel⟩
theorem ok_fl {fdK fd1 fd : FuncData} (F : Fun K "read_fill" "read_fill" sFL fFL fd) (T : TR K mg CE NE fE CR fR fTk fTr fTo fTe) (U : TA1 K mg CR CF CO CG CA fF fO fG fA fRP fRT fLV fRV fRF fFL fOL fGL fRL fRA)
    (GK : FnOk P w K mg base (CXx P w) 3 fTk fdK ["self", "least", "most"] (spTake K CE CR)) (bK : Binds K fdK ["self", "least", "most"] [])
    (G1 : FnOk P w K mg base (CXx P w) 7 fRF fd1 ["reader"] (spFd K CE CR CF fieldAt)) (b1 : Binds K fd1 ["reader"] []) (k1 : PySem.W.keepIn K (.ref fRF) = true) :
    FnOk P w K mg base (CXx P w) 8 fFL fd ["reader", "arms_field"] (spFl K CE CR CF) := by
  refine F.okX scFL (fun vs H Q E h => ?_) (fun cdv A outer s H vs Q E hr h => ?_)
  · obtain ⟨r, a, zf, ns, p, below, rfl, _⟩ := h
    rfl
  · obtain ⟨r, a, zf, ns, p, below, rfl, R, hF, k⟩ := h
    obtain ⟨dr, hR⟩ := R.obj
    obtain ⟨df, hz⟩ := id hF
    obtain ⟨t0, h0⟩ := U.i "PLAIN" 0 (by decide +kernel)
    obtain ⟨tf, hf⟩ := U.i "FIELD_FILL" 0 (by decide +kernel)
    obtain ⟨tc, hc⟩ := U.i "COUNTERCHANGED_FILL" 1 (by decide +kernel)
    have hr3 : Room 3 _ := hr.mono (by decide)
    refine ⟨_, pss_cons (ps_set (i := 2) scFL.nd rfl (Or.inl rfl) (pe_ifExp (pt_cmpR op_eq (pe_fld (pv 1) rfl) (pe_glob (v := .int 0) rfl h0 ⟨t0, rfl⟩) (nomark _)) (pe_glob (v := .int 0) rfl hf ⟨tf, rfl⟩) (pe_glob (v := .int 1) rfl hc ⟨tc, rfl⟩)))
      (pss_cons (ps_if (pt_cmpR op_eq (pe_meth (pv 0) T.cl T.mTk GK hr3 bK .nil (passX rfl flies) (pa_cons (pe_glob (v := .int 0) rfl hf ⟨tf, rfl⟩) (pa_cons (pv 2) pa_nil))) (pe_glob (v := .int 1) rfl hc ⟨tc, rfl⟩) (nomark _)) (pss_one (ps_ret pe_non)) pss_nil)
      (pss_one (ps_ret (pe_call G1 hr rfl U.mRF k1 b1 .nil (passX rfl flies) (pa_cons (pv 0) pa_nil))))), ?_⟩
    rw [fill_b] at k
    have core : ∀ m : Nat, m = (if below.two.isSome = true then 1 else 0) → ∀ σ : L2.St, σ = [some (.ref r), some (.ref zf), some (vn m)] →
        (tSeq (tIfS (tTest (tOp rEq (tMeth CR "take" (spTake K CE CR) [] E (tVar 0) (tCons (tC (.int 0)) (tCons (tVar 2) tNil))) (tC (.int 1)))) (tRet (tC .non)) tNext) (tRet (tCall (spFd K CE CR CF fieldAt) [] E (tCons (tVar 0) tNil)))) { nx := fun _ H' => Q .non H', rt := Q } σ H := by
      rintro m hm σ rfl
      subst hm
      refine ⟨_, rfl, r, dr, _, rfl, hR, rf_no a p (by decide +kernel) (by decide +kernel), _, rfl, r, a, ns, p, 0, _, rfl, R, rk_num k fun n _ hn _ k => fun H1 R1 o1 => ?_⟩
      obtain ⟨dr1, hR1⟩ := R1.obj
      refine ⟨rfl, _, rfl, ?_⟩
      by_cases q : n = 1
      · subst q
        refine iteP (decide_eq_true rfl) ?_
        rw [if_pos rfl] at k
        exact k H1 .non R1 o1 rfl
      · refine iteN (by intro z; have := of_decide_eq_true z; injection this with e; omega) ?_
        rw [if_neg q] at k
        refine ⟨_, rfl, r, a, ns, p + 1, rfl, R1, rk_field k fun f q _ k => ?_⟩
        intro H' z R' o' nz fz
        exact k H' (.ref z) R' (o1.trans o') ⟨z, rfl, fz⟩
    refine ⟨_, rfl, zf, CF, df, _, _, rfl, hz, U.F.cl, U.F.no _ (by decide +kernel), f_kind below, rfl, _, rfl, ?_⟩
    cases below with
    | plain t =>
      refine iteP (decide_eq_true rfl) ?_
      exact core 0 rfl _ rfl
    | parted d l x y =>
      refine iteN (by intro z; have := of_decide_eq_true z; cases this) ?_
      exact core 1 rfl _ rfl
    | varied v n l x y =>
      refine iteN (by intro z; have := of_decide_eq_true z; cases this) ?_
      exact core 1 rfl _ rfl
theorem scOL : FnScope ["reader", "arms_field", "ordinary", "line", "fill"] ["reader", "arms_field"] (defScope sOL) := ⟨rfl, rfl, rfl, by decide +kernel, rfl, by decide +kernel, by decide +kernel⟩
theorem ok_ol {fdW fdL fdO fd : FuncData} (F : Fun K "read_ordinary_layer" "read_ordinary_layer" sOL fOL fd) (T : TR K mg CE NE fE CR fR fTk fTr fTo fTe) (U : TA1 K mg CR CF CO CG CA fF fO fG fA fRP fRT fLV fRV fRF fFL fOL fGL fRL fRA)
    (GW : FnOk P w K mg base (CXx P w) 4 fTr fdW ["self", "rows"] (spRow K CE CR)) (bW : Binds K fdW ["self", "rows"] [])
    (GL : FnOk P w K mg base (CXx P w) 8 fFL fdL ["reader", "arms_field"] (spFl K CE CR CF)) (bL : Binds K fdL ["reader", "arms_field"] []) (kL : PySem.W.keepIn K (.ref fFL) = true)
    (GO : FnOk P w K mg base (CXx P w) 1 fO fdO ["self", "ordinary", "line", "fill"] (spOI CO)) (bO : Binds K fdO ["self", "ordinary", "line", "fill"] []) :
    FnOk P w K mg base (CXx P w) 9 fOL fd ["reader", "arms_field"] (spLy K CE CR CF CO CG ordB) := by
  refine F.okX scOL (fun vs H Q E h => ?_) (fun cdv A outer s H vs Q E hr h => ?_)
  · obtain ⟨r, a, zf, ns, p, below, rfl, _⟩ := h
    rfl
  · obtain ⟨r, a, zf, ns, p, below, rfl, R, hF, k⟩ := h
    obtain ⟨dr, hR⟩ := R.obj
    obtain ⟨t13, h13⟩ := U.i "ORDINARY_ROWS" 13 (by decide +kernel)
    obtain ⟨t6, h6⟩ := U.i "LINE_ROWS" 6 (by decide +kernel)
    have hr2 : Room 2 _ := hr.mono (by decide)
    have hr4 : Room 4 _ := hr.mono (by decide)
    refine ⟨_, pss_cons (ps_set (i := 2) scOL.nd rfl (Or.inl rfl) (pe_meth (pv 0) T.cl T.mTr GW hr4 bW .nil (passX rfl flies) (pa_cons (pe_glob (v := .int 13) rfl h13 ⟨t13, rfl⟩) pa_nil)))
      (pss_cons (ps_set (i := 3) scOL.nd rfl (Or.inl rfl) (pe_meth (pv 0) T.cl T.mTr GW hr4 bW .nil (passX rfl flies) (pa_cons (pe_glob (v := .int 6) rfl h6 ⟨t6, rfl⟩) pa_nil)))
      (pss_cons (ps_set (i := 4) scOL.nd rfl (Or.inl rfl) (pe_call GL hr rfl U.mFL kL bL .nil (passX rfl flies) (pa_cons (pv 0) (pa_cons (pv 1) pa_nil))))
      (pss_one (ps_ret (pe_make U.O.mkc GO hr2 rfl U.O.at_ bO .nil passN (pa_cons (pv 2) (pa_cons (pv 3) (pa_cons (pv 4) pa_nil)))))))), ?_⟩
    refine ⟨_, rfl, r, dr, _, rfl, hR, rf_no a p (by decide +kernel) (by decide +kernel), r, a, ns, p, 12, rfl, R, rk_num k fun n1 _ _ _ k => fun H1 R1 o1 => ?_⟩
    obtain ⟨dr1, hR1⟩ := R1.obj
    refine ⟨_, rfl, r, dr1, _, rfl, hR1, rf_no a _ (by decide +kernel) (by decide +kernel), r, a, ns, _, 5, rfl, R1, rk_num k fun n2 _ _ _ k => fun H2 R2 o2 => ?_⟩
    obtain ⟨dr2, hR2⟩ := R2.obj
    have hF2 : FieldAt CF H2 zf below := hF.kp U.nF ((Kp.of_oth hR o1).trans (Kp.of_oth hR1 o2))
    refine ⟨_, rfl, _, rfl, r, a, zf, ns, _, below, rfl, R2, hF2, rk_fill k fun fl q _ k => fun H3 v R3 o3 hv => ?_⟩
    obtain ⟨dr3, hR3⟩ := R3.obj
    refine ⟨_, rfl, _, rfl, _, rfl, fun z dz nz nd ne => ⟨z, dz, _, _, _, rfl, upd_same, fun H4 hz o4 => ⟨rfl, ?_⟩⟩⟩
    have s4 : Same H3 H4 := Same.made nz nd fun b o e hb => o4 b o hb e
    have oo : Oth r H H3 := (o1.trans o2).trans o3
    exact k H4 z (R3.same s4) (fun b o n e => s4 _ _ (oo b o n e)) (free_of oo hR3 nz) ⟨dz, v, hz, hv.kp U.nF (Kp.of_same s4)⟩
theorem scGL : FnScope ["reader", "arms_field", "charge", "how_many", "manner", "size", "fill"] ["reader", "arms_field"] (defScope sGL) := ⟨rfl, rfl, rfl, by decide +kernel, rfl, by decide +kernel, by decide +kernel⟩
theorem ok_gl {fdK fdW fdL fdG fd : FuncData} (F : Fun K "read_group_layer" "read_group_layer" sGL fGL fd) (T : TR K mg CE NE fE CR fR fTk fTr fTo fTe) (U : TA1 K mg CR CF CO CG CA fF fO fG fA fRP fRT fLV fRV fRF fFL fOL fGL fRL fRA)
    (GK : FnOk P w K mg base (CXx P w) 3 fTk fdK ["self", "least", "most"] (spTake K CE CR)) (bK : Binds K fdK ["self", "least", "most"] [])
    (GW : FnOk P w K mg base (CXx P w) 4 fTr fdW ["self", "rows"] (spRow K CE CR)) (bW : Binds K fdW ["self", "rows"] [])
    (GL : FnOk P w K mg base (CXx P w) 8 fFL fdL ["reader", "arms_field"] (spFl K CE CR CF)) (bL : Binds K fdL ["reader", "arms_field"] []) (kL : PySem.W.keepIn K (.ref fFL) = true)
    (GG : FnOk P w K mg base (CXx P w) 1 fG fdG ["self", "charge", "how_many", "manner", "size", "fill"] (spGI CG)) (bG : Binds K fdG ["self", "charge", "how_many", "manner", "size", "fill"] []) :
    FnOk P w K mg base (CXx P w) 9 fGL fd ["reader", "arms_field"] (spLy K CE CR CF CO CG groupB) := by
  refine F.okX scGL (fun vs H Q E h => ?_) (fun cdv A outer s H vs Q E hr h => ?_)
  · obtain ⟨r, a, zf, ns, p, below, rfl, _⟩ := h
    rfl
  · obtain ⟨r, a, zf, ns, p, below, rfl, R, hF, k⟩ := h
    obtain ⟨dr, hR⟩ := R.obj
    obtain ⟨t16, h16⟩ := U.i "CHARGE_ROWS" 16 (by decide +kernel)
    obtain ⟨t10, h10⟩ := U.i "MOST_CHARGES" 10 (by decide +kernel)
    obtain ⟨t7, h7⟩ := U.i "MANNER_ROWS" 7 (by decide +kernel)
    obtain ⟨t4, h4⟩ := U.i "MOST_SIZE" 4 (by decide +kernel)
    have hr2 : Room 2 _ := hr.mono (by decide)
    have hr3 : Room 3 _ := hr.mono (by decide)
    have hr4 : Room 4 _ := hr.mono (by decide)
    refine ⟨_, pss_cons (ps_set (i := 2) scGL.nd rfl (Or.inl rfl) (pe_meth (pv 0) T.cl T.mTr GW hr4 bW .nil (passX rfl flies) (pa_cons (pe_glob (v := .int 16) rfl h16 ⟨t16, rfl⟩) pa_nil)))
      (pss_cons (ps_set (i := 3) scGL.nd rfl (Or.inl rfl) (pe_meth (pv 0) T.cl T.mTk GK hr3 bK .nil (passX rfl flies) (pa_cons pe_int (pa_cons (pe_glob (v := .int 10) rfl h10 ⟨t10, rfl⟩) pa_nil))))
      (pss_cons (ps_set (i := 4) scGL.nd rfl (Or.inl rfl) (pe_meth (pv 0) T.cl T.mTr GW hr4 bW .nil (passX rfl flies) (pa_cons (pe_glob (v := .int 7) rfl h7 ⟨t7, rfl⟩) pa_nil)))
      (pss_cons (ps_set (i := 5) scGL.nd rfl (Or.inl rfl) (pe_meth (pv 0) T.cl T.mTk GK hr3 bK .nil (passX rfl flies) (pa_cons pe_int (pa_cons (pe_glob (v := .int 4) rfl h4 ⟨t4, rfl⟩) pa_nil))))
      (pss_cons (ps_set (i := 6) scGL.nd rfl (Or.inl rfl) (pe_call GL hr rfl U.mFL kL bL .nil (passX rfl flies) (pa_cons (pv 0) (pa_cons (pv 1) pa_nil))))
      (pss_one (ps_ret (pe_make U.G.mkc GG hr2 rfl U.G.at_ bG .nil passN (pa_cons (pv 2) (pa_cons (pv 3) (pa_cons (pv 4) (pa_cons (pv 5) (pa_cons (pv 6) pa_nil)))))))))))), ?_⟩
    refine ⟨_, rfl, r, dr, _, rfl, hR, rf_no a p (by decide +kernel) (by decide +kernel), r, a, ns, p, 15, rfl, R, rk_num k fun n1 _ _ _ k => fun H1 R1 o1 => ?_⟩
    obtain ⟨dr1, hR1⟩ := R1.obj
    refine ⟨_, rfl, r, dr1, _, rfl, hR1, rf_no a _ (by decide +kernel) (by decide +kernel), r, a, ns, _, 1, 10, rfl, R1, rk_num k fun n2 _ _ _ k => fun H2 R2 o2 => ?_⟩
    obtain ⟨dr2, hR2⟩ := R2.obj
    refine ⟨_, rfl, r, dr2, _, rfl, hR2, rf_no a _ (by decide +kernel) (by decide +kernel), r, a, ns, _, 6, rfl, R2, rk_num k fun n3 _ _ _ k => fun H3 R3 o3 => ?_⟩
    obtain ⟨dr3, hR3⟩ := R3.obj
    refine ⟨_, rfl, r, dr3, _, rfl, hR3, rf_no a _ (by decide +kernel) (by decide +kernel), r, a, ns, _, 1, 4, rfl, R3, rk_num k fun n4 _ _ _ k => fun H4 R4 o4 => ?_⟩
    obtain ⟨dr4, hR4⟩ := R4.obj
    have hF4 : FieldAt CF H4 zf below := hF.kp U.nF ((((Kp.of_oth hR o1).trans (Kp.of_oth hR1 o2)).trans (Kp.of_oth hR2 o3)).trans (Kp.of_oth hR3 o4))
    refine ⟨_, rfl, _, rfl, r, a, zf, ns, _, below, rfl, R4, hF4, rk_fill k fun fl q _ k => fun H5 v R5 o5 hv => ?_⟩
    obtain ⟨dr5, hR5⟩ := R5.obj
    refine ⟨_, rfl, _, rfl, _, rfl, _, rfl, _, rfl, fun z dz nz nd ne => ⟨z, dz, _, _, _, _, _, rfl, upd_same, fun H6 hz o6 => ⟨rfl, ?_⟩⟩⟩
    have s6 : Same H5 H6 := Same.made nz nd fun b o e hb => o6 b o hb e
    have oo : Oth r H H5 := (((o1.trans o2).trans o3).trans o4).trans o5
    exact k H6 z (R5.same s6) (fun b o n e => s6 _ _ (oo b o n e)) (free_of oo hR5 nz) ⟨dz, v, hz, hv.kp U.nF (Kp.of_same s6)⟩
theorem scRL : FnScope ["reader", "arms_field"] ["reader", "arms_field"] (defScope sRL) := ⟨rfl, rfl, rfl, by decide +kernel, rfl, by decide +kernel, by decide +kernel⟩
theorem ok_rl {fdK fd1 fd2 fd : FuncData} (F : Fun K "read_layer" "read_layer" sRL fRL fd) (T : TR K mg CE NE fE CR fR fTk fTr fTo fTe) (U : TA1 K mg CR CF CO CG CA fF fO fG fA fRP fRT fLV fRV fRF fFL fOL fGL fRL fRA)
    (GK : FnOk P w K mg base (CXx P w) 3 fTk fdK ["self", "least", "most"] (spTake K CE CR)) (bK : Binds K fdK ["self", "least", "most"] [])
    (G1 : FnOk P w K mg base (CXx P w) 9 fOL fd1 ["reader", "arms_field"] (spLy K CE CR CF CO CG ordB)) (b1 : Binds K fd1 ["reader", "arms_field"] []) (k1 : PySem.W.keepIn K (.ref fOL) = true)
    (G2 : FnOk P w K mg base (CXx P w) 9 fGL fd2 ["reader", "arms_field"] (spLy K CE CR CF CO CG groupB)) (b2 : Binds K fd2 ["reader", "arms_field"] []) (k2 : PySem.W.keepIn K (.ref fGL) = true) :
    FnOk P w K mg base (CXx P w) 10 fRL fd ["reader", "arms_field"] (spLy K CE CR CF CO CG layerAt) := by
  refine F.okX scRL (fun vs H Q E h => ?_) (fun cdv A outer s H vs Q E hr h => ?_)
  · obtain ⟨r, a, zf, ns, p, below, rfl, _⟩ := h
    rfl
  · obtain ⟨r, a, zf, ns, p, below, rfl, R, hF, k⟩ := h
    obtain ⟨dr, hR⟩ := R.obj
    obtain ⟨t0, h0⟩ := U.i "ORDINARY_LAYER" 0 (by decide +kernel)
    obtain ⟨t1, h1⟩ := U.i "GROUP_LAYER" 1 (by decide +kernel)
    have hr3 : Room 3 _ := hr.mono (by decide)
    refine ⟨_, pss_cons (ps_if (pt_cmpR op_eq (pe_meth (pv 0) T.cl T.mTk GK hr3 bK .nil (passX rfl flies) (pa_cons (pe_glob (v := .int 0) rfl h0 ⟨t0, rfl⟩) (pa_cons (pe_glob (v := .int 1) rfl h1 ⟨t1, rfl⟩) pa_nil))) (pe_glob (v := .int 0) rfl h0 ⟨t0, rfl⟩) (nomark _))
        (pss_one (ps_ret (pe_call G1 hr rfl U.mOL k1 b1 .nil (passX rfl flies) (pa_cons (pv 0) (pa_cons (pv 1) pa_nil))))) pss_nil)
      (pss_one (ps_ret (pe_call G2 hr rfl U.mGL k2 b2 .nil (passX rfl flies) (pa_cons (pv 0) (pa_cons (pv 1) pa_nil))))), ?_⟩
    rw [layer_b] at k
    refine ⟨_, rfl, r, dr, _, rfl, hR, rf_no a p (by decide +kernel) (by decide +kernel), r, a, ns, p, 0, 1, rfl, R, rk_num k fun n _ hn _ k => fun H1 R1 o1 => ?_⟩
    obtain ⟨dr1, hR1⟩ := R1.obj
    have hF1 : FieldAt CF H1 zf below := hF.kp U.nF (Kp.of_oth hR o1)
    have done : ∀ g : Field → Nat → Bytes → Except Nat (Layer × Nat × Bytes), Rk CE E (g below (p + 1) ((byt ns).drop (p + 1))) (fun l q => ∀ H' z, RdAt K CR H' r a ns q → Oth r H H' → H z = none → LayerAt CF CO CG H' z l → Q (.ref z) H') → spLy K CE CR CF CO CG g [.ref r, .ref zf] H1 Q E := fun g kk => by
      refine ⟨r, a, zf, ns, p + 1, below, rfl, R1, hF1, ?_⟩
      cases e : g below (p + 1) ((byt ns).drop (p + 1)) with
      | error e' => rw [e] at kk; exact kk
      | ok t =>
        rw [e] at kk
        intro H' z R' o' nz fz
        exact kk H' z R' (o1.trans o') (free_of o1 hR1 nz) fz
    refine ⟨rfl, _, rfl, ?_⟩
    by_cases q0 : n = 0
    · subst q0
      refine iteP (decide_eq_true rfl) ?_
      rw [if_pos rfl] at k
      exact ⟨_, rfl, _, rfl, done _ k⟩
    · refine iteN (by intro z; have := of_decide_eq_true z; injection this with e; omega) ?_
      rw [if_neg q0] at k
      exact ⟨_, rfl, _, rfl, done _ k⟩
theorem scRA : FnScope ["data", "reader", "field", "layers", "number"] ["data"] (defScope sRA) := ⟨rfl, rfl, rfl, by decide +kernel, rfl, by decide +kernel, by decide +kernel⟩
theorem ok_ra {fdR fdK fdE2 fd1 fd2 fdA fd : FuncData} (F : Fun K "read_arms" "read_arms" sRA fRA fd) (T : TR K mg CE NE fE CR fR fTk fTr fTo fTe) (U : TA1 K mg CR CF CO CG CA fF fO fG fA fRP fRT fLV fRV fRF fFL fOL fGL fRL fRA)
    (GR : FnOk P w K mg base (CXx P w) 1 fR fdR ["self", "data"] (spRI CR)) (bR : Binds K fdR ["self", "data"] [])
    (GK : FnOk P w K mg base (CXx P w) 3 fTk fdK ["self", "least", "most"] (spTake K CE CR)) (bK : Binds K fdK ["self", "least", "most"] [])
    (GE : FnOk P w K mg base (CXx P w) 3 fTe fdE2 ["self"] (spEnd K CE CR)) (bE : Binds K fdE2 ["self"] [])
    (G1 : FnOk P w K mg base (CXx P w) 7 fRF fd1 ["reader"] (spFd K CE CR CF fieldAt)) (b1 : Binds K fd1 ["reader"] []) (k1 : PySem.W.keepIn K (.ref fRF) = true)
    (G2 : FnOk P w K mg base (CXx P w) 10 fRL fd2 ["reader", "arms_field"] (spLy K CE CR CF CO CG layerAt)) (b2 : Binds K fd2 ["reader", "arms_field"] []) (k2 : PySem.W.keepIn K (.ref fRL) = true)
    (GA : FnOk P w K mg base (CXx P w) 1 fA fdA ["self", "field", "layers"] (spAI CA)) (bA : Binds K fdA ["self", "field", "layers"] []) :
    FnOk P w K mg base (CXx P w) 11 fRA fd ["data"] (spRA K CE CR CF CO CG CA) := by
  refine F.okX scRA (fun vs H Q E h => ?_) (fun cdv A outer s H vs Q E hr h => ?_)
  · obtain ⟨a, ns, rfl, _⟩ := h
    rfl
  · obtain ⟨a, ns, rfl, hb, hS, k⟩ := h
    obtain ⟨t8, h8⟩ := U.i "MOST_LAYERS" 8 (by decide +kernel)
    have hr3 : Room 3 _ := hr.mono (by decide)
    have hr2 : Room 2 _ := hr.mono (by decide)
    have hr7 : Room 7 _ := hr.mono (by decide)
    refine ⟨_, pss_cons (ps_set (i := 1) scRA.nd rfl (Or.inl rfl) (pe_make T.mkR GR hr2 rfl T.mgR bR .nil passN (pa_cons (pv 0) pa_nil)))
      (pss_cons (ps_set (i := 2) scRA.nd rfl (Or.inl rfl) (pe_call G1 hr7 rfl U.mRF k1 b1 .nil (passX rfl flies) (pa_cons (pv 1) pa_nil)))
      (pss_cons (ps_set (i := 3) scRA.nd rfl (Or.inl rfl) (pe_lst pa_nil))
      (pss_cons (ps_for PassesOwn.leaving rfl (pi_range1 rfl U.rng (pa_cons (pe_meth (pv 1) T.cl T.mTk GK hr3 bK .nil (passX rfl flies) (pa_cons pe_int (pa_cons (pe_glob (v := .int 8) rfl h8 ⟨t8, rfl⟩) pa_nil))) pa_nil)) (pg_name (i := 4) scRA.nd rfl (Or.inl rfl))
        (pss_one (ps_expr (pe_bm PySem.F.plainAttrs_list PySem.F.slot_list_append PySem.F.type_list_append mt_append (pv 3) (pa_cons (pe_call G2 hr rfl U.mRL k2 b2 .nil (passX rfl flies) (pa_cons (pv 1) (pa_cons (pv 2) pa_nil))) pa_nil)))))
      (pss_cons (ps_expr (pe_meth0 (pv 1) T.cl T.mTe GE hr3 bE .nil (passX rfl flies)))
      (pss_one (ps_ret (pe_make U.A.mkc GA hr2 rfl U.A.at_ bA .nil passN (pa_cons (pv 2) (pa_cons (pv 3) pa_nil))))))))), ?_⟩
    refine ⟨_, rfl, fun r dr0 nr nd ne => ?_⟩
    refine ⟨r, dr0, a, rfl, upd_same, fun H1 hr1 o1 => ⟨rfl, ?_⟩⟩
    have s1 : Same H H1 := Same.made nr nd fun b o e hb => o1 b o hb e
    have R1 : RdAt K CR H1 r a ns 0 := ⟨hb, ⟨dr0, hr1⟩, hS.keep fun ob u e => s1 _ _ e, Nat.zero_le _⟩
    -- what is wanted of the whole
    let G : Except Nat Arms → Prop := fun x => match x with
      | .error e => Wrong CE E e
      | .ok x => ∀ H' z, Same H H' → H z = none → ArmsAt CF CO CG CA H' z x → Q (.ref z) H'
    have g0 : G (readArms (byt ns)) := by
      cases e : readArms (byt ns) with
      | error e' => rw [e] at k; exact k
      | ok x => rw [e] at k; exact k
    rw [arms_b] at g0
    refine ⟨_, rfl, r, a, ns, 0, rfl, R1, ?_⟩
    rw [List.drop_zero]
    cases e1 : fieldAt 0 (byt ns) with
    | error e => rw [e1] at g0; exact g0
    | ok t =>
      obtain ⟨fo, _, _, ft⟩ := field_ok (B := byt ns) (p := 0) (by rw [List.drop_zero]; exact e1)
      rw [e1] at g0
      have g1 : G (bnd (numAt 0 8 ANY t.2.1 ((byt ns).drop t.2.1)) fun n p b => match layersAt t.1 n p b with | .error e => .error e | .ok l => .ok ⟨t.1, l⟩) := by rw [← ft]; exact g0
      intro H2 zf R2 o2 nzf hF2
      obtain ⟨dr2, hR2⟩ := R2.obj
      refine ⟨Nat.zero_le _, fun l hl => ?_⟩
      have s3 : Same H2 (upd H2 l (.lst [])) := fun b o e => by rw [upd_ne (ne_of_none e hl)]; exact e
      have R3 := R2.same s3
      have hF3 : FieldAt CF (upd H2 l (.lst [])) zf t.1 := hF2.kp U.nF (Kp.of_same s3)
      have hlH2 : H l = none := by
        cases q : H l with
        | none => rfl
        | some o =>
          have z := o2 l o (ne_of_none q nr) (s1 _ _ q)
          rw [hl] at z; cases z
      refine ⟨_, rfl, r, dr2, _, rfl, s3 _ _ hR2, rf_no a _ (by decide +kernel) (by decide +kernel), r, a, ns, _, 0, 8, rfl, R3, ?_⟩
      cases e2 : numAt 0 8 ANY t.2.1 ((byt ns).drop t.2.1) with
      | error e => rw [e2] at g1; exact g1
      | ok n =>
        obtain ⟨en, _, _, en8, _⟩ := num_ok e2
        rw [e2] at g1
        have g2 : G (match layersAt t.1 n.1 (t.2.1 + 1) ((byt ns).drop (t.2.1 + 1)) with | .error e => .error e | .ok l => .ok ⟨t.1, l⟩) := by
          have ep : n.2.1 = t.2.1 + 1 := by rw [en]
          have eb : n.2.2 = (byt ns).drop (t.2.1 + 1) := by rw [en]
          have g1' : G (match layersAt t.1 n.1 n.2.1 n.2.2 with | .error e => .error e | .ok l => .ok ⟨t.1, l⟩) := g1
          rw [ep, eb] at g1'
          exact g1'
        intro H4 R4 o4
        have ep : n.2.1 = t.2.1 + 1 := by rw [en]
        rw [ep] at R4
        have hl4 : H4 l = some (.lst []) := o4 l _ (ne_of (upd_same (H := H2) (a := l) (o := .lst [])) (s3 _ _ hR2) (by intro z; cases z)) upd_same
        have hF4 : FieldAt CF H4 zf t.1 := hF3.kp U.nF (Kp.of_oth (s3 _ _ hR2) o4)
        have oo4 : Same H H4 := fun b o e => o4 b o (ne_of_none e nr) (s3 _ _ (o2 b o (ne_of_none e nr) (s1 _ _ e)))
        refine ⟨(n.1 : Int), rfl, by omega, by omega, ?_⟩
        rw [Int.toNat_natCast]
        let GL : Except Nat (List Layer) → List Layer → Prop := fun x acc => match x with
          | .error e => Wrong CE E e
          | .ok l => G (.ok ⟨t.1, acc ++ l⟩)
        have g3 : GL (layersAt t.1 n.1 (t.2.1 + 1) ((byt ns).drop (t.2.1 + 1))) [] := by
          cases e3 : layersAt t.1 n.1 (t.2.1 + 1) ((byt ns).drop (t.2.1 + 1)) with
          | error e => rw [e3] at g2; exact g2
          | ok l => rw [e3] at g2; exact g2
        refine for_range (n := n.1) (fun i σ H' => ∃ (yv : Option V) (zs : List Addr) (acc : List Layer) (p : Nat), σ = [some (.ref a), some (.ref r), some (.ref zf), some (.ref l), yv] ∧ H' l = some (.lst (zs.map V.ref)) ∧ zs.length = i ∧ RdAt K CR H' r a ns p ∧ Same H H' ∧
          FieldAt CF H' zf t.1 ∧ LayersAt CF CO CG H' zs acc ∧ GL (layersAt t.1 (n.1 - i) p ((byt ns).drop p)) acc) ⟨none, [], [], t.2.1 + 1, rfl, hl4, rfl, R4, oo4, hF4, .nil, g3⟩ ?_ ?_
        · rintro i σ H5 hi ⟨yv, zs, acc, p, rfl, hl5, hzs, R5, s5, hF5, hL5, g⟩
          obtain ⟨dr5, hR5⟩ := R5.obj
          obtain ⟨j, hj⟩ : ∃ j, n.1 - i = j + 1 := ⟨n.1 - i - 1, by omega⟩
          have hj2 : n.1 - (i + 1) = j := by omega
          rw [hj, layers_b] at g
          refine ⟨_, rfl, .inl ⟨rfl, _, SqL.of hl5⟩, _, rfl, _, rfl, r, a, zf, ns, p, t.1, rfl, R5, hF5, ?_⟩
          cases e4 : layerAt t.1 p ((byt ns).drop p) with
          | error e => rw [e4] at g; exact g
          | ok x =>
            obtain ⟨_, _, _, e6⟩ := layer_ok e4
            rw [e4] at g
            have g5 : GL (match layersAt t.1 j x.2.1 ((byt ns).drop x.2.1) with | .error e => .error e | .ok l => .ok (x.1 :: l)) acc := by rw [← e6]; exact g
            intro H6 zl R6 o6 nzl hL6
            have hl6 : H6 l = some (.lst (zs.map V.ref)) := o6 l _ (ne_of hl5 hR5 (by intro z; cases z)) hl5
            have kp56 : Kp CR H5 H6 := Kp.of_oth hR5 o6
            refine ⟨l, _, _, rfl, rfl, hl6, by rw [List.length_map, hzs, sizeLine_eq]; omega, ?_⟩
            refine ⟨_, zs ++ [zl], acc ++ [x.1], x.2.1, rfl, by rw [upd_same, List.map_append]; rfl, by rw [List.length_append, hzs]; rfl, R6.lst hl6, ?_, ?_, ?_, ?_⟩
            · intro b o e
              rw [upd_ne (fun z => by subst z; rw [hlH2] at e; cases e)]
              exact o6 b o (ne_of_none e nr) (s5 _ _ e)
            · exact (hF5.kp U.nF kp56).kp U.nF (Kp.lst hl6)
            · exact paired_snoc (hL6.kp U.nF U.nO U.nG (Kp.lst hl6)) ((hL5.kp U.nF U.nO U.nG kp56).kp U.nF U.nO U.nG (Kp.lst hl6))
            · rw [hj2]
              cases e7 : layersAt t.1 j x.2.1 ((byt ns).drop x.2.1) with
              | error e => rw [e7] at g5; exact g5
              | ok ll =>
                rw [e7] at g5
                show G (.ok ⟨t.1, (acc ++ [x.1]) ++ ll⟩)
                rw [List.append_assoc]
                exact g5
        · rintro σ H5 ⟨yv, zs, acc, p, rfl, hl5, hzs, R5, s5, hF5, hL5, g⟩
          obtain ⟨dr5, hR5⟩ := R5.obj
          rw [Nat.sub_self] at g
          refine ⟨_, rfl, r, dr5, _, rfl, hR5, rf_no a _ (by decide +kernel) (by decide +kernel), r, a, ns, p, rfl, R5, fun hp => ?_, fun hp => ?_⟩
          · have z : layersAt t.1 0 p ((byt ns).drop p) = .error p := by
              show (if (byt ns).drop p = [] then _ else _) = _
              rw [if_neg (by rw [List.drop_eq_nil_iff, byt_len]; omega)]
            rw [z] at g
            exact g
          · have z : layersAt t.1 0 p ((byt ns).drop p) = .ok [] := by
              show (if (byt ns).drop p = [] then _ else _) = _
              rw [if_pos (by rw [List.drop_eq_nil_iff, byt_len]; omega)]
            rw [z] at g
            have g6 : ∀ H' z, Same H H' → H z = none → ArmsAt CF CO CG CA H' z ⟨t.1, acc ++ []⟩ → Q (.ref z) H' := g
            rw [List.append_nil] at g6
            refine ⟨_, rfl, _, rfl, fun z dz nz nd' ne' => ⟨z, dz, _, _, rfl, upd_same, fun H7 hz o7 => ⟨rfl, ?_⟩⟩⟩
            have s7 : Same H5 H7 := Same.made nz nd' fun b o e hb => o7 b o hb e
            exact g6 H7 z (fun b o e => s7 _ _ (s5 _ _ e)) (s5.free nz) ⟨dz, zf, l, zs, hz, hF5.kp U.nF (Kp.of_same s7), s7 _ _ hl5, hL5.kp U.nF U.nO U.nG (Kp.of_same s7)⟩
end
noncomputable abbrev nb (b : Bytes) : List Nat := b.map fun c => c.toNat
noncomputable def tbT : List Str := ["or", "argent", "gules", "azure", "sable", "vert", "purpure", "ermine", "vair"]
noncomputable def tbL : List (Option Str) := [none, some "wavy", some "embattled", some "indented", some "engrailed", some "invected"]
noncomputable def tbP : List Str := ["pale", "fess", "bend", "bend sinister", "chevron", "saltire"]
noncomputable def tbW : List Str := ["quarterly", "gyronny"]
noncomputable def tbV : List Str := ["barry", "paly", "bendy", "bendy sinister", "chevronny", "chequy", "lozengy"]
noncomputable def tbO : List Str := ["chief", "base", "pale", "fess", "bend", "bend sinister", "chevron", "cross", "saltire", "pile", "bordure", "canton", "quarter"]
noncomputable def tbC : List Str := ["roundel", "annulet", "lozenge", "mascle", "fusil", "billet", "mullet", "crescent", "increscent", "crosslet", "saltorel", "escutcheon", "tower", "sword", "wheel", "arrow"]
noncomputable def tbN : List (Option Str) := [none, none, some "two", some "three", some "four", some "five", some "six", some "seven", some "eight", some "nine", some "ten"]
noncomputable def tbZ : List (Option Str) := [none, some "small", some "lesser", none, some "great"]
noncomputable def tbM : List (Option Str) := [none, some "fess", some "pale", some "bend", some "bend sinister", some "chief", some "base"]
noncomputable def vo : Option Str → V
  | none => .non
  | some s => .str s
noncomputable def lineS (l : Nat) : List Str := (tbL.getD l none).toList
noncomputable def twoS (a b : Nat) : List Str := [tbT.getD a "", "and", tbT.getD b ""]
noncomputable def wayS (d : Nat) : Str := if d < 6 then "per " ++ tbP.getD d "" else tbW.getD (d - 6) ""
noncomputable def numS (n : Nat) : Str := Str.ofString (toString ((n : Nat) : Int))
noncomputable def fwS : Field → List Str
  | .plain t => [tbT.getD t ""]
  | .parted d l a b => wayS d :: (lineS l ++ twoS a b)
  | .varied v n l a b => tbV.getD v "" :: "of" :: numS n :: (lineS l ++ twoS a b)
noncomputable def flS : Fill → List Str
  | .counter => ["counterchanged"]
  | .solid f => fwS f
noncomputable def manS (m : Nat) : List Str := match tbM.getD m none with
  | none => []
  | some s => ["in", s]
noncomputable def cwS (n : Nat) : List Str := if n = 1 then tbC else tbC.map (· ++ ("s" : Str))
noncomputable def chS (s n c : Nat) : List Str := (tbZ.getD s none).toList ++ [(cwS n).getD c ""]
noncomputable def artS (w : Str) : Str := match tl w with
  | c :: _ => if c ∈ tl "aeiou" then "an" else "a"
  | [] => "a"
noncomputable def hmS (s n c : Nat) : Str := if n = 1 then artS ((chS s n c).headD "") else (tbN.getD n none).getD ""
noncomputable def lwS : Layer → List Str
  | .ord o l f => "a" :: tbO.getD o "" :: (lineS l ++ flS f)
  | .group c n m s f => hmS s n c :: (chS s n c ++ (manS m ++ flS f))
noncomputable def Says (ws : List Str) (gs : List Bytes) : Prop := ∃ gg : List (List Bytes), gg.flatten = gs ∧ (∀ g ∈ gg, g ≠ []) ∧ ws.map tl = gg.map fun g => joinL [32] (g.map nb)
theorem Says.nil : Says [] [] := ⟨[], rfl, (fun g h => nomatch h), rfl⟩
theorem Says.cons {w : Str} {ws : List Str} {g gs : List Bytes} (h : tl w = joinL [32] (g.map nb)) (hg : g ≠ []) (s : Says ws gs) : Says (w :: ws) (g ++ gs) := by
  obtain ⟨gg, h1, h2, h3⟩ := s
  refine ⟨g :: gg, by rw [List.flatten_cons, h1], fun x hx => ?_, by rw [List.map_cons, List.map_cons, h, h3]⟩
  rcases List.mem_cons.mp hx with z | z
  · rw [z]; exact hg
  · exact h2 x z
theorem Says.one {w : Str} {b : Bytes} {ws : List Str} {gs : List Bytes} (h : tl w = nb b) (s : Says ws gs) : Says (w :: ws) (b :: gs) := Says.cons (g := [b]) h (by simp) s
theorem Says.app {ws vs : List Str} {gs hs : List Bytes} (a : Says ws gs) (b : Says vs hs) : Says (ws ++ vs) (gs ++ hs) := by
  obtain ⟨gg, h1, h2, h3⟩ := a
  obtain ⟨kk, k1, k2, k3⟩ := b
  refine ⟨gg ++ kk, by rw [List.flatten_append, h1, k1], fun x hx => ?_, by rw [List.map_append, List.map_append, h3, k3]⟩
  rcases List.mem_append.mp hx with z | z
  · exact h2 x z
  · exact k2 x z
theorem Says.map {ws : List Str} {gs : List Bytes} (h : ws.map tl = gs.map nb) : Says ws gs := by
  refine ⟨gs.map fun b => [b], ?_, fun g hg => ?_, ?_⟩
  · clear h
    induction gs with
    | nil => rfl
    | cons a r ih => rw [List.map_cons, List.flatten_cons, ih]; rfl
  · obtain ⟨b, _, rfl⟩ := List.mem_map.mp hg; simp
  · rw [h, List.map_map]; rfl
theorem joinL_app (S : List Nat) : ∀ {a b : List (List Nat)}, a ≠ [] → b ≠ [] → joinL S (a ++ b) = joinL S a ++ (S ++ joinL S b)
  | [], _, h, _ => (h rfl).elim
  | [p], [], _, h => (h rfl).elim
  | [p], q :: r, _, _ => rfl
  | p :: q :: r, b, _, hb => by
    show p ++ (S ++ joinL S (q :: r ++ b)) = (p ++ (S ++ joinL S (q :: r))) ++ (S ++ joinL S b)
    rw [joinL_app S (by simp) hb]
    simp only [List.append_assoc]
theorem joinL_flat (S : List Nat) : ∀ {gg : List (List (List Nat))}, (∀ g ∈ gg, g ≠ []) → joinL S (gg.map (joinL S)) = joinL S gg.flatten
  | [], _ => rfl
  | [g], _ => by simp [joinL]
  | g :: k :: r, h => by
    have ih := joinL_flat S (gg := k :: r) fun x hx => h x (List.mem_cons_of_mem _ hx)
    have hk : k ≠ [] := h k (by simp)
    show joinL S g ++ (S ++ joinL S ((k :: r).map (joinL S))) = joinL S (g ++ (k :: r).flatten)
    rw [ih, joinL_app S (h g (by simp)) (by rw [List.flatten_cons]; intro z; exact hk (List.append_eq_nil_iff.mp z).1)]
theorem spaced_nb : ∀ gs : List Bytes, nb (ShBlazon.spaced gs) = joinL [32] (gs.map nb)
  | [] => rfl
  | [b] => rfl
  | b :: c :: r => by
    have ih := spaced_nb (c :: r)
    show nb (b ++ (32 :: ShBlazon.spaced (c :: r))) = nb b ++ ([32] ++ joinL [32] ((c :: r).map nb))
    rw [← ih]
    simp [nb]
theorem Says.text {ws : List Str} {gs : List Bytes} (s : Says ws gs) : joinL [32] (ws.map tl) = nb (ShBlazon.spaced gs) := by
  obtain ⟨gg, h1, h2, h3⟩ := s
  rw [spaced_nb, h3, ← h1]
  have e : gg.map (fun g => joinL [32] (g.map nb)) = (gg.map (List.map nb)).map (joinL [32]) := by rw [List.map_map]; rfl
  rw [e, joinL_flat, List.map_flatten]
  intro g hg
  obtain ⟨x, hx, rfl⟩ := List.mem_map.mp hg
  intro z
  exact h2 x hx (List.map_eq_nil_iff.mp z)
theorem w_tinct : ∀ t, t < 9 → tl (tbT.getD t "") = nb (ShBlazon.TINCTWORDS.getD t []) := by decide +kernel
theorem w_line : ∀ l, l < 6 → (lineS l).map tl = (ShBlazon.lineWords l).map nb := by decide +kernel
theorem w_way : ∀ d, d < 8 → tl (wayS d) = joinL [32] ((if d = 6 then [ShBlazon.ascii "quarterly"] else if d = 7 then [ShBlazon.ascii "gyronny"] else ShBlazon.ascii "per" :: ShBlazon.withSin ShBlazon.WAYWORDS 3 d).map nb) := by decide +kernel
theorem w_vary : ∀ v, v < 7 → tl (tbV.getD v "") = joinL [32] ((ShBlazon.withSin ShBlazon.VARYWORDS 3 v).map nb) := by decide +kernel
theorem w_num : ∀ n, n < 25 → tl (numS n) = nb (ShBlazon.decimal n) := by decide +kernel
theorem w_ord : ∀ o, o < 13 → tl (tbO.getD o "") = joinL [32] ((ShBlazon.withSin ShBlazon.ORDWORDS 5 o).map nb) := by decide +kernel
theorem w_man : ∀ m, m < 7 → ¬ m = 0 → ∃ s, tbM.getD m none = some s ∧ tl s = joinL [32] ((ShBlazon.withSin ShBlazon.MANNERWORDS 4 m).map nb)
  | 0, _, h => (h rfl).elim
  | 1, _, _ => ⟨_, rfl, by decide +kernel⟩
  | 2, _, _ => ⟨_, rfl, by decide +kernel⟩
  | 3, _, _ => ⟨_, rfl, by decide +kernel⟩
  | 4, _, _ => ⟨_, rfl, by decide +kernel⟩
  | 5, _, _ => ⟨_, rfl, by decide +kernel⟩
  | 6, _, _ => ⟨_, rfl, by decide +kernel⟩
  | n + 7, h, _ => by omega
theorem w_size : ∀ s, s < 5 → ¬ s = 0 → ((tbZ.getD s none).toList).map tl = (ShBlazon.sizeWords s).map nb := by decide +kernel
theorem w_charge1 : ∀ c, c < 16 → tl (tbC.getD c "") = nb (ShBlazon.CHARGEWORDS.getD c []) := by decide +kernel
theorem w_charges : ∀ c, c < 16 → tl ((tbC.map (· ++ ("s" : Str))).getD c "") = nb (ShBlazon.SEVERAL.getD c []) := by decide +kernel
theorem w_count : ∀ n, n < 11 → ¬ n < 2 → tl ((tbN.getD n none).getD "") = nb (ShBlazon.COUNTS.getD (n - 2) []) := by decide +kernel
theorem withSin_ne (l : List Bytes) (s k : Nat) : ShBlazon.withSin l s k ≠ [] := by unfold ShBlazon.withSin; split <;> simp
theorem says_two {a b : Nat} (ha : a ≤ 8) (hb : b ≤ 8) : Says (twoS a b) (ShBlazon.twoWords a b) :=
  Says.one (w_tinct a (by omega)) (Says.one (by decide +kernel) (Says.one (w_tinct b (by omega)) .nil))
theorem says_field {f : Field} (h : FieldOk f) : Says (fwS f) (ShBlazon.fieldWords f) := by
  cases f with
  | plain t => exact Says.one (w_tinct t (Nat.lt_succ_of_le h)) .nil
  | parted d l a b =>
    obtain ⟨h1, h2, h3, h4, _⟩ := h
    refine Says.cons (w_way d (by omega)) (by split <;> (try split) <;> simp) ((Says.map (w_line l (by omega))).app (says_two h3 h4))
  | varied v n l a b =>
    obtain ⟨h1, h2, h2', h3, _, h4, h5, _⟩ := h
    exact Says.cons (w_vary v (by omega)) (withSin_ne _ _ _) (Says.one (by decide +kernel) (Says.one (w_num n (by omega)) ((Says.map (w_line l (by omega))).app (says_two h4 h5))))
theorem says_fill {b : Field} {f : Fill} (h : FillOk b f) : Says (flS f) (ShBlazon.fillWords f) := by
  cases f with
  | counter => exact Says.one (by decide +kernel) .nil
  | solid f => exact says_field h
theorem says_man {m : Nat} (h : m ≤ 6) : Says (manS m) (ShBlazon.mannerWords m) := by
  unfold manS ShBlazon.mannerWords
  by_cases q : m = 0
  · subst q; exact Says.nil
  · obtain ⟨s, e1, e2⟩ := w_man m (by omega) q
    rw [e1, if_neg q]
    exact Says.one (by decide +kernel) (by have z := Says.cons e2 (withSin_ne _ _ _) .nil; rw [List.append_nil] at z; exact z)
theorem says_ch {s n c : Nat} (h1 : 1 ≤ s) (h2 : s ≤ 4) (h3 : c ≤ 15) : (chS s n c).map tl = (ShBlazon.sizeWords s ++ [(if n = 1 then ShBlazon.CHARGEWORDS else ShBlazon.SEVERAL).getD c []]).map nb := by
  unfold chS cwS
  rw [List.map_append, List.map_append, w_size s (by omega) (by omega)]
  by_cases q : n = 1
  · rw [if_pos q, if_pos q]
    show _ ++ [tl (tbC.getD c "")] = _
    rw [w_charge1 c (by omega)]; rfl
  · rw [if_neg q, if_neg q]
    show _ ++ [tl ((tbC.map (· ++ ("s" : Str))).getD c "")] = _
    rw [w_charges c (by omega)]; rfl
theorem art_ok {w : Str} {b : Bytes} (h : tl w = nb b) : tl (artS w) = nb (if ShBlazon.vowel b = true then ShBlazon.ascii "an" else ShBlazon.ascii "a") := by
  unfold artS
  rw [h]
  cases b with
  | nil => decide +kernel
  | cons c r =>
    have hv : (c.toNat ∈ tl "aeiou") ↔ ShBlazon.vowel (c :: r) = true := by
      have e : tl ("aeiou" : Str) = [97, 101, 105, 111, 117] := by decide +kernel
      have e2 : ShBlazon.vowel (c :: r) = ([97, 101, 105, 111, 117] : List UInt8).contains c := rfl
      rw [e, e2]
      simp only [List.contains_cons, List.contains_nil, Bool.or_false, Bool.or_eq_true, beq_iff_eq, List.mem_cons, List.not_mem_nil, or_false]
      have cv : ∀ k : UInt8, c.toNat = k.toNat ↔ c = k := fun k => UInt8.toNat_inj
      rw [← cv 97, ← cv 101, ← cv 105, ← cv 111, ← cv 117]
      exact Iff.rfl
    show tl (if c.toNat ∈ tl "aeiou" then ("an" : Str) else "a") = _
    by_cases q : c.toNat ∈ tl "aeiou"
    · rw [if_pos q, if_pos (hv.mp q)]; decide +kernel
    · rw [if_neg q, if_neg (fun z => q (hv.mpr z))]; decide +kernel
theorem says_layer {b : Field} {l : Layer} (h : LayerOk b l) : Says (lwS l) (ShBlazon.layerWords l) := by
  cases l with
  | ord o l f =>
    obtain ⟨h1, h2, h3⟩ := h
    exact Says.one (by decide +kernel) (Says.cons (w_ord o (by omega)) (withSin_ne _ _ _) ((Says.map (w_line l (by omega))).app (says_fill h3)))
  | group c n m s f =>
    obtain ⟨h1, h2, h3, h4, h5, h6, h7⟩ := h
    have hc := says_ch (n := n) h5 h6 h1
    refine Says.one ?_ ((Says.map hc).app ((says_man h4).app (says_fill h7)))
    unfold hmS
    by_cases q : n = 1
    · rw [if_pos q, if_pos q]
      refine art_ok ?_
      have hne : chS s n c ≠ [] := by unfold chS; simp
      have e1 : tl ((chS s n c).headD "") = ((chS s n c).map tl).headD [] := by
        cases hq : chS s n c with
        | nil => exact (hne hq).elim
        | cons a r => rfl
      rw [e1, hc]
      cases hq : ShBlazon.sizeWords s ++ [(if n = 1 then ShBlazon.CHARGEWORDS else ShBlazon.SEVERAL).getD c []] with
      | nil => simp at hq
      | cons a r => rfl
    · rw [if_neg q, if_neg q]
      exact w_count n (by omega) (by omega)
noncomputable def partsS (x : Arms) : List Str := Txt.join " " (fwS x.field) :: x.layers.map fun l => Txt.join " " (lwS l)
noncomputable def textS (x : Arms) : Str := Txt.join ", " (partsS x)
theorem tl_tj (y : Str) (ps : List Str) : tl (Txt.join y ps) = joinL (tl y) (ps.map tl) := by rw [join_eq]; exact tl_join y ps
theorem joinL_cons (S p : List Nat) : ∀ r : List (List Nat), joinL S (p :: r) = p ++ r.flatMap fun q => S ++ q
  | [] => by simp [joinL]
  | q :: r => by
    show p ++ (S ++ joinL S (q :: r)) = _
    rw [joinL_cons S q r]
    simp
theorem text_ok {x : Arms} (h1 : FieldOk x.field) (h2 : ∀ l ∈ x.layers, LayerOk x.field l) : tl (textS x) = nb (ShBlazon.print x) := by
  unfold textS partsS ShBlazon.print
  rw [tl_tj, List.map_cons, joinL_cons, tl_tj]
  have e1 : tl (" " : Str) = [32] := by decide +kernel
  have e2 : tl (", " : Str) = [44, 32] := by decide +kernel
  rw [e1, e2, (says_field h1).text]
  have e3 : (List.map tl (x.layers.map fun l => Txt.join " " (lwS l))).flatMap (fun q => [44, 32] ++ q) = nb (x.layers.flatMap fun (y : Layer) => 44 :: 32 :: ShBlazon.spaced (ShBlazon.layerWords y)) := by
    have gen : ∀ ls : List Layer, (∀ l ∈ ls, LayerOk x.field l) → (List.map tl (ls.map fun l => Txt.join " " (lwS l))).flatMap (fun q => [44, 32] ++ q) = nb (ls.flatMap fun (y : Layer) => 44 :: 32 :: ShBlazon.spaced (ShBlazon.layerWords y)) := by
      intro ls
      induction ls with
      | nil => intro _; rfl
      | cons l r ih =>
        intro hl
        rw [List.map_cons, List.map_cons, List.flatMap_cons, List.flatMap_cons, ih fun z hz => hl z (List.mem_cons_of_mem _ hz), tl_tj, e1, (says_layer (hl l (by simp))).text]
        simp [nb]
    exact gen x.layers h2
  rw [e3]
  simp [nb]
theorem n_s : (Str.ofString "s").length = 1 := by decide +kernel
theorem n_tinct : ∀ t, t < 9 → (tbT.getD t "").length ≤ 20 := by decide +kernel
theorem n_line : ∀ l, l < 6 → ((lineS l).map (·.length)).sum + (lineS l).length ≤ 20 := by decide +kernel
theorem n_way : ∀ d, d < 8 → (wayS d).length ≤ 20 := by decide +kernel
theorem n_vary : ∀ v, v < 7 → (tbV.getD v "").length ≤ 20 := by decide +kernel
theorem n_num : ∀ n, n < 25 → (numS n).length ≤ 20 := by decide +kernel
theorem n_ord : ∀ o, o < 13 → (tbO.getD o "").length ≤ 20 := by decide +kernel
theorem n_man : ∀ m, m < 7 → ((manS m).map (·.length)).sum + (manS m).length ≤ 40 := by decide +kernel
theorem n_size : ∀ s, s < 5 → (((tbZ.getD s none).toList).map (·.length)).sum + ((tbZ.getD s none).toList).length ≤ 20 := by decide +kernel
theorem n_c1 : ∀ c, c < 16 → (tbC.getD c "").length ≤ 20 := by decide +kernel
theorem n_c2 : ∀ c, c < 16 → ((tbC.map (· ++ ("s" : Str))).getD c "").length ≤ 20 := by decide +kernel
theorem n_count : ∀ n, n < 11 → ((tbN.getD n none).getD "").length ≤ 20 := by decide +kernel
noncomputable def Bd (ws : List Str) : Nat := (ws.map (·.length)).sum + ws.length
theorem bd_cons (w : Str) (ws : List Str) : Bd (w :: ws) = w.length + 1 + Bd ws := by unfold Bd; simp; omega
theorem bd_app (a b : List Str) : Bd (a ++ b) = Bd a + Bd b := by unfold Bd; simp; omega
theorem bd_nil : Bd [] = 0 := rfl
theorem bd_two {a b : Nat} (ha : a ≤ 8) (hb : b ≤ 8) : Bd (twoS a b) ≤ 60 := by
  unfold twoS
  rw [bd_cons, bd_cons, bd_cons, bd_nil]
  have h1 := n_tinct a (by omega)
  have h2 := n_tinct b (by omega)
  have h3 : (("and" : Str)).length = 3 := by decide +kernel
  omega
theorem bd_line {l : Nat} (h : l ≤ 5) : Bd (lineS l) ≤ 20 := n_line l (by omega)
theorem bd_field {f : Field} (h : FieldOk f) : Bd (fwS f) ≤ 200 := by
  cases f with
  | plain t =>
    show Bd [tbT.getD t ""] ≤ 200
    rw [bd_cons, bd_nil]
    have := n_tinct t (Nat.lt_succ_of_le h)
    omega
  | parted d l a b =>
    obtain ⟨h1, h2, h3, h4, _⟩ := h
    show Bd (wayS d :: (lineS l ++ twoS a b)) ≤ 200
    rw [bd_cons, bd_app]
    have e1 := n_way d (by omega)
    have e2 := bd_line h2
    have e3 := bd_two h3 h4
    omega
  | varied v n l a b =>
    obtain ⟨h1, h2, h2', h3, _, h4, h5, _⟩ := h
    show Bd (tbV.getD v "" :: "of" :: numS n :: (lineS l ++ twoS a b)) ≤ 200
    rw [bd_cons, bd_cons, bd_cons, bd_app]
    have e1 := n_vary v (by omega)
    have e2 := bd_line h3
    have e3 := bd_two h4 h5
    have e4 := n_num n (by omega)
    have e5 : (("of" : Str)).length = 2 := by decide +kernel
    omega
theorem bd_fill {b : Field} {f : Fill} (h : FillOk b f) : Bd (flS f) ≤ 200 := by
  cases f with
  | counter => decide +kernel
  | solid f => exact bd_field h
theorem bd_ch {s n c : Nat} (h2 : s ≤ 4) (h3 : c ≤ 15) : Bd (chS s n c) ≤ 60 := by
  unfold chS cwS
  rw [bd_app, bd_cons, bd_nil]
  have e1 : Bd ((tbZ.getD s none).toList) ≤ 20 := n_size s (by omega)
  by_cases q : n = 1
  · rw [if_pos q]
    have := n_c1 c (by omega)
    omega
  · rw [if_neg q]
    have := n_c2 c (by omega)
    omega
theorem art_len (w : Str) : (artS w).length ≤ 2 := by
  unfold artS
  split
  · split <;> decide +kernel
  · decide +kernel
theorem bd_layer {b : Field} {l : Layer} (h : LayerOk b l) : Bd (lwS l) ≤ 400 := by
  cases l with
  | ord o l f =>
    obtain ⟨h1, h2, h3⟩ := h
    show Bd ("a" :: tbO.getD o "" :: (lineS l ++ flS f)) ≤ 400
    rw [bd_cons, bd_cons, bd_app]
    have e1 := n_ord o (by omega)
    have e2 := bd_line h2
    have e3 := bd_fill h3
    have e5 : (("a" : Str)).length = 1 := by decide +kernel
    omega
  | group c n m s f =>
    obtain ⟨h1, h2, h3, h4, h5, h6, h7⟩ := h
    show Bd (hmS s n c :: (chS s n c ++ (manS m ++ flS f))) ≤ 400
    rw [bd_cons, bd_app, bd_app]
    have e1 := bd_ch (n := n) h6 h1
    have e2 : Bd (manS m) ≤ 40 := n_man m (by omega)
    have e3 := bd_fill h7
    have e4 : (hmS s n c).length ≤ 20 := by
      unfold hmS
      split
      · exact Nat.le_trans (art_len _) (by decide)
      · exact n_count n (by omega)
    omega
theorem len_joinL (S : List Nat) : ∀ ps : List (List Nat), (joinL S ps).length ≤ (ps.map (·.length)).sum + ps.length * S.length
  | [] => by simp [joinL]
  | [p] => by simp [joinL]
  | p :: q :: r => by
    have ih := len_joinL S (q :: r)
    show (p ++ (S ++ joinL S (q :: r))).length ≤ _
    rw [List.length_append, List.length_append, List.map_cons, List.sum_cons, List.length_cons, Nat.succ_mul]
    omega
theorem len_tj (y : Str) (ws : List Str) : (Txt.join y ws).length ≤ (ws.map (·.length)).sum + ws.length * y.length := by
  have h := len_joinL (tl y) (ws.map tl)
  rw [← tl_tj, ← len_tl, List.map_map, List.length_map, ← len_tl] at h
  have e : (ws.map ((fun x => x.length) ∘ tl)) = ws.map (·.length) := by
    apply List.map_congr_left
    intro w _
    exact (len_tl w).symm
  rw [e] at h
  exact h
theorem len_sp {ws : List Str} {n : Nat} (h : Bd ws ≤ n) : (Txt.join " " ws).length ≤ n ∧ (ws.map (·.length)).sum + ws.length * (" " : Str).length ≤ 16777216 ∨ 16777216 < n := by
  by_cases q : n ≤ 16777216
  · refine .inl ?_
    have e : ((" " : Str)).length = 1 := by decide +kernel
    have h2 := len_tj " " ws
    unfold Bd at h
    rw [e] at h2 ⊢
    exact ⟨by omega, by omega⟩
  · exact .inr (by omega)
theorem parts_len {x : Arms} (h1 : FieldOk x.field) (h2 : ∀ l ∈ x.layers, LayerOk x.field l) : ∀ w ∈ partsS x, w.length ≤ 400 := by
  intro w hw
  unfold partsS at hw
  rcases List.mem_cons.mp hw with z | z
  · rw [z]
    rcases len_sp (n := 400) (Nat.le_trans (bd_field h1) (by decide)) with q | q
    · exact q.1
    · omega
  · obtain ⟨l, hl, rfl⟩ := List.mem_map.mp z
    rcases len_sp (n := 400) (bd_layer (h2 l hl)) with q | q
    · exact q.1
    · omega
theorem sum_le {ws : List Str} {n : Nat} (h : ∀ w ∈ ws, w.length ≤ n) : (ws.map (·.length)).sum ≤ ws.length * n := by
  induction ws with
  | nil => simp
  | cons a r ih =>
    have h1 := h a (by simp)
    have h2 := ih fun w hw => h w (List.mem_cons_of_mem _ hw)
    rw [List.map_cons, List.sum_cons, List.length_cons, Nat.succ_mul]
    omega
theorem parts_sum {x : Arms} (h1 : FieldOk x.field) (h0 : x.layers.length ≤ 8) (h2 : ∀ l ∈ x.layers, LayerOk x.field l) : ((partsS x).map (·.length)).sum + (partsS x).length * (", " : Str).length ≤ 4000 := by
  have h := sum_le (parts_len h1 h2)
  have e : (partsS x).length = x.layers.length + 1 := by unfold partsS; simp
  have e2 : ((", " : Str)).length = 2 := by decide +kernel
  rw [e] at h ⊢
  rw [e2]
  have : (x.layers.length + 1) * 400 ≤ 9 * 400 := Nat.mul_le_mul_right _ (by omega)
  omega
theorem text_len {x : Arms} (h1 : FieldOk x.field) (h0 : x.layers.length ≤ 8) (h2 : ∀ l ∈ x.layers, LayerOk x.field l) : (textS x).length ≤ 4000 :=
  Nat.le_trans (len_tj _ _) (parts_sum h1 h0 h2)
theorem FieldAt.sm {CF z : Addr} {H H' : Hp} {f : Field} (x : FieldAt CF H z f) (s : Same H H') : FieldAt CF H' z f := let ⟨d, e⟩ := x; ⟨d, s _ _ e⟩
theorem FillAt.sm {CF : Addr} {v : V} {H H' : Hp} {f : Fill} (x : FillAt CF H v f) (s : Same H H') : FillAt CF H' v f := by
  cases f with
  | counter => exact x
  | solid f => obtain ⟨y, e, q⟩ := x; exact ⟨y, e, q.sm s⟩
theorem LayerAt.sm {CF CO CG z : Addr} {H H' : Hp} {l : Layer} (x : LayerAt CF CO CG H z l) (s : Same H H') : LayerAt CF CO CG H' z l := by
  cases l with
  | ord o l f => obtain ⟨d, v, e, q⟩ := x; exact ⟨d, v, s _ _ e, q.sm s⟩
  | group c n' m s' f => obtain ⟨d, v, e, q⟩ := x; exact ⟨d, v, s _ _ e, q.sm s⟩
theorem same_new {H : Hp} {l : Addr} {o : HO} (h : H l = none) : Same H (upd H l o) := fun b u e => by rw [upd_ne (ne_of_none e h)]; exact e
theorem same_over {H H1 : Hp} {l : Addr} {o : HO} (s : Same H H1) (h : H l = none) : Same H (upd H1 l o) := fun b u e => by rw [upd_ne (ne_of_none e h)]; exact s _ _ e
theorem tab_at {α : Type} (f : α → V) (xs : List α) (i : Nat) (d : α) (h : i < xs.length) : atI (xs.map f) (i : Int) = some (f (xs.getD i d)) := by
  refine atI_nat ?_
  rw [List.getElem?_map, List.getElem?_eq_getElem h]
  simp [List.getD, h]
theorem take_succ {α : Type} {l : List α} {i : Nat} {x : α} (h : l[i]? = some x) : l.take (i + 1) = l.take i ++ [x] := by
  rw [List.take_add_one, h]; rfl
noncomputable def NL (H : Hp) (Q : VK) (ws : List Str) : Prop := ∀ H' l, Same H H' → H l = none → H' l = some (.lst (ws.map V.str)) → Q (.ref l) H'
noncomputable def spSd : Sp := fun vs H Q _ => ∃ (l : Addr) (os : List (Option Str)), vs = [.ref l] ∧ H l = some (.lst (os.map vo)) ∧ os.length ≤ 100 ∧ NL H Q (os.filterMap id)
noncomputable def spT2 (CF : Addr) : Sp := fun vs H Q _ => ∃ (z : Addr) (f : Field) (a b : Nat), vs = [.ref z] ∧ FieldAt CF H z f ∧ (fOf f).lookup ("first" : Str) = some (vn a) ∧ (fOf f).lookup ("second" : Str) = some (vn b) ∧ a ≤ 8 ∧ b ≤ 8 ∧ NL H Q (twoS a b)
noncomputable def spPW : Sp := fun vs H Q _ => ∃ d : Nat, vs = [vn d] ∧ d ≤ 7 ∧ Q (.str (wayS d)) H
noncomputable def spFW (CF : Addr) : Sp := fun vs H Q _ => ∃ (z : Addr) (f : Field), vs = [.ref z] ∧ FieldAt CF H z f ∧ FieldOk f ∧ NL H Q (fwS f)
noncomputable def spFw (CF : Addr) : Sp := fun vs H Q _ => ∃ (v : V) (b : Field) (f : Fill), vs = [v] ∧ FillAt CF H v f ∧ FillOk b f ∧ NL H Q (flS f)
noncomputable def spOW (CF CO CG : Addr) : Sp := fun vs H Q _ => ∃ (z : Addr) (b : Field) (o l : Nat) (f : Fill), vs = [.ref z] ∧ LayerAt CF CO CG H z (.ord o l f) ∧ LayerOk b (.ord o l f) ∧ NL H Q (lwS (.ord o l f))
noncomputable def spMW : Sp := fun vs H Q _ => ∃ m : Nat, vs = [vn m] ∧ m ≤ 6 ∧ NL H Q (manS m)
noncomputable def spCW : Sp := fun vs H Q _ => ∃ n : Nat, vs = [vn n] ∧ NL H Q (cwS n)
noncomputable def spAB : Sp := fun vs H Q _ => ∃ w : Str, vs = [.str w] ∧ w.length ≤ 1000 ∧ tl w ≠ [] ∧ Q (.str (artS w)) H
noncomputable def spGW (CF CO CG : Addr) : Sp := fun vs H Q _ => ∃ (z : Addr) (b : Field) (c n m s : Nat) (f : Fill), vs = [.ref z] ∧ LayerAt CF CO CG H z (.group c n m s f) ∧ LayerOk b (.group c n m s f) ∧ NL H Q (lwS (.group c n m s f))
noncomputable def spLW (CF CO CG : Addr) : Sp := fun vs H Q _ => ∃ (z : Addr) (b : Field) (l : Layer), vs = [.ref z] ∧ LayerAt CF CO CG H z l ∧ LayerOk b l ∧ NL H Q (lwS l)
noncomputable def ArmsOk (x : Arms) : Prop := FieldOk x.field ∧ x.layers.length ≤ 8 ∧ ∀ l ∈ x.layers, LayerOk x.field l
noncomputable def spAZ (CF CO CG CA : Addr) : Sp := fun vs H Q _ => ∃ (z : Addr) (x : Arms), vs = [.ref z] ∧ ArmsAt CF CO CG CA H z x ∧ ArmsOk x ∧ ∀ H', Same H H' → Q (.str (textS x)) H'
noncomputable def spBB (CF CO CG CA : Addr) : Sp := fun vs H Q _ => ∃ (z : Addr) (x : Arms), vs = [.ref z] ∧ ArmsAt CF CO CG CA H z x ∧ ArmsOk x ∧ ∀ H' l, Same H H' → H l = none → H' l = some (.lst ((tl (textS x)).map vn)) → Q (.ref l) H'
noncomputable def spWL : Sp := fun vs H Q _ => ∃ (l : Addr) (xs : List V), vs = [.ref l] ∧ H l = some (.lst xs) ∧ xs.length ≤ 100000 ∧ ∀ H' l', Same H H' → H' l' = some (.lst (.int (xs.length : Nat) :: xs)) → Q (.ref l') H'
structure TP8 (K : PySem.W.Frag) (mg : Str → Option Value) (CO CG aT aL aP aW aV aO aC aN aZ aM fAB fCW fSd fT2 fPW fFW fFw fOW fMW fGW fLW fAZ fBB fWL : Addr) : Prop where
  mT : mg "TINCTURES" = some (.ref aT)
  sT : ∀ H, SqT K H aT (tbT.map V.str)
  mL : mg "LINES" = some (.ref aL)
  sL : ∀ H, SqT K H aL (tbL.map vo)
  mP : mg "PER_WAYS" = some (.ref aP)
  sP : ∀ H, SqT K H aP (tbP.map V.str)
  mW : mg "OTHER_WAYS" = some (.ref aW)
  sW : ∀ H, SqT K H aW (tbW.map V.str)
  mV : mg "VARIED_WAYS" = some (.ref aV)
  sV : ∀ H, SqT K H aV (tbV.map V.str)
  mO : mg "ORDINARIES" = some (.ref aO)
  sO : ∀ H, SqT K H aO (tbO.map V.str)
  mC : mg "CHARGES" = some (.ref aC)
  sC : ∀ H, SqT K H aC (tbC.map V.str)
  mN : mg "COUNTS" = some (.ref aN)
  sN : ∀ H, SqT K H aN (tbN.map vo)
  mZ : mg "SIZES" = some (.ref aZ)
  sZ : ∀ H, SqT K H aZ (tbZ.map vo)
  mM : mg "MANNERS" = some (.ref aM)
  sM : ∀ H, SqT K H aM (tbM.map vo)
  cc : ∃ t, mg "COUNTERCHANGED" = some (.str "counterchanged" t)
  gAB : mg "article_before" = some (.ref fAB)
  gCW : mg "charge_words" = some (.ref fCW)
  gSd : mg "said" = some (.ref fSd)
  gT2 : mg "two_tinctures" = some (.ref fT2)
  gPW : mg "parted_way" = some (.ref fPW)
  gFW : mg "field_words" = some (.ref fFW)
  gFw : mg "fill_words" = some (.ref fFw)
  gOW : mg "ordinary_words" = some (.ref fOW)
  gMW : mg "manner_words" = some (.ref fMW)
  gGW : mg "group_words" = some (.ref fGW)
  gLW : mg "layer_words" = some (.ref fLW)
  gAZ : mg "arms_blazon" = some (.ref fAZ)
  gBB : mg "blazon_bytes" = some (.ref fBB)
  gWL : mg "with_length" = some (.ref fWL)
  zList : mg "list" = none
  zStr : mg "str" = none
  zOrd : mg "ord" = none
  zIs : mg "isinstance" = none
  isO : ∀ (H : Hp) (z dz : Addr) (fs : List (Str × V)), H z = some (.ins CO dz fs) → TyOf K H (.ref z) (.ref CO)
  isG : ∀ (H : Hp) (z dz : Addr) (fs : List (Str × V)), H z = some (.ins CG dz fs) → TyOf K H (.ref z) (.ref CG)
  kO : PySem.W.kitOne K (.ref CO) (.ref CO) = some true
  kG : PySem.W.kitOne K (.ref CG) (.ref CO) = some false
section
variable {X : Cx}
theorem call_isinst : CallR X (.builtin "isinstance") (fun xs H Q => ∃ x C t b, xs = [x, .ref C] ∧ TyOf X.K H x t ∧ PySem.W.kitOne X.K t (.ref C) = some b ∧ Q (.bl b) H) := by
  intro pins s σ H xs us Q I r h
  obtain ⟨x, C, t, b, rfl, ty, e, q⟩ := h
  obtain ⟨u, w', rfl, r1, r2⟩ := vals2 r
  obtain rfl : w' = Value.ref C := r2
  exact isinst_ok I r1 ty e fun tk => ⟨.bl b, H, I.tok tk, rfl, q⟩
theorem lc_str {x : Str} {g : TG} {tt : TT} {te : TE} {vs : List Nat} {σ : L2.St} {H1 : Hp} {D : Addr} {Qd : Hp → Prop} (Pv : Nat → Hp → Prop) (h0 : Pv 0 (upd H1 D (.lst [])))
    (hs : ∀ i c H, x.cps[i]? = some c → Pv i H → g (.str ⟨#[c]⟩) (wipe σ vs) H fun σ2 H2 => wipe σ2 vs = wipe σ vs ∧ tt σ2 H2 fun b H3 =>
      if b = true then te σ2 H3 fun y H4 => ∃ acc, H4 D = some (.lst acc) ∧ acc.length < sizeLine ∧ Pv (i + 1) (upd H4 D (.lst (acc ++ [y]))) else Pv (i + 1) H3) (hd : ∀ H, Pv x.cps.size H → Qd H) :
    ∃ W : Nat → Nat → Hp → Prop, (∃ m, W 0 m (upd H1 D (.lst []))) ∧ ∀ i m H, W i m H →
      ((Its x).stop i H ∧ Qd H) ∨ ((Its x).go i H ∧ ∃ Nx : Hp → Prop, (∀ H', Nx H' → ∃ m', m' < m ∧ W (i + 1) m' H') ∧ ∀ y H', (Its x).yld i H y H' → g y (wipe σ vs) H' fun σ2 H2 => wipe σ2 vs = wipe σ vs ∧ tt σ2 H2 fun b H3 =>
        if b = true then te σ2 H3 fun y H4 => ∃ acc, H4 D = some (.lst acc) ∧ acc.length < sizeLine ∧ Nx (upd H4 D (.lst (acc ++ [y]))) else Nx H3) := by
  refine ⟨fun i m H => m = x.cps.size - i ∧ i ≤ x.cps.size ∧ Pv i H, ⟨x.cps.size, by simp, Nat.zero_le _, h0⟩, ?_⟩
  rintro i m H ⟨rfl, hi, p⟩
  by_cases hlt : i < x.cps.size
  · refine .inr ⟨hlt, Pv (i + 1), fun H' p' => ⟨x.cps.size - (i + 1), by omega, rfl, hlt, p'⟩, fun y H' q => ?_⟩
    obtain ⟨e, c, hc, hy⟩ := q
    subst e hy
    exact hs i c _ hc p
  · have e : i = x.cps.size := by omega
    subst e
    exact .inl ⟨Nat.le_refl _, hd H p⟩
end
section
variable {P : Program} {w : World} {K : PySem.W.Frag} {mg : Str → Option Value} {base : Heap} {CE NE fE CR fR fTk fTr fTo fTe CF CO CG CA fF fO fG fA fRP fRT fLV fRV fRF fFL fOL fGL fRL fRA : Addr}
  {aT aL aP aW aV aO aC aN aZ aM fAB fCW fSd fT2 fPW fFW fFw fOW fMW fGW fLW fAZ fBB fWL : Addr}
theorem scAB : FnScope ["word"] ["word"] (defScope sAB) := ⟨rfl, rfl, rfl, by decide +kernel, rfl, by decide +kernel, by decide +kernel⟩
theorem ok_ab {fd : FuncData} (F : Fun K "article_before" "article_before" sAB fAB fd) : FnOk P w K mg base (CXx P w) 1 fAB fd ["word"] spAB := by
  refine F.okX scAB (fun vs H Q E h => ?_) (fun cdv A outer s H vs Q E hr h => ?_)
  · obtain ⟨w', rfl, _⟩ := h
    rfl
  · obtain ⟨w', rfl, hl, hne, k⟩ := h
    refine ⟨_, pss_cons (ps_if (pt_cmpR op_in_sign (pe_ix ix_str (pv 0) pe_int (fun _ _ => rfl)) pe_str (by with_unfolding_all rfl)) (pss_one (ps_ret pe_str)) pss_nil) (pss_one (ps_ret pe_str)), ?_⟩
    obtain ⟨c, r, hc⟩ : ∃ c r, tl w' = c :: r := by
      cases q : tl w' with
      | nil => exact (hne q).elim
      | cons c r => exact ⟨c, r, rfl⟩
    refine ⟨_, rfl, w', 0, c, rfl, rfl, by rw [sizeLine_eq]; omega, (by show atI (tl w') ((0 : Nat) : Int) = some c; exact atI_nat (by rw [hc]; rfl)), c, _, rfl, rfl, _, rfl, ?_⟩
    unfold artS at k
    rw [hc] at k
    by_cases q : c ∈ tl ("aeiou" : Str)
    · refine iteP (decide_eq_true q) ?_
      have k : Q (.str (if c ∈ tl ("aeiou" : Str) then "an" else "a")) H := k
      rw [if_pos q] at k
      exact k
    · refine iteN (by rw [decide_eq_false q]; exact Bool.false_ne_true) ?_
      have k : Q (.str (if c ∈ tl ("aeiou" : Str) then "an" else "a")) H := k
      rw [if_neg q] at k
      exact k
theorem scCW : FnScope ["how_many", "word"] ["how_many"] (defScope sCW) := ⟨rfl, rfl, rfl, by decide +kernel, rfl, by decide +kernel, by decide +kernel⟩
theorem ok_cw {fd : FuncData} (F : Fun K "charge_words" "charge_words" sCW fCW fd) (V8 : TP8 K mg CO CG aT aL aP aW aV aO aC aN aZ aM fAB fCW fSd fT2 fPW fFW fFw fOW fMW fGW fLW fAZ fBB fWL) : FnOk P w K mg base (CXx P w) 1 fCW fd ["how_many"] spCW := by
  refine F.okX scCW (fun vs H Q E h => ?_) (fun cdv A outer s H vs Q E hr h => ?_)
  · obtain ⟨n, rfl, _⟩ := h
    rfl
  · obtain ⟨n, rfl, k⟩ := h
    refine ⟨_, pss_cons (ps_if (pt_cmpR op_eq (pv 0) pe_int (nomark _)) (pss_one (ps_ret (pe_callTy call_list_of rfl V8.zList (by decide +kernel) (pa_cons (pe_glob (v := .ref aC) rfl V8.mC rfl) pa_nil)))) pss_nil)
      (pss_one (ps_ret (pe_lc (own := [("word", 1)]) rfl scCW.nd (pi_tup (pe_glob (v := .ref aC) rfl V8.mC rfl)) (blkOk_by (by kernel_rfl)) (fun _ _ _ _ _ => pg_name (i := 1) scCW.nd rfl (Or.inl rfl)) (fun _ _ _ _ _ => pts_nil) (fun _ _ _ _ _ => pe_op op_add_str (pv 1) pe_str)))), ?_⟩
    refine ⟨_, rfl, rfl, _, rfl, ?_⟩
    unfold cwS at k
    by_cases q : n = 1
    · subst q
      refine iteP (decide_eq_true rfl) ?_
      rw [if_pos rfl] at k
      refine ⟨aC, _, rfl, .inr (V8.sC _), fun l hl => ?_⟩
      exact k _ l (same_new hl) hl upd_same
    · refine iteN (by intro z; have := of_decide_eq_true z; injection this with e; omega) ?_
      rw [if_neg q] at k
      refine ⟨aC, rfl, ⟨_, V8.sC _⟩, fun D hD => lc_tup (K := K) (a := aC) (xs := tbC.map V.str) (fun i H' => H' D = some (.lst (((tbC.take i).map (· ++ ("s" : Str))).map V.str)) ∧ Same H H') ⟨upd_same, same_new hD⟩ (fun i H' _ _ => V8.sC _) ?_ ?_⟩
      · rintro i x H' hi ⟨hD', sm⟩
        obtain ⟨u, hu, rfl⟩ : ∃ u, tbC[i]? = some u ∧ x = V.str u := by
          rw [List.getElem?_map] at hi
          cases e : tbC[i]? with
          | none => rw [e] at hi; cases hi
          | some u => rw [e] at hi; exact ⟨u, rfl, (Option.some.inj hi).symm⟩
        have ul : u.length ≤ 20 := by
          have hlt := (List.getElem?_eq_some_iff.mp hu).1
          have := n_c1 i hlt
          rw [List.getD_eq_getElem?_getD, hu] at this
          exact this
        refine ⟨rfl, ?_⟩
        unfold tYes
        refine iteP rfl ⟨_, rfl, u, "s", rfl, rfl, (by rw [n_s, sizeLine_eq]; omega), _, hD', ?_, ?_, same_over sm hD⟩
        · simp only [List.length_map, List.length_take]
          have : tbC.length = 16 := rfl
          rw [sizeLine_eq]; omega
        · rw [upd_same, take_succ hu, List.map_append, List.map_append]; rfl
      · rintro H' ⟨hD', sm⟩
        rw [List.length_map, List.take_length] at hD'
        exact k H' D sm hD hD'
theorem scSd : FnScope ["words", "word"] ["words"] (defScope sSd) := ⟨rfl, rfl, rfl, by decide +kernel, rfl, by decide +kernel, by decide +kernel⟩
theorem ok_sd {fd : FuncData} (F : Fun K "said" "said" sSd fSd fd) : FnOk P w K mg base (CXx P w) 1 fSd fd ["words"] spSd := by
  refine F.okX scSd (fun vs H Q E h => ?_) (fun cdv A outer s H vs Q E hr h => ?_)
  · obtain ⟨l, os, rfl, _⟩ := h
    rfl
  · obtain ⟨l, os, rfl, hl, hlen, k⟩ := h
    refine ⟨_, pss_one (ps_ret (pe_lc (own := [("word", 1)]) rfl scSd.nd (pi_list (pv 0)) (blkOk_by (by kernel_rfl)) (fun _ _ _ _ _ => pg_name (i := 1) scSd.nd rfl (Or.inl rfl)) (fun _ _ _ _ _ => pts_one (pt_cmpR op_notN (pv 1) pe_non (nomark _))) (fun _ _ _ _ _ => pv 1))), ?_⟩
    refine ⟨_, rfl, l, rfl, ⟨_, SqL.of hl⟩, fun D hD => lc_list (K := K) (a := l) (xs := os.map vo) (fun i H' => H' D = some (.lst (((os.take i).filterMap id).map V.str)) ∧ Same H H') ⟨upd_same, same_new hD⟩ (fun i H' _ z => SqL.of (z.2 _ _ hl)) ?_ ?_⟩
    · rintro i x H' hi ⟨hD', sm⟩
      obtain ⟨u, hu, rfl⟩ : ∃ u, os[i]? = some u ∧ x = vo u := by
        rw [List.getElem?_map] at hi
        cases e : os[i]? with
        | none => rw [e] at hi; cases hi
        | some u => rw [e] at hi; exact ⟨u, rfl, (Option.some.inj hi).symm⟩
      refine ⟨rfl, _, rfl, rfl, _, rfl, ?_⟩
      cases u with
      | none =>
        refine iteN (by decide) ?_
        exact ⟨by rw [hD', take_succ hu, List.filterMap_append]; simp, sm⟩
      | some u =>
        refine iteP (by rfl) ⟨_, rfl, _, hD', ?_, ?_, same_over sm hD⟩
        · rw [List.length_map]
          have := List.length_filterMap_le id (os.take i)
          rw [List.length_take] at this
          rw [sizeLine_eq]; omega
        · rw [upd_same, take_succ hu, List.filterMap_append]; simp; rfl
    · rintro H' ⟨hD', sm⟩
      rw [List.length_map, List.take_length] at hD'
      exact k H' D sm hD hD'
end
section
variable {P : Program} {w : World} {K : PySem.W.Frag} {mg : Str → Option Value} {base : Heap} {CE NE fE CR fR fTk fTr fTo fTe CF CO CG CA fF fO fG fA fRP fRT fLV fRV fRF fFL fOL fGL fRL fRA : Addr}
  {aT aL aP aW aV aO aC aN aZ aM fAB fCW fSd fT2 fPW fFW fFw fOW fMW fGW fLW fAZ fBB fWL : Addr}
theorem scT2 : FnScope ["field"] ["field"] (defScope sT2) := ⟨rfl, rfl, rfl, by decide +kernel, rfl, by decide +kernel, by decide +kernel⟩
theorem ok_t2 {fd : FuncData} (F : Fun K "two_tinctures" "two_tinctures" sT2 fT2 fd) (U : TA1 K mg CR CF CO CG CA fF fO fG fA fRP fRT fLV fRV fRF fFL fOL fGL fRL fRA) (V8 : TP8 K mg CO CG aT aL aP aW aV aO aC aN aZ aM fAB fCW fSd fT2 fPW fFW fFw fOW fMW fGW fLW fAZ fBB fWL) :
    FnOk P w K mg base (CXx P w) 1 fT2 fd ["field"] (spT2 CF) := by
  refine F.okX scT2 (fun vs H Q E h => ?_) (fun cdv A outer s H vs Q E hr h => ?_)
  · obtain ⟨z, f, a, b, rfl, _⟩ := h
    rfl
  · obtain ⟨z, f, a, b, rfl, ⟨dz, hz⟩, e1, e2, ha, hb, k⟩ := h
    refine ⟨_, pss_one (ps_ret (pe_lst (pa_cons (pe_ix ix_tup (pe_glob (v := .ref aT) rfl V8.mT rfl) (pe_fld (pv 0) rfl) (fun _ _ => rfl)) (pa_cons pe_str (pa_cons (pe_ix ix_tup (pe_glob (v := .ref aT) rfl V8.mT rfl) (pe_fld (pv 0) rfl) (fun _ _ => rfl)) pa_nil))))), ?_⟩
    refine ⟨_, rfl, z, CF, dz, _, _, rfl, hz, U.F.cl, U.F.no _ (by decide +kernel), e1, aT, _, _, _, rfl, rfl, V8.sT _, tab_at V.str tbT a "" (by show a < 9; omega), ?_⟩
    refine ⟨_, rfl, z, CF, dz, _, _, rfl, hz, U.F.cl, U.F.no _ (by decide +kernel), e2, aT, _, _, _, rfl, rfl, V8.sT _, tab_at V.str tbT b "" (by show b < 9; omega), ?_⟩
    refine ⟨(by show 3 ≤ sizeLine; rw [sizeLine_eq]; omega), fun l hl => ?_⟩
    exact k _ l (same_new hl) hl upd_same
theorem scPW : FnScope ["way"] ["way"] (defScope sPW) := ⟨rfl, rfl, rfl, by decide +kernel, rfl, by decide +kernel, by decide +kernel⟩
theorem ok_pw {fd : FuncData} (F : Fun K "parted_way" "parted_way" sPW fPW fd) (T : TR K mg CE NE fE CR fR fTk fTr fTo fTe) (V8 : TP8 K mg CO CG aT aL aP aW aV aO aC aN aZ aM fAB fCW fSd fT2 fPW fFW fFw fOW fMW fGW fLW fAZ fBB fWL) :
    FnOk P w K mg base (CXx P w) 1 fPW fd ["way"] spPW := by
  refine F.okX scPW (fun vs H Q E h => ?_) (fun cdv A outer s H vs Q E hr h => ?_)
  · obtain ⟨d, rfl, _⟩ := h
    rfl
  · obtain ⟨d, rfl, hd, k⟩ := h
    refine ⟨_, pss_cons (ps_if (pt_cmpR op_lt (pv 0) (pe_callB call_len_seq (by rfl) T.len PySem.boot_len (pa_cons (pe_glob (v := .ref aP) rfl V8.mP rfl) pa_nil)) (nomark _))
        (pss_one (ps_ret (pe_op op_add_str pe_str (pe_ix ix_tup (pe_glob (v := .ref aP) rfl V8.mP rfl) (pv 0) (fun _ _ => rfl))))) pss_nil)
      (pss_one (ps_ret (pe_ix ix_tup (pe_glob (v := .ref aW) rfl V8.mW rfl) (pe_op op_sub (pv 0) (pe_callB call_len_seq (by rfl) T.len PySem.boot_len (pa_cons (pe_glob (v := .ref aP) rfl V8.mP rfl) pa_nil))) (fun _ _ => rfl)))), ?_⟩
    refine ⟨_, rfl, aP, _, rfl, .inr (V8.sP _), _, _, rfl, rfl, _, rfl, ?_⟩
    unfold wayS at k
    by_cases q : d < 6
    · refine iteP (decide_eq_true (by show (d : Int) < 6; omega)) ?_
      rw [if_pos q] at k
      refine ⟨_, rfl, aP, _, _, _, rfl, rfl, V8.sP _, tab_at V.str tbP d "" q, _, _, rfl, rfl, ?_, k⟩
      have h1 := n_way d (by omega)
      unfold wayS at h1
      rw [if_pos q, len_tl, tl_append, List.length_append, ← len_tl, ← len_tl] at h1
      rw [sizeLine_eq]
      exact Nat.le_trans h1 (by decide)
    · refine iteN (by intro z; have z' : (d : Int) < 6 := of_decide_eq_true z; omega) ?_
      rw [if_neg q] at k
      refine ⟨_, rfl, aP, _, rfl, .inr (V8.sP _), _, _, rfl, rfl, aW, _, _, _, rfl, rfl, V8.sW _, ?_, k⟩
      show atI (tbW.map V.str) ((d : Int) - 6) = _
      rw [show ((d : Int) - 6) = ((d - 6 : Nat) : Int) by omega]
      exact tab_at V.str tbW (d - 6) "" (by show d - 6 < 2; omega)
theorem f_look (f : Field) : (fOf f).lookup ("first" : Str) = some (vn (match f with | .plain t => t | .parted _ _ a _ => a | .varied _ _ _ a _ => a)) ∧ (fOf f).lookup ("second" : Str) = some (vn (match f with | .plain t => t | .parted _ _ _ b => b | .varied _ _ _ _ b => b)) ∧
    (fOf f).lookup ("way" : Str) = some (vn (match f with | .plain _ => 0 | .parted d _ _ _ => d | .varied v _ _ _ _ => v)) ∧ (fOf f).lookup ("line" : Str) = some (vn (match f with | .plain _ => 0 | .parted _ l _ _ => l | .varied _ _ l _ _ => l)) ∧
    (fOf f).lookup ("pieces" : Str) = some (vn (match f with | .plain _ => 0 | .parted .. => 0 | .varied _ n _ _ _ => n)) := by
  cases f <;> exact ⟨by kernel_rfl, by kernel_rfl, by kernel_rfl, by kernel_rfl, by kernel_rfl⟩
theorem scFW : FnScope ["field", "way"] ["field"] (defScope sFW) := ⟨rfl, rfl, rfl, by decide +kernel, rfl, by decide +kernel, by decide +kernel⟩
theorem ok_fw {fdS fdT fdP fd : FuncData} (F : Fun K "field_words" "field_words" sFW fFW fd) (U : TA1 K mg CR CF CO CG CA fF fO fG fA fRP fRT fLV fRV fRF fFL fOL fGL fRL fRA) (V8 : TP8 K mg CO CG aT aL aP aW aV aO aC aN aZ aM fAB fCW fSd fT2 fPW fFW fFw fOW fMW fGW fLW fAZ fBB fWL)
    (GS : FnOk P w K mg base (CXx P w) 1 fSd fdS ["words"] spSd) (bS : Binds K fdS ["words"] []) (kS : PySem.W.keepIn K (.ref fSd) = true) (GT : FnOk P w K mg base (CXx P w) 1 fT2 fdT ["field"] (spT2 CF)) (bT : Binds K fdT ["field"] []) (kT : PySem.W.keepIn K (.ref fT2) = true)
    (GP : FnOk P w K mg base (CXx P w) 1 fPW fdP ["way"] spPW) (bP : Binds K fdP ["way"] []) (kP : PySem.W.keepIn K (.ref fPW) = true) : FnOk P w K mg base (CXx P w) 2 fFW fd ["field"] (spFW CF) := by
  refine F.okX scFW (fun vs H Q E h => ?_) (fun cdv A outer s H vs Q E hr h => ?_)
  · obtain ⟨z, f, rfl, _⟩ := h
    rfl
  · obtain ⟨z, f, rfl, hF, hok, k⟩ := h
    obtain ⟨dz, hz⟩ := id hF
    obtain ⟨t0, h0⟩ := U.i "PLAIN" 0 (by decide +kernel)
    obtain ⟨t1, h1⟩ := U.i "PARTED" 1 (by decide +kernel)
    obtain ⟨e1, e2, e3, e4, e5⟩ := f_look f
    refine ⟨_, pss_cons (ps_if (pt_cmpR op_eq (pe_fld (pv 0) rfl) (pe_glob (v := .int 0) rfl h0 ⟨t0, rfl⟩) (nomark _)) (pss_one (ps_ret (pe_lst (pa_cons (pe_ix ix_tup (pe_glob (v := .ref aT) rfl V8.mT rfl) (pe_fld (pv 0) rfl) (fun _ _ => rfl)) pa_nil)))) pss_nil)
      (pss_cons (ps_if (pt_cmpR op_eq (pe_fld (pv 0) rfl) (pe_glob (v := .int 1) rfl h1 ⟨t1, rfl⟩) (nomark _))
        (pss_one (ps_ret (pe_op op_cat (pe_call GS hr rfl V8.gSd kS bS .nil passN (pa_cons (pe_lst (pa_cons (pe_call GP hr rfl V8.gPW kP bP .nil passN (pa_cons (pe_fld (pv 0) rfl) pa_nil)) (pa_cons (pe_ix ix_tup (pe_glob (v := .ref aL) rfl V8.mL rfl) (pe_fld (pv 0) rfl) (fun _ _ => rfl)) pa_nil))) pa_nil))
          (pe_call GT hr rfl V8.gT2 kT bT .nil passN (pa_cons (pv 0) pa_nil))))) pss_nil)
      (pss_cons (ps_set (i := 1) scFW.nd rfl (Or.inl rfl) (pe_lst (pa_cons (pe_ix ix_tup (pe_glob (v := .ref aV) rfl V8.mV rfl) (pe_fld (pv 0) rfl) (fun _ _ => rfl)) (pa_cons pe_str (pa_cons (pe_callTy call_str_int rfl V8.zStr (by decide +kernel) (pa_cons (pe_fld (pv 0) rfl) pa_nil)) (pa_cons (pe_ix ix_tup (pe_glob (v := .ref aL) rfl V8.mL rfl) (pe_fld (pv 0) rfl) (fun _ _ => rfl)) pa_nil))))))
      (pss_one (ps_ret (pe_op op_cat (pe_call GS hr rfl V8.gSd kS bS .nil passN (pa_cons (pv 1) pa_nil)) (pe_call GT hr rfl V8.gT2 kT bT .nil passN (pa_cons (pv 0) pa_nil))))))), ?_⟩
    have cat : ∀ {H1 H2 : Hp} {l1 l2 : Addr} {ws vs : List Str}, Same H H2 → H2 l1 = some (.lst (ws.map V.str)) → H2 l2 = some (.lst (vs.map V.str)) → ws.length + vs.length ≤ 1000 → fwS f = ws ++ vs → rCat (.ref l1) (.ref l2) H2 Q := by
      intro H1 H2 l1 l2 ws vs s2 h1 h2 hlen e
      refine ⟨l1, l2, _, _, rfl, rfl, h1, h2, by rw [List.length_map, List.length_map, sizeLine_eq]; omega, fun p hp => ?_⟩
      exact k _ p (s2.trans (same_new hp)) (s2.free hp) (by rw [upd_same, e, List.map_append])
    refine ⟨_, rfl, z, CF, dz, _, _, rfl, hz, U.F.cl, U.F.no _ (by decide +kernel), f_kind f, rfl, _, rfl, ?_⟩
    cases f with
    | plain t =>
      refine iteP (decide_eq_true rfl) ?_
      refine ⟨_, rfl, z, CF, dz, _, _, rfl, hz, U.F.cl, U.F.no _ (by decide +kernel), e1, ?_⟩
      refine ⟨aT, _, _, _, rfl, rfl, V8.sT _, tab_at V.str tbT t "" (Nat.lt_succ_of_le hok), ?_⟩
      refine ⟨(by show 1 ≤ sizeLine; rw [sizeLine_eq]; omega), fun l hl => ?_⟩
      exact k _ l (same_new hl) hl upd_same
    | parted d l a b =>
      obtain ⟨o1, o2, o3, o4, _⟩ := hok
      refine iteN (by intro y; have := of_decide_eq_true y; cases this) ?_
      refine ⟨_, rfl, z, CF, dz, _, _, rfl, hz, U.F.cl, U.F.no _ (by decide +kernel), f_kind _, rfl, _, rfl, ?_⟩
      refine iteP (decide_eq_true rfl) ?_
      refine ⟨_, rfl, z, CF, dz, _, _, rfl, hz, U.F.cl, U.F.no _ (by decide +kernel), e3, ?_⟩
      refine ⟨d, rfl, o1, ?_⟩
      refine ⟨_, rfl, z, CF, dz, _, _, rfl, hz, U.F.cl, U.F.no _ (by decide +kernel), e4, ?_⟩
      refine ⟨aL, _, _, _, rfl, rfl, V8.sL _, tab_at vo tbL l none (by show l < 6; omega), ?_⟩
      refine ⟨(by show 2 ≤ sizeLine; rw [sizeLine_eq]; omega), fun l1 hl1 => ?_⟩
      refine ⟨l1, [some (wayS d), tbL.getD l none], rfl, upd_same, by show 2 ≤ 100; decide, fun H2 l2 s2 hl2 e2' => ?_⟩
      have s02 : Same H H2 := (same_new hl1).trans s2
      refine ⟨_, rfl, z, _, a, b, rfl, hF.sm s02, e1, e2, o3, o4, fun H3 l3 s3 hl3 e3' => ?_⟩
      refine cat (H1 := H) (ws := wayS d :: lineS l) (vs := twoS a b) (s02.trans s3) (s3 _ _ (e2'.trans (by unfold lineS; cases tbL.getD l none <;> rfl))) e3' ?_ rfl
      have := bd_line o2
      unfold Bd at this
      show (lineS l).length + 1 + 3 ≤ 1000
      omega
    | varied v n l a b =>
      obtain ⟨o1, o2, o2', o3, _, o4, o5, _⟩ := hok
      refine iteN (by intro y; have := of_decide_eq_true y; cases this) ?_
      refine ⟨_, rfl, z, CF, dz, _, _, rfl, hz, U.F.cl, U.F.no _ (by decide +kernel), f_kind _, rfl, _, rfl, ?_⟩
      refine iteN (by intro y; have := of_decide_eq_true y; cases this) ?_
      refine ⟨_, rfl, z, CF, dz, _, _, rfl, hz, U.F.cl, U.F.no _ (by decide +kernel), e3, ?_⟩
      refine ⟨aV, _, _, _, rfl, rfl, V8.sV _, tab_at V.str tbV v "" (by show v < 7; omega), ?_⟩
      refine ⟨_, rfl, z, CF, dz, _, _, rfl, hz, U.F.cl, U.F.no _ (by decide +kernel), e5, ?_⟩
      refine ⟨_, rfl, (by have : ∀ n, n < 25 → (((n : Nat) : Int).natAbs).log2 < 1920 := by decide +kernel
                          exact this n (by omega)), ?_⟩
      refine ⟨_, rfl, z, CF, dz, _, _, rfl, hz, U.F.cl, U.F.no _ (by decide +kernel), e4, ?_⟩
      refine ⟨aL, _, _, _, rfl, rfl, V8.sL _, tab_at vo tbL l none (by show l < 6; omega), ?_⟩
      refine ⟨(by show 4 ≤ sizeLine; rw [sizeLine_eq]; omega), fun l1 hl1 => ?_⟩
      refine ⟨_, rfl, l1, [some (tbV.getD v ""), some "of", some (numS n), tbL.getD l none], rfl, upd_same, by show 4 ≤ 100; decide, fun H2 l2 s2 hl2 e2' => ?_⟩
      have s02 : Same H H2 := (same_new hl1).trans s2
      refine ⟨_, rfl, z, _, a, b, rfl, hF.sm s02, e1, e2, o4, o5, fun H3 l3 s3 hl3 e3' => ?_⟩
      refine cat (H1 := H) (ws := tbV.getD v "" :: "of" :: numS n :: lineS l) (vs := twoS a b) (s02.trans s3) (s3 _ _ (e2'.trans (by unfold lineS; cases tbL.getD l none <;> rfl))) e3' ?_ rfl
      have := bd_line o3
      unfold Bd at this
      show (lineS l).length + 1 + 1 + 1 + 3 ≤ 1000
      omega
theorem scFw : FnScope ["fill"] ["fill"] (defScope sFw) := ⟨rfl, rfl, rfl, by decide +kernel, rfl, by decide +kernel, by decide +kernel⟩
theorem ok_fillw {fdF fd : FuncData} (F : Fun K "fill_words" "fill_words" sFw fFw fd) (V8 : TP8 K mg CO CG aT aL aP aW aV aO aC aN aZ aM fAB fCW fSd fT2 fPW fFW fFw fOW fMW fGW fLW fAZ fBB fWL)
    (GF : FnOk P w K mg base (CXx P w) 2 fFW fdF ["field"] (spFW CF)) (bF : Binds K fdF ["field"] []) (kF : PySem.W.keepIn K (.ref fFW) = true) : FnOk P w K mg base (CXx P w) 3 fFw fd ["fill"] (spFw CF) := by
  refine F.okX scFw (fun vs H Q E h => ?_) (fun cdv A outer s H vs Q E hr h => ?_)
  · obtain ⟨v, b, f, rfl, _⟩ := h
    rfl
  · obtain ⟨v, b, f, rfl, hF, hok, k⟩ := h
    obtain ⟨tc, hc⟩ := V8.cc
    refine ⟨_, pss_cons (ps_if (pt_cmpR op_isN (pv 0) pe_non (nomark _)) (pss_one (ps_ret (pe_lst (pa_cons (pe_glob (v := .str "counterchanged") rfl hc ⟨tc, rfl⟩) pa_nil)))) pss_nil)
      (pss_one (ps_ret (pe_call GF hr rfl V8.gFW kF bF .nil passN (pa_cons (pv 0) pa_nil)))), ?_⟩
    refine ⟨_, rfl, rfl, _, rfl, ?_⟩
    cases f with
    | counter =>
      have hv : v = .non := hF
      subst hv
      refine iteP (decide_eq_true rfl) ?_
      refine ⟨(by show 1 ≤ sizeLine; rw [sizeLine_eq]; omega), fun l hl => ?_⟩
      exact k _ l (same_new hl) hl upd_same
    | solid f =>
      obtain ⟨y, rfl, hy⟩ := hF
      refine iteN (by intro z; have := of_decide_eq_true z; cases this) ?_
      exact ⟨_, rfl, y, f, rfl, hy, hok, k⟩
theorem o_look (o l : Nat) (v : V) : (ofv (vn o) (vn l) v).lookup ("ordinary" : Str) = some (vn o) ∧ (ofv (vn o) (vn l) v).lookup ("line" : Str) = some (vn l) ∧ (ofv (vn o) (vn l) v).lookup ("fill" : Str) = some v := ⟨by kernel_rfl, by kernel_rfl, by kernel_rfl⟩
theorem g_look (c n m s : Nat) (v : V) : (gfv (vn c) (vn n) (vn m) (vn s) v).lookup ("charge" : Str) = some (vn c) ∧ (gfv (vn c) (vn n) (vn m) (vn s) v).lookup ("how_many" : Str) = some (vn n) ∧ (gfv (vn c) (vn n) (vn m) (vn s) v).lookup ("manner" : Str) = some (vn m) ∧
    (gfv (vn c) (vn n) (vn m) (vn s) v).lookup ("size" : Str) = some (vn s) ∧ (gfv (vn c) (vn n) (vn m) (vn s) v).lookup ("fill" : Str) = some v := ⟨by kernel_rfl, by kernel_rfl, by kernel_rfl, by kernel_rfl, by kernel_rfl⟩
theorem scOW : FnScope ["layer"] ["layer"] (defScope sOW) := ⟨rfl, rfl, rfl, by decide +kernel, rfl, by decide +kernel, by decide +kernel⟩
theorem ok_ow {fdS fdF fd : FuncData} (F : Fun K "ordinary_words" "ordinary_words" sOW fOW fd) (U : TA1 K mg CR CF CO CG CA fF fO fG fA fRP fRT fLV fRV fRF fFL fOL fGL fRL fRA) (V8 : TP8 K mg CO CG aT aL aP aW aV aO aC aN aZ aM fAB fCW fSd fT2 fPW fFW fFw fOW fMW fGW fLW fAZ fBB fWL)
    (GS : FnOk P w K mg base (CXx P w) 1 fSd fdS ["words"] spSd) (bS : Binds K fdS ["words"] []) (kS : PySem.W.keepIn K (.ref fSd) = true) (GF : FnOk P w K mg base (CXx P w) 3 fFw fdF ["fill"] (spFw CF)) (bF : Binds K fdF ["fill"] []) (kF : PySem.W.keepIn K (.ref fFw) = true) :
    FnOk P w K mg base (CXx P w) 4 fOW fd ["layer"] (spOW CF CO CG) := by
  refine F.okX scOW (fun vs H Q E h => ?_) (fun cdv A outer s H vs Q E hr h => ?_)
  · obtain ⟨z, b, o, l, f, rfl, _⟩ := h
    rfl
  · obtain ⟨z, b, o, l, f, rfl, ⟨dz, v, hz, hv⟩, hok, k⟩ := h
    obtain ⟨o1, o2, o3⟩ := hok
    obtain ⟨e1, e2, e3⟩ := o_look o l v
    have hr1 : Room 1 _ := hr.mono (by decide)
    refine ⟨_, pss_one (ps_ret (pe_op op_cat (pe_call GS hr1 rfl V8.gSd kS bS .nil passN (pa_cons (pe_lst (pa_cons pe_str (pa_cons (pe_ix ix_tup (pe_glob (v := .ref aO) rfl V8.mO rfl) (pe_fld (pv 0) rfl) (fun _ _ => rfl)) (pa_cons (pe_ix ix_tup (pe_glob (v := .ref aL) rfl V8.mL rfl) (pe_fld (pv 0) rfl) (fun _ _ => rfl)) pa_nil)))) pa_nil))
      (pe_call GF hr rfl V8.gFw kF bF .nil passN (pa_cons (pe_fld (pv 0) rfl) pa_nil)))), ?_⟩
    refine ⟨_, rfl, z, CO, dz, _, _, rfl, hz, U.O.cl, U.O.no _ (by decide +kernel), e1, aO, _, _, _, rfl, rfl, V8.sO _, tab_at V.str tbO o "" (by show o < 13; omega), ?_⟩
    refine ⟨_, rfl, z, CO, dz, _, _, rfl, hz, U.O.cl, U.O.no _ (by decide +kernel), e2, aL, _, _, _, rfl, rfl, V8.sL _, tab_at vo tbL l none (by show l < 6; omega), ?_⟩
    refine ⟨(by show 3 ≤ sizeLine; rw [sizeLine_eq]; omega), fun l1 hl1 => ?_⟩
    refine ⟨l1, [some "a", some (tbO.getD o ""), tbL.getD l none], rfl, upd_same, by show 3 ≤ 100; decide, fun H2 l2 s2 hl2 e2' => ?_⟩
    have s02 : Same H H2 := (same_new hl1).trans s2
    refine ⟨_, rfl, z, CO, dz, _, _, rfl, s02 _ _ hz, U.O.cl, U.O.no _ (by decide +kernel), e3, ?_⟩
    refine ⟨v, b, f, rfl, hv.sm s02, o3, fun H3 l3 s3 hl3 e3' => ?_⟩
    have hl2' : H3 l2 = some (.lst (([("a" : Str), tbO.getD o ""] ++ lineS l).map V.str)) := s3 _ _ (e2'.trans (by unfold lineS; cases tbL.getD l none <;> rfl))
    have b1 := bd_line o2
    have b2 := bd_fill o3
    unfold Bd at b1 b2
    refine ⟨l2, l3, _, _, rfl, rfl, hl2', e3', ?_, fun p hp => ?_⟩
    · simp only [List.length_map, List.length_append, List.length_cons, List.length_nil]
      rw [sizeLine_eq]; omega
    · have s03 := s02.trans s3
      exact k _ p (s03.trans (same_new hp)) (s03.free hp) (by rw [upd_same, ← List.map_append]; rfl)
theorem scMW : FnScope ["manner"] ["manner"] (defScope sMW) := ⟨rfl, rfl, rfl, by decide +kernel, rfl, by decide +kernel, by decide +kernel⟩
theorem ok_mw {fd : FuncData} (F : Fun K "manner_words" "manner_words" sMW fMW fd) (V8 : TP8 K mg CO CG aT aL aP aW aV aO aC aN aZ aM fAB fCW fSd fT2 fPW fFW fFw fOW fMW fGW fLW fAZ fBB fWL) : FnOk P w K mg base (CXx P w) 1 fMW fd ["manner"] spMW := by
  refine F.okX scMW (fun vs H Q E h => ?_) (fun cdv A outer s H vs Q E hr h => ?_)
  · obtain ⟨m, rfl, _⟩ := h
    rfl
  · obtain ⟨m, rfl, hm, k⟩ := h
    refine ⟨_, pss_cons (ps_if (pt_cmpR op_isN (pe_ix ix_tup (pe_glob (v := .ref aM) rfl V8.mM rfl) (pv 0) (fun _ _ => rfl)) pe_non (nomark _)) (pss_one (ps_ret (pe_lst pa_nil))) pss_nil)
      (pss_one (ps_ret (pe_lst (pa_cons pe_str (pa_cons (pe_ix ix_tup (pe_glob (v := .ref aM) rfl V8.mM rfl) (pv 0) (fun _ _ => rfl)) pa_nil))))), ?_⟩
    have ht := tab_at vo tbM m none (by show m < 7; omega)
    refine ⟨_, rfl, aM, _, _, _, rfl, rfl, V8.sM _, ht, rfl, _, rfl, ?_⟩
    unfold manS at k
    cases e : tbM.getD m none with
    | none =>
      rw [e] at k
      refine iteP (decide_eq_true rfl) ?_
      refine ⟨Nat.zero_le _, fun l hl => ?_⟩
      exact k _ l (same_new hl) hl upd_same
    | some u =>
      rw [e] at k ht
      refine iteN (by intro z; have := of_decide_eq_true z; cases this) ?_
      refine ⟨_, rfl, aM, _, _, _, rfl, rfl, V8.sM _, ht, (by show 2 ≤ sizeLine; rw [sizeLine_eq]; omega), fun l hl => ?_⟩
      exact k _ l (same_new hl) hl upd_same
theorem scGW : FnScope ["group", "charge", "charged", "how_many"] ["group"] (defScope sGW) := ⟨rfl, rfl, rfl, by decide +kernel, rfl, by decide +kernel, by decide +kernel⟩
theorem ok_gw {fdC fdS fdA fdM fdF fd : FuncData} (F : Fun K "group_words" "group_words" sGW fGW fd) (U : TA1 K mg CR CF CO CG CA fF fO fG fA fRP fRT fLV fRV fRF fFL fOL fGL fRL fRA) (V8 : TP8 K mg CO CG aT aL aP aW aV aO aC aN aZ aM fAB fCW fSd fT2 fPW fFW fFw fOW fMW fGW fLW fAZ fBB fWL)
    (GC : FnOk P w K mg base (CXx P w) 1 fCW fdC ["how_many"] spCW) (bC : Binds K fdC ["how_many"] []) (kC : PySem.W.keepIn K (.ref fCW) = true)
    (GS : FnOk P w K mg base (CXx P w) 1 fSd fdS ["words"] spSd) (bS : Binds K fdS ["words"] []) (kS : PySem.W.keepIn K (.ref fSd) = true)
    (GA : FnOk P w K mg base (CXx P w) 1 fAB fdA ["word"] spAB) (bA : Binds K fdA ["word"] []) (kA : PySem.W.keepIn K (.ref fAB) = true)
    (GM : FnOk P w K mg base (CXx P w) 1 fMW fdM ["manner"] spMW) (bM : Binds K fdM ["manner"] []) (kM : PySem.W.keepIn K (.ref fMW) = true)
    (GF : FnOk P w K mg base (CXx P w) 3 fFw fdF ["fill"] (spFw CF)) (bF : Binds K fdF ["fill"] []) (kF : PySem.W.keepIn K (.ref fFw) = true) :
    FnOk P w K mg base (CXx P w) 4 fGW fd ["group"] (spGW CF CO CG) := by
  refine F.okX scGW (fun vs H Q E h => ?_) (fun cdv A outer s H vs Q E hr h => ?_)
  · obtain ⟨z, b, c, n, m, s, f, rfl, _⟩ := h
    rfl
  · obtain ⟨z, b, c, n, m, s', f, rfl, ⟨dz, v, hz, hv⟩, hok, k⟩ := h
    obtain ⟨o1, o2, o3, o4, o5, o6, o7⟩ := hok
    obtain ⟨e1, e2, e3, e4, e5⟩ := g_look c n m s' v
    have hr1 : Room 1 _ := hr.mono (by decide)
    refine ⟨_, pss_cons (ps_set (i := 1) scGW.nd rfl (Or.inl rfl) (pe_ix ix_list (pe_call GC hr1 rfl V8.gCW kC bC .nil passN (pa_cons (pe_fld (pv 0) rfl) pa_nil)) (pe_fld (pv 0) rfl) (fun _ _ => rfl)))
      (pss_cons (ps_set (i := 2) scGW.nd rfl (Or.inl rfl) (pe_call GS hr1 rfl V8.gSd kS bS .nil passN (pa_cons (pe_lst (pa_cons (pe_ix ix_tup (pe_glob (v := .ref aZ) rfl V8.mZ rfl) (pe_fld (pv 0) rfl) (fun _ _ => rfl)) (pa_cons (pv 1) pa_nil))) pa_nil)))
      (pss_cons (ps_if (pt_cmpR op_eq (pe_fld (pv 0) rfl) pe_int (nomark _)) (pss_one (ps_set (i := 3) scGW.nd rfl (Or.inl rfl) (pe_call GA hr1 rfl V8.gAB kA bA .nil passN (pa_cons (pe_ix ix_list (pv 2) pe_int (fun _ _ => rfl)) pa_nil))))
        (pss_one (ps_set (i := 3) scGW.nd rfl (Or.inl rfl) (pe_ix ix_tup (pe_glob (v := .ref aN) rfl V8.mN rfl) (pe_fld (pv 0) rfl) (fun _ _ => rfl)))))
      (pss_one (ps_ret (pe_op op_cat (pe_op op_cat (pe_op op_cat (pe_lst (pa_cons (pv 3) pa_nil)) (pv 2)) (pe_call GM hr1 rfl V8.gMW kM bM .nil passN (pa_cons (pe_fld (pv 0) rfl) pa_nil)))
        (pe_call GF hr rfl V8.gFw kF bF .nil passN (pa_cons (pe_fld (pv 0) rfl) pa_nil))))))), ?_⟩
    have clen : c < (cwS n).length := by
      unfold cwS
      split
      · show c < 16; omega
      · rw [List.length_map]; show c < 16; omega
    refine ⟨_, rfl, z, CG, dz, _, _, rfl, hz, U.G.cl, U.G.no _ (by decide +kernel), e2, n, rfl, fun H1 l1 s1 hl1 q1 => ?_⟩
    refine ⟨_, rfl, z, CG, dz, _, _, rfl, s1 _ _ hz, U.G.cl, U.G.no _ (by decide +kernel), e1, l1, _, _, _, rfl, rfl, SqL.of q1, tab_at V.str (cwS n) c "" clen, ?_⟩
    refine ⟨_, rfl, z, CG, dz, _, _, rfl, s1 _ _ hz, U.G.cl, U.G.no _ (by decide +kernel), e4, aZ, _, _, _, rfl, rfl, V8.sZ _, tab_at vo tbZ s' none (by show s' < 5; omega), ?_⟩
    refine ⟨_, rfl, (by show 2 ≤ sizeLine; rw [sizeLine_eq]; omega), fun l2 hl2 => ?_⟩
    refine ⟨l2, [tbZ.getD s' none, some ((cwS n).getD c "")], rfl, upd_same, by show 2 ≤ 100; decide, fun H3 l3 s3 hl3 q3 => ?_⟩
    have s03 : Same H H3 := (s1.trans (same_new hl2)).trans s3
    have q3' : H3 l3 = some (.lst ((chS s' n c).map V.str)) := q3.trans (by unfold chS; cases tbZ.getD s' none <;> rfl)
    have bch := bd_ch (n := n) o6 o1
    have bfl := bd_fill o7
    have bmn : Bd (manS m) ≤ 40 := n_man m (by omega)
    unfold Bd at bch bfl bmn
    have fin : ∀ (H4 : Hp) (s34 : Same H3 H4) (σ : L2.St), σ = [some (.ref z), some (.str ((cwS n).getD c "")), some (.ref l3), some (.str (hmS s' n c))] →
        tRet (tOp rCat (tOp rCat (tOp rCat (tLst (tCons (tVar 3) tNil)) (tVar 2)) (tCall spMW [] E0 (tCons (tFld K (tVar 0) "manner") tNil))) (tCall (spFw CF) [] E0 (tCons (tFld K (tVar 0) "fill") tNil))) { nx := fun _ H' => Q .non H', rt := Q } σ H4 := by
      rintro H4 s34 σ rfl
      have s04 := s03.trans s34
      refine ⟨_, rfl, (by show 1 ≤ sizeLine; rw [sizeLine_eq]; omega), fun l5 hl5 => ?_⟩
      refine ⟨_, rfl, l5, l3, _, _, rfl, rfl, upd_same, (same_new hl5) _ _ (s34 _ _ q3'), ?_, fun l6 hl6 => ?_⟩
      · simp only [List.length_map, List.length_cons, List.length_nil]
        rw [sizeLine_eq]; omega
      have s46 : Same H4 (upd (upd H4 l5 (.lst [V.str (hmS s' n c)])) l6 (.lst ([V.str (hmS s' n c)] ++ (chS s' n c).map V.str))) := (same_new hl5).trans (same_new hl6)
      have s06 := s04.trans s46
      refine ⟨_, rfl, z, CG, dz, _, _, rfl, s06 _ _ hz, U.G.cl, U.G.no _ (by decide +kernel), e3, m, rfl, o4, fun H7 l7 s7 hl7 q7 => ?_⟩
      refine ⟨l6, l7, _, _, rfl, rfl, s7 _ _ upd_same, q7, ?_, fun l8 hl8 => ?_⟩
      · simp only [List.length_map, List.length_cons, List.length_nil, List.length_append]
        rw [sizeLine_eq]; omega
      have s08 := s06.trans (s7.trans (same_new hl8 (o := .lst ([V.str (hmS s' n c)] ++ (chS s' n c).map V.str ++ (manS m).map V.str))))
      refine ⟨_, rfl, z, CG, dz, _, _, rfl, s08 _ _ hz, U.G.cl, U.G.no _ (by decide +kernel), e5, v, b, f, rfl, hv.sm s08, o7, fun H9 l9 s9 hl9 q9 => ?_⟩
      refine ⟨l8, l9, _, _, rfl, rfl, s9 _ _ upd_same, q9, ?_, fun l10 hl10 => ?_⟩
      · simp only [List.length_map, List.length_cons, List.length_nil, List.length_append]
        rw [sizeLine_eq]; omega
      have s09 := s08.trans s9
      refine k _ l10 (s09.trans (same_new hl10)) (s09.free hl10) ?_
      rw [upd_same]
      show some (HO.lst ([V.str (hmS s' n c)] ++ (chS s' n c).map V.str ++ (manS m).map V.str ++ (flS f).map V.str)) = some (.lst ((hmS s' n c :: (chS s' n c ++ (manS m ++ flS f))).map V.str))
      simp only [List.map_cons, List.map_append, List.append_assoc, List.cons_append, List.nil_append]
    refine ⟨_, rfl, z, CG, dz, _, _, rfl, s03 _ _ hz, U.G.cl, U.G.no _ (by decide +kernel), e2, rfl, _, rfl, ?_⟩
    have hne : chS s' n c ≠ [] := by unfold chS; simp
    by_cases q : n = 1
    · refine iteP (decide_eq_true (by rw [q]; rfl)) ?_
      obtain ⟨w0, r0, h0⟩ : ∃ w0 r0, chS s' n c = w0 :: r0 := by
        cases e : chS s' n c with
        | nil => exact (hne e).elim
        | cons a r => exact ⟨a, r, rfl⟩
      have q3'' := q3'
      rw [h0] at q3''
      have hw0 : w0.length ≤ 60 := by
        rw [h0] at bch
        simp only [List.map_cons, List.sum_cons, List.length_cons] at bch
        omega
      have hw1 : tl w0 ≠ [] := by
        have hc := says_ch (n := n) o5 o6 o1
        rw [h0, List.map_cons] at hc
        intro z0
        rw [z0, q] at hc
        have dd : ∀ s0, s0 < 5 → ∀ c0, c0 < 16 → s0 = 0 ∨ ((ShBlazon.sizeWords s0 ++ [ShBlazon.CHARGEWORDS.getD c0 []]).map nb).headD [1] ≠ [] := by decide +kernel
        have y := (dd s' (by omega) c (by omega)).resolve_left (by omega)
        rw [if_pos rfl] at hc
        rw [← hc] at y
        exact y rfl
      refine ⟨_, rfl, l3, _, _, _, rfl, rfl, SqL.of q3'', at_of (j := 0) (v := V.str w0) rfl rfl, w0, rfl, by omega, hw1, ?_⟩
      have eh : hmS s' n c = artS w0 := by unfold hmS; rw [if_pos q, h0]; rfl
      exact fin H3 (Same.refl _) _ (by rw [eh]; rfl)
    · refine iteN (by intro y; have := of_decide_eq_true y; injection this with e; omega) ?_
      refine ⟨_, rfl, z, CG, dz, _, _, rfl, s03 _ _ hz, U.G.cl, U.G.no _ (by decide +kernel), e2, aN, _, _, _, rfl, rfl, V8.sN _, tab_at vo tbN n none (by show n < 11; omega), ?_⟩
      have eh : vo (tbN.getD n none) = .str (hmS s' n c) := by
        unfold hmS
        rw [if_neg q]
        have dd : ∀ n0, n0 < 11 → ¬ n0 < 2 → ∃ u, tbN.getD n0 none = some u := fun n0 a1 a2 => by
          match n0, a1, a2 with
          | 0, _, a2 => omega
          | 1, _, a2 => omega
          | 2, _, _ => exact ⟨_, rfl⟩
          | 3, _, _ => exact ⟨_, rfl⟩
          | 4, _, _ => exact ⟨_, rfl⟩
          | 5, _, _ => exact ⟨_, rfl⟩
          | 6, _, _ => exact ⟨_, rfl⟩
          | 7, _, _ => exact ⟨_, rfl⟩
          | 8, _, _ => exact ⟨_, rfl⟩
          | 9, _, _ => exact ⟨_, rfl⟩
          | 10, _, _ => exact ⟨_, rfl⟩
          | k + 11, a1, _ => omega
        obtain ⟨u, hu⟩ := dd n (by omega) (by omega)
        rw [hu]; rfl
      rw [eh]
      exact fin H3 (Same.refl _) _ rfl
end
section
variable {P : Program} {w : World} {K : PySem.W.Frag} {mg : Str → Option Value} {base : Heap} {CE NE fE CR fR fTk fTr fTo fTe CF CO CG CA fF fO fG fA fRP fRT fLV fRV fRF fFL fOL fGL fRL fRA : Addr}
  {aT aL aP aW aV aO aC aN aZ aM fAB fCW fSd fT2 fPW fFW fFw fOW fMW fGW fLW fAZ fBB fWL : Addr}
theorem scLW : FnScope ["layer"] ["layer"] (defScope sLW) := ⟨rfl, rfl, rfl, by decide +kernel, rfl, by decide +kernel, by decide +kernel⟩
theorem ok_lw {fdO fdG fd : FuncData} (F : Fun K "layer_words" "layer_words" sLW fLW fd) (U : TA1 K mg CR CF CO CG CA fF fO fG fA fRP fRT fLV fRV fRF fFL fOL fGL fRL fRA) (V8 : TP8 K mg CO CG aT aL aP aW aV aO aC aN aZ aM fAB fCW fSd fT2 fPW fFW fFw fOW fMW fGW fLW fAZ fBB fWL)
    (GO : FnOk P w K mg base (CXx P w) 4 fOW fdO ["layer"] (spOW CF CO CG)) (bO : Binds K fdO ["layer"] []) (kO : PySem.W.keepIn K (.ref fOW) = true) (GG : FnOk P w K mg base (CXx P w) 4 fGW fdG ["group"] (spGW CF CO CG)) (bG : Binds K fdG ["group"] []) (kG : PySem.W.keepIn K (.ref fGW) = true) :
    FnOk P w K mg base (CXx P w) 5 fLW fd ["layer"] (spLW CF CO CG) := by
  refine F.okX scLW (fun vs H Q E h => ?_) (fun cdv A outer s H vs Q E hr h => ?_)
  · obtain ⟨z, b, l, rfl, _⟩ := h
    rfl
  · obtain ⟨z, b, l, rfl, hL, hok, k⟩ := h
    refine ⟨_, pss_cons (ps_if (pt_val (pe_callB call_isinst (by rfl) V8.zIs (by decide +kernel) (pa_cons (pv 0) (pa_cons (pe_glob (v := .ref CO) rfl U.O.at_ rfl) pa_nil)))) (pss_one (ps_ret (pe_call GO hr rfl V8.gOW kO bO .nil passN (pa_cons (pv 0) pa_nil)))) pss_nil)
      (pss_one (ps_ret (pe_call GG hr rfl V8.gGW kG bG .nil passN (pa_cons (pv 0) pa_nil)))), ?_⟩
    cases l with
    | ord o l f =>
      obtain ⟨dz, v, hz, hv⟩ := id hL
      refine ⟨_, rfl, _, CO, _, true, rfl, V8.isO _ z dz _ hz, V8.kO, true, rfl, ?_⟩
      refine iteP rfl ?_
      exact ⟨_, rfl, z, b, o, l, f, rfl, hL, hok, k⟩
    | group c n m s f =>
      obtain ⟨dz, v, hz, hv⟩ := id hL
      refine ⟨_, rfl, _, CO, _, false, rfl, V8.isG _ z dz _ hz, V8.kG, false, rfl, ?_⟩
      refine iteN Bool.false_ne_true ?_
      exact ⟨_, rfl, z, b, c, n, m, s, f, rfl, hL, hok, k⟩
theorem a_look (f l : V) : (afv f l).lookup ("field" : Str) = some f ∧ (afv f l).lookup ("layers" : Str) = some l := ⟨by kernel_rfl, by kernel_rfl⟩
theorem paired_get {α β : Type} {G : α → β → Prop} : ∀ {l : List α} {m : List β} {i : Nat} {a : α}, Paired G l m → l[i]? = some a → ∃ b, m[i]? = some b ∧ G a b
  | _, _, _, _, .nil, e => by simp at e
  | _, _, 0, _, .cons r _, e => by
    have e' := Option.some.inj e
    subst e'
    exact ⟨_, rfl, r⟩
  | _, _, i + 1, a, .cons _ t, e => by
    obtain ⟨b, h1, h2⟩ := paired_get (i := i) (a := a) t (by simpa using e)
    exact ⟨b, by simpa using h1, h2⟩
theorem scAZ : FnScope ["arms", "parts", "layer"] ["arms"] (defScope sAZ) := ⟨rfl, rfl, rfl, by decide +kernel, rfl, by decide +kernel, by decide +kernel⟩
theorem ok_az {fdF fdL fd : FuncData} (F : Fun K "arms_blazon" "arms_blazon" sAZ fAZ fd) (U : TA1 K mg CR CF CO CG CA fF fO fG fA fRP fRT fLV fRV fRF fFL fOL fGL fRL fRA) (V8 : TP8 K mg CO CG aT aL aP aW aV aO aC aN aZ aM fAB fCW fSd fT2 fPW fFW fFw fOW fMW fGW fLW fAZ fBB fWL)
    (GF : FnOk P w K mg base (CXx P w) 2 fFW fdF ["field"] (spFW CF)) (bF : Binds K fdF ["field"] []) (kF : PySem.W.keepIn K (.ref fFW) = true) (GL : FnOk P w K mg base (CXx P w) 5 fLW fdL ["layer"] (spLW CF CO CG)) (bL : Binds K fdL ["layer"] []) (kL : PySem.W.keepIn K (.ref fLW) = true) :
    FnOk P w K mg base (CXx P w) 6 fAZ fd ["arms"] (spAZ CF CO CG CA) := by
  refine F.okX scAZ (fun vs H Q E h => ?_) (fun cdv A outer s H vs Q E hr h => ?_)
  · obtain ⟨z, x, rfl, _⟩ := h
    rfl
  · obtain ⟨z, x, rfl, ⟨dz, zf, zl, zs, hz, hF, hl, hLs⟩, ⟨ok1, ok0, ok2⟩, k⟩ := h
    obtain ⟨e1, e2⟩ := a_look (.ref zf) (.ref zl)
    have hr2 : Room 2 _ := hr.mono (by decide)
    refine ⟨_, pss_cons (ps_set (i := 1) scAZ.nd rfl (Or.inl rfl) (pe_lst (pa_cons (pe_join pe_str (pe_call GF hr2 rfl V8.gFW kF bF .nil passN (pa_cons (pe_fld (pv 0) rfl) pa_nil))) pa_nil)))
      (pss_cons (ps_for PassesOwn.leaving rfl (pi_list (pe_fld (pv 0) rfl)) (pg_name (i := 2) scAZ.nd rfl (Or.inl rfl))
        (pss_one (ps_expr (pe_bm PySem.F.plainAttrs_list PySem.F.slot_list_append PySem.F.type_list_append mt_append (pv 1) (pa_cons (pe_join pe_str (pe_call GL hr rfl V8.gLW kL bL .nil passN (pa_cons (pv 2) pa_nil))) pa_nil)))))
      (pss_one (ps_ret (pe_join pe_str (pv 1))))), ?_⟩
    refine ⟨⟨_, rfl⟩, _, rfl, z, CA, dz, _, _, rfl, hz, U.A.cl, U.A.no _ (by decide +kernel), e1, zf, x.field, rfl, hF, ok1, fun H1 l1 s1 hl1 q1 => ?_⟩
    have j1 := (len_sp (n := 400) (Nat.le_trans (bd_field ok1) (by decide))).resolve_right (by omega)
    refine ⟨_, l1, fwS x.field, rfl, rfl, .inl (SqL.of q1), j1.2, ?_⟩
    refine ⟨(by show 1 ≤ sizeLine; rw [sizeLine_eq]; omega), fun lp hlp => ?_⟩
    have s2 : Same H (upd H1 lp (.lst [V.str (Txt.join " " (fwS x.field))])) := s1.trans (same_new hlp)
    have hlpH : H lp = none := s1.free hlp
    have llen := paired_len hLs
    refine ⟨_, rfl, z, CA, dz, _, _, rfl, s2 _ _ hz, U.A.cl, U.A.no _ (by decide +kernel), e2, zl, rfl, ⟨_, SqL.of (s2 _ _ hl)⟩, for_list (K := K) (a := zl) (xs := zs.map V.ref) (fun i σ H' => ∃ yv : Option V, σ = [some (.ref z), some (.ref lp), yv] ∧ Same H H' ∧
      H' lp = some (.lst ((Txt.join " " (fwS x.field) :: (x.layers.take i).map fun l => Txt.join " " (lwS l)).map V.str))) ⟨none, rfl, s2, upd_same⟩ (fun i σ H' _ ⟨_, _, s3, _⟩ => SqL.of (s3 _ _ hl)) ?_ ?_⟩
    · rintro i y σ H' hi ⟨yv, rfl, s3, hp⟩
      obtain ⟨u, hu, rfl⟩ : ∃ u, zs[i]? = some u ∧ y = V.ref u := by
        rw [List.getElem?_map] at hi
        cases e : zs[i]? with
        | none => rw [e] at hi; cases hi
        | some u => rw [e] at hi; exact ⟨u, rfl, (Option.some.inj hi).symm⟩
      obtain ⟨l, hl', hLa⟩ := paired_get hLs hu
      have okl := ok2 l (List.mem_of_getElem? hl')
      refine ⟨_, rfl, .inl ⟨rfl, _, SqL.of hp⟩, ⟨_, rfl⟩, _, rfl, u, x.field, l, rfl, hLa.sm s3, okl, fun H4 l4 s4 hl4 q4 => ?_⟩
      have j2 := (len_sp (n := 400) (bd_layer okl)).resolve_right (by omega)
      refine ⟨_, l4, lwS l, rfl, rfl, .inl (SqL.of q4), j2.2, ?_⟩
      refine ⟨lp, _, _, rfl, rfl, s4 _ _ hp, ?_, ?_⟩
      · simp only [List.length_map, List.length_cons, List.length_take]
        rw [sizeLine_eq]; omega
      · refine ⟨_, rfl, same_over (s3.trans s4) hlpH, ?_⟩
        rw [upd_same, take_succ hl', List.map_append]
        simp only [List.map_cons, List.map_append, List.cons_append]
        rfl
    · rintro σ H' ⟨yv, rfl, s3, hp⟩
      rw [List.length_map, llen, List.take_length] at hp
      refine ⟨⟨_, rfl⟩, _, rfl, _, lp, partsS x, rfl, rfl, .inl (SqL.of hp), Nat.le_trans (parts_sum ok1 ok0 ok2) (by decide), ?_⟩
      exact k H' s3
theorem scBB : FnScope ["arms", "sign"] ["arms"] (defScope sBB) := ⟨rfl, rfl, rfl, by decide +kernel, rfl, by decide +kernel, by decide +kernel⟩
theorem ok_bb {fdZ fd : FuncData} (F : Fun K "blazon_bytes" "blazon_bytes" sBB fBB fd) (V8 : TP8 K mg CO CG aT aL aP aW aV aO aC aN aZ aM fAB fCW fSd fT2 fPW fFW fFw fOW fMW fGW fLW fAZ fBB fWL)
    (GZ : FnOk P w K mg base (CXx P w) 6 fAZ fdZ ["arms"] (spAZ CF CO CG CA)) (bZ : Binds K fdZ ["arms"] []) (kZ : PySem.W.keepIn K (.ref fAZ) = true) : FnOk P w K mg base (CXx P w) 7 fBB fd ["arms"] (spBB CF CO CG CA) := by
  refine F.okX scBB (fun vs H Q E h => ?_) (fun cdv A outer s H vs Q E hr h => ?_)
  · obtain ⟨z, x, rfl, _⟩ := h
    rfl
  · obtain ⟨z, x, rfl, hA, hok, k⟩ := h
    refine ⟨_, pss_one (ps_ret (pe_lc (own := [("sign", 1)]) rfl scBB.nd (pi_str (pe_call GZ hr rfl V8.gAZ kZ bZ .nil passN (pa_cons (pv 0) pa_nil))) (blkOk_by (by kernel_rfl)) (fun _ _ _ _ _ => pg_name (i := 1) scBB.nd rfl (Or.inl rfl)) (fun _ _ _ _ _ => pts_nil)
      (fun _ _ _ _ _ => pe_callB call_ord rfl V8.zOrd (by decide +kernel) (pa_cons (pv 1) pa_nil)))), ?_⟩
    refine ⟨_, rfl, z, x, rfl, hA, hok, fun H1 s1 => ?_⟩
    refine ⟨_, rfl, fun D hD => lc_str (x := textS x) (fun i H' => H' D = some (.lst (((tl (textS x)).take i).map vn)) ∧ Same H H') ⟨upd_same, s1.trans (same_new hD)⟩ ?_ ?_⟩
    · rintro i c H' hc ⟨hD', sm⟩
      have hc' : (tl (textS x))[i]? = some c := by rw [Array.getElem?_toList]; exact hc
      refine ⟨rfl, ?_⟩
      unfold tYes
      refine iteP rfl ⟨_, rfl, _, rfl, rfl, _, hD', ?_, ?_, same_over sm (s1.free hD)⟩
      · rw [List.length_map, List.length_take]
        have := text_len hok.1 hok.2.1 hok.2.2
        rw [len_tl] at this
        rw [sizeLine_eq]; omega
      · rw [upd_same, take_succ hc', List.map_append]; rfl
    · rintro H' ⟨hD', sm⟩
      rw [show (textS x).cps.size = (tl (textS x)).length by simp, List.take_length] at hD'
      exact k H' D sm (s1.free hD) hD'
theorem scWL : FnScope ["data"] ["data"] (defScope sWL) := ⟨rfl, rfl, rfl, by decide +kernel, rfl, by decide +kernel, by decide +kernel⟩
theorem ok_wl {fd : FuncData} (F : Fun K "with_length" "with_length" sWL fWL fd) (T : TR K mg CE NE fE CR fR fTk fTr fTo fTe) : FnOk P w K mg base (CXx P w) 1 fWL fd ["data"] spWL := by
  refine F.okX scWL (fun vs H Q E h => ?_) (fun cdv A outer s H vs Q E hr h => ?_)
  · obtain ⟨l, xs, rfl, _⟩ := h
    rfl
  · obtain ⟨l, xs, rfl, hl, hn, k⟩ := h
    refine ⟨_, pss_one (ps_ret (pe_op op_cat (pe_lst (pa_cons (pe_callB call_len_seq (by rfl) T.len PySem.boot_len (pa_cons (pv 0) pa_nil)) pa_nil)) (pv 0))), ?_⟩
    refine ⟨_, rfl, l, _, rfl, .inl (SqL.of hl), (by show 1 ≤ sizeLine; rw [sizeLine_eq]; omega), fun l1 hl1 => ?_⟩
    refine ⟨_, rfl, l1, l, _, _, rfl, rfl, upd_same, same_new hl1 _ _ hl, ?_, fun p hp => ?_⟩
    · rw [List.length_cons, List.length_nil, sizeLine_eq]; omega
    · exact k _ p ((same_new hl1).trans (same_new hp)) upd_same
noncomputable def tryH (s : List Stmt) : List Stmt := match s with
  | .Try _ [.ExceptHandler _ _ b _] _ _ _ :: _ => b
  | _ => []
noncomputable def tH (K : PySem.W.Frag) (i : Nat) (z : Int) : TS := tRet (tLst (tCons (tC (.int z)) (tCons (tXGet K (tVar i) "place") tNil)))
noncomputable def spPr (K : PySem.W.Frag) : Sp := fun vs H Q _ => ∃ (a : Addr) (ns : List Int), vs = [.ref a] ∧ Byts ns ∧ SqF K H a (ns.map V.int) ∧ ∀ (H' : Hp) (p : Addr), H' p = some (.lst ((PyWqbabn.print_of ns).map V.int)) → Q (.ref p) H'
theorem scPr : FnScope ["a", "arms", "fault"] ["a"] (defScope sPr) := ⟨rfl, rfl, rfl, by decide +kernel, rfl, by decide +kernel, by decide +kernel⟩
theorem ok_pr {f : Addr} {fdD fdB fdW fd : FuncData} (F : Fun K "print_of" "print_of" sPr f fd) (T : TR K mg CE NE fE CR fR fTk fTr fTo fTe) (U : TA1 K mg CR CF CO CG CA fF fO fG fA fRP fRT fLV fRV fRF fFL fOL fGL fRL fRA) (V8 : TP8 K mg CO CG aT aL aP aW aV aO aC aN aZ aM fAB fCW fSd fT2 fPW fFW fFw fOW fMW fGW fLW fAZ fBB fWL)
    (hN : ∃ t, mg "NOT_WELL_MADE" = some (.int (-1) t))
    (GD : FnOk P w K mg base (CXx P w) 11 fRA fdD ["data"] (spRA K CE CR CF CO CG CA)) (bD : Binds K fdD ["data"] []) (kD : PySem.W.keepIn K (.ref fRA) = true)
    (GB : FnOk P w K mg base (CXx P w) 7 fBB fdB ["arms"] (spBB CF CO CG CA)) (bB : Binds K fdB ["arms"] []) (kB : PySem.W.keepIn K (.ref fBB) = true)
    (GW : FnOk P w K mg base (CXx P w) 1 fWL fdW ["data"] spWL) (bW : Binds K fdW ["data"] []) (kW : PySem.W.keepIn K (.ref fWL) = true) : FnOk P w K mg base (CXx P w) 12 f fd ["a"] (spPr K) := by
  refine F.okX scPr (fun vs H Q E h => ?_) (fun cdv A outer s H vs Q E hr h => ?_)
  · obtain ⟨a, ns, rfl, _⟩ := h
    rfl
  · obtain ⟨a, ns, rfl, hb, hS, k⟩ := h
    obtain ⟨tN, hN⟩ := hN
    have hr7 : Room 7 _ := hr.mono (by decide)
    have hr1 : Room 1 _ := hr.mono (by decide)
    have hS1 : ∀ x, PSs ((cxOf (CXx P w) P w K mg base ["a", "arms", "fault"] "print_of" (defScope sPr) f cdv A outer s H E).hand x) (tryH (defBody sPr)) (tH K 2 (-1)) := fun x =>
      pss_one (ps_ret (pe_lst (pa_cons (pe_glob (v := .int (-1)) rfl hN ⟨tN, rfl⟩) (pa_cons (pe_xget (pv 2) ty_place rfl) pa_nil))))
    refine ⟨_, pss_cons (ps_try (i := 2) (n := "fault") T.xc rfl rfl rfl T.mgE scPr.nd rfl rfl hS1
        (fun pins D fl => pss_one (ps_set (i := 1) scPr.nd rfl (Or.inl rfl) (pe_call GD hr rfl U.mRA kD bD .nil (passX rfl fl) (pa_cons (pv 0) pa_nil)))))
      (pss_one (ps_ret (pe_call GW hr1 rfl V8.gWL kW bW .nil passN (pa_cons (pe_call GB hr7 rfl V8.gBB kB bB .nil passN (pa_cons (pv 1) pa_nil)) pa_nil)))), ?_⟩
    rw [print_eq hb] at k
    refine ⟨_, rfl, a, ns, rfl, hb, hS, ?_⟩
    cases e : readArms (byt ns) with
    | error p =>
      rw [e] at k
      intro d H' hd
      refine ⟨rfl, d, rfl, fun x hx => ?_⟩
      refine ⟨_, rfl, x, CE, NE, fE, d, _, _, rfl, hx, T.xc, T.nx, hd, look1 _ _, (by show 2 ≤ sizeLine; rw [sizeLine_eq]; omega), fun l hl => ?_⟩
      exact k _ l upd_same
    | ok x =>
      rw [e] at k
      have ok := arms_ok e
      have tx := text_ok ok.1 ok.2.2
      intro H1 z s1 hz hA
      refine ⟨_, rfl, z, x, rfl, hA, ok, fun H2 l s2 hl q2 => ?_⟩
      have tlen := text_len ok.1 ok.2.1 ok.2.2
      rw [len_tl] at tlen
      refine ⟨l, _, rfl, q2, by rw [List.length_map]; omega, fun H3 l3 s3 q3 => ?_⟩
      refine k H3 l3 ?_
      rw [q3, List.length_map, tx]
      simp only [List.map_cons, List.map_map, List.length_map]
      rfl
end
theorem sqt_gen {K : PySem.W.Frag} {a : Addr} {od : Option Addr} {us : List Value} {n : Nat} {sl : Array (Option Value)} {vs : List V} (l : K.lookup a = some ⟨.type "tuple", od, .seq us.toArray n, sl⟩) (r : Vals vs us) (hz : us.length ≤ 100) : ∀ H, SqT K H a vs := fun H =>
  .inr ⟨_, us.toArray, _, l, rfl, rfl, (by rw [List.size_toArray, sizeLine_eq]; omega), by simpa using r⟩
theorem ar1 {us : List Value} (h : us.length = 1) : ∃ a0, us = [a0] := match us, h with | [a0], _ => ⟨a0, rfl⟩
theorem ar2 {us : List Value} (h : us.length = 2) : ∃ a0 a1, us = [a0, a1] := match us, h with | [a0, a1], _ => ⟨a0, a1, rfl⟩
theorem ar3 {us : List Value} (h : us.length = 3) : ∃ a0 a1 a2, us = [a0, a1, a2] := match us, h with | [a0, a1, a2], _ => ⟨a0, a1, a2, rfl⟩
theorem ar4 {us : List Value} (h : us.length = 4) : ∃ a0 a1 a2 a3, us = [a0, a1, a2, a3] := match us, h with | [a0, a1, a2, a3], _ => ⟨a0, a1, a2, a3, rfl⟩
theorem ar5 {us : List Value} (h : us.length = 5) : ∃ a0 a1 a2 a3 a4, us = [a0, a1, a2, a3, a4] := match us, h with | [a0, a1, a2, a3, a4], _ => ⟨a0, a1, a2, a3, a4, rfl⟩
theorem ar6 {us : List Value} (h : us.length = 6) : ∃ a0 a1 a2 a3 a4 a5, us = [a0, a1, a2, a3, a4, a5] := match us, h with | [a0, a1, a2, a3, a4, a5], _ => ⟨a0, a1, a2, a3, a4, a5, rfl⟩
theorem ar7 {us : List Value} (h : us.length = 7) : ∃ a0 a1 a2 a3 a4 a5 a6, us = [a0, a1, a2, a3, a4, a5, a6] := match us, h with | [a0, a1, a2, a3, a4, a5, a6], _ => ⟨a0, a1, a2, a3, a4, a5, a6, rfl⟩
theorem ar8 {us : List Value} (h : us.length = 8) : ∃ a0 a1 a2 a3 a4 a5 a6 a7, us = [a0, a1, a2, a3, a4, a5, a6, a7] := match us, h with | [a0, a1, a2, a3, a4, a5, a6, a7], _ => ⟨a0, a1, a2, a3, a4, a5, a6, a7, rfl⟩
theorem ar9 {us : List Value} (h : us.length = 9) : ∃ a0 a1 a2 a3 a4 a5 a6 a7 a8, us = [a0, a1, a2, a3, a4, a5, a6, a7, a8] := match us, h with | [a0, a1, a2, a3, a4, a5, a6, a7, a8], _ => ⟨a0, a1, a2, a3, a4, a5, a6, a7, a8, rfl⟩
theorem all_mk {P : Program} {w : World} {K : PySem.W.Frag} {h : Heap} {mg : Str → Option Value} {fa CA CE CF CG CO CR NE aC aL aM aN aO aP aT aV aW aZ fA fAB fAZ fBB fCW fE fF fFL fFW fFw fG fGL fGW fLV fLW fMW fO fOL fOW fPW fPr fR fRA fRF fRL fRP fRT fRV fSd fT2 fTe fTk fTo fTr fWL : Addr} (X : K.In h) (G : h.Ns mainGlobals mg) (hfa : mg "print_of" = some (.ref fa))
    {CEnm CEqn : Str} {CEbs CEsub : List Value} {CEsn : List Str} {CEab : Bool} {CEcol : Option Bool} {CEdd : Option Addr} {CEk0 CEk1 CEk2 CEk3 CEk5 : Option Value} {NEoc : Value} {NEod : Option Addr} {NEes : Array DictEntry} {NEen : Nat} {NEsl : Array (Option Value)} {fEod fEan : Option Addr} {fEsl : Array (Option Value)} {fEoc fEkV fEdc fEpm fEcd fEct : Value} {fRod fRan : Option Addr} {fRsl : Array (Option Value)} {fRoc fRkV fRdc fRpm fRcd fRct : Value} {fTkod fTkan : Option Addr} {fTksl : Array (Option Value)} {fTkoc fTkkV fTkdc fTkpm fTkcd fTkct : Value} {fTrod fTran : Option Addr} {fTrsl : Array (Option Value)} {fTroc fTrkV fTrdc fTrpm fTrcd fTrct : Value} {fTood fToan : Option Addr} {fTosl : Array (Option Value)} {fTooc fTokV fTodc fTopm fTocd fToct : Value} {fTeod fTean : Option Addr} {fTesl : Array (Option Value)} {fTeoc fTekV fTedc fTepm fTecd fTect : Value} {fFod fFan : Option Addr} {fFsl : Array (Option Value)} {fFoc fFkV fFdc fFpm fFcd fFct : Value} {fOod fOan : Option Addr} {fOsl : Array (Option Value)} {fOoc fOkV fOdc fOpm fOcd fOct : Value} {fGod fGan : Option Addr} {fGsl : Array (Option Value)} {fGoc fGkV fGdc fGpm fGcd fGct : Value} {fAod fAan : Option Addr} {fAsl : Array (Option Value)} {fAoc fAkV fAdc fApm fAcd fAct : Value} {fRPod fRPan : Option Addr} {fRPsl : Array (Option Value)} {fRPoc fRPkV fRPdc fRPpm fRPcd fRPct : Value} {fRTod fRTan : Option Addr} {fRTsl : Array (Option Value)} {fRToc fRTkV fRTdc fRTpm fRTcd fRTct : Value} {fLVod fLVan : Option Addr} {fLVsl : Array (Option Value)} {fLVoc fLVkV fLVdc fLVpm fLVcd fLVct : Value} {fRVod fRVan : Option Addr} {fRVsl : Array (Option Value)} {fRVoc fRVkV fRVdc fRVpm fRVcd fRVct : Value} {fRFod fRFan : Option Addr} {fRFsl : Array (Option Value)} {fRFoc fRFkV fRFdc fRFpm fRFcd fRFct : Value} {fFLod fFLan : Option Addr} {fFLsl : Array (Option Value)} {fFLoc fFLkV fFLdc fFLpm fFLcd fFLct : Value} {fOLod fOLan : Option Addr} {fOLsl : Array (Option Value)} {fOLoc fOLkV fOLdc fOLpm fOLcd fOLct : Value} {fGLod fGLan : Option Addr} {fGLsl : Array (Option Value)} {fGLoc fGLkV fGLdc fGLpm fGLcd fGLct : Value} {fRLod fRLan : Option Addr} {fRLsl : Array (Option Value)} {fRLoc fRLkV fRLdc fRLpm fRLcd fRLct : Value} {fRAod fRAan : Option Addr} {fRAsl : Array (Option Value)} {fRAoc fRAkV fRAdc fRApm fRAcd fRAct : Value} {fABod fABan : Option Addr} {fABsl : Array (Option Value)} {fABoc fABkV fABdc fABpm fABcd fABct : Value} {fCWod fCWan : Option Addr} {fCWsl : Array (Option Value)} {fCWoc fCWkV fCWdc fCWpm fCWcd fCWct : Value} {fSdod fSdan : Option Addr} {fSdsl : Array (Option Value)} {fSdoc fSdkV fSddc fSdpm fSdcd fSdct : Value} {fT2od fT2an : Option Addr} {fT2sl : Array (Option Value)} {fT2oc fT2kV fT2dc fT2pm fT2cd fT2ct : Value} {fPWod fPWan : Option Addr} {fPWsl : Array (Option Value)} {fPWoc fPWkV fPWdc fPWpm fPWcd fPWct : Value} {fFWod fFWan : Option Addr} {fFWsl : Array (Option Value)} {fFWoc fFWkV fFWdc fFWpm fFWcd fFWct : Value} {fFwod fFwan : Option Addr} {fFwsl : Array (Option Value)} {fFwoc fFwkV fFwdc fFwpm fFwcd fFwct : Value} {fOWod fOWan : Option Addr} {fOWsl : Array (Option Value)} {fOWoc fOWkV fOWdc fOWpm fOWcd fOWct : Value} {fMWod fMWan : Option Addr} {fMWsl : Array (Option Value)} {fMWoc fMWkV fMWdc fMWpm fMWcd fMWct : Value} {fGWod fGWan : Option Addr} {fGWsl : Array (Option Value)} {fGWoc fGWkV fGWdc fGWpm fGWcd fGWct : Value} {fLWod fLWan : Option Addr} {fLWsl : Array (Option Value)} {fLWoc fLWkV fLWdc fLWpm fLWcd fLWct : Value} {fAZod fAZan : Option Addr} {fAZsl : Array (Option Value)} {fAZoc fAZkV fAZdc fAZpm fAZcd fAZct : Value} {fBBod fBBan : Option Addr} {fBBsl : Array (Option Value)} {fBBoc fBBkV fBBdc fBBpm fBBcd fBBct : Value} {fWLod fWLan : Option Addr} {fWLsl : Array (Option Value)} {fWLoc fWLkV fWLdc fWLpm fWLcd fWLct : Value} {fProd fPran : Option Addr} {fPrsl : Array (Option Value)} {fProc fPrkV fPrdc fPrpm fPrcd fPrct : Value} {t9t : Tok} {ck1t : Tok} {ck2t : Tok} {ck3t : Tok} {ck4t : Tok} {ck5t : Tok} {ck6t : Tok} {ck7t : Tok} {ck8t : Tok} {ck9t : Tok} {ck10t : Tok} {ck11t : Tok} {ck12t : Tok} {ck13t : Tok} {ck14t : Tok} {ck15t : Tok} {ck16t : Tok} {ck17t : Tok} {ck18t : Tok} {ck19t : Tok} {ck20t : Tok} {nwmt : Tok} {aTod : Option Addr} {aT0 aT1 aT2 aT3 aT4 aT5 aT6 aT7 aT8 : Tok} {aTn : Nat} {aTsl : Array (Option Value)} {aLod : Option Addr} {aL1 aL2 aL3 aL4 aL5 : Tok} {aLn : Nat} {aLsl : Array (Option Value)} {aPod : Option Addr} {aP0 aP1 aP2 aP3 aP4 aP5 : Tok} {aPn : Nat} {aPsl : Array (Option Value)} {aWod : Option Addr} {aW0 aW1 : Tok} {aWn : Nat} {aWsl : Array (Option Value)} {aVod : Option Addr} {aV0 aV1 aV2 aV3 aV4 aV5 aV6 : Tok} {aVn : Nat} {aVsl : Array (Option Value)} {aOod : Option Addr} {aO0 aO1 aO2 aO3 aO4 aO5 aO6 aO7 aO8 aO9 aO10 aO11 aO12 : Tok} {aOn : Nat} {aOsl : Array (Option Value)} {aCod : Option Addr} {aC0 aC1 aC2 aC3 aC4 aC5 aC6 aC7 aC8 aC9 aC10 aC11 aC12 aC13 aC14 aC15 : Tok} {aCn : Nat} {aCsl : Array (Option Value)} {aNod : Option Addr} {aN2 aN3 aN4 aN5 aN6 aN7 aN8 aN9 aN10 : Tok} {aNn : Nat} {aNsl : Array (Option Value)} {aZod : Option Addr} {aZ1 aZ2 aZ4 : Tok} {aZn : Nat} {aZsl : Array (Option Value)} {aMod : Option Addr} {aM1 aM2 aM3 aM4 aM5 aM6 : Tok} {aMn : Nat} {aMsl : Array (Option Value)}
    (aCE : PySem.W.nsIn K mainGlobals "WrongByte" = some (some (.ref CE)))
    (lCE : K.lookup CE = some (excClassObj CEnm CEqn CE NE CEbs Xc.bmV true CEsn CEsub CEab CEcol CEdd CEk0 CEk1 CEk2 CEk3 CEk5 "ValueError.__new__"))
    (lNE : K.lookup NE = some ⟨NEoc, NEod, .dict NEes NEen, NEsl⟩)
    (oNE : (NEes.toList.all fun e => match e.key with | .str _ _ => true | _ => false) = true)
    (iNE : PySem.W.nsIn K NE "__init__" = some (some (.ref fE)))
    (n0NE : PySem.W.nsIn K NE "__setattr__" = some none)
    (n1NE : PySem.W.nsIn K NE "__getattribute__" = some none)
    (n2NE : PySem.W.nsIn K NE "__getattr__" = some none)
    (n3NE : PySem.W.nsIn K NE "place" = some none)
    (pCE : PySem.W.keepIn K (.ref CE) = true)
    (aCR : PySem.W.nsIn K mainGlobals "ByteReader" = some (some (.ref CR)))
    (pgCR : PySem.W.plainGet K CR Str.empty = true)
    (hdCR : PySem.W.hasDictIn K CR = true)
    (poCR : PySem.W.plainOver K CR = true)
    (saCR : PySem.W.findIn K (.ref CR) "__setattr__" = some (some (.builtin "object.__setattr__")))
    (mkCR : PySem.W.makesIn K CR = true)
    (kcCR : PySem.W.keepIn K (.ref CR) = true)
    (noCR_data : PySem.W.findIn K (.ref CR) "data" = some none)
    (noCR_place : PySem.W.findIn K (.ref CR) "place" = some none)
    (aCF : PySem.W.nsIn K mainGlobals "Field" = some (some (.ref CF)))
    (pgCF : PySem.W.plainGet K CF Str.empty = true)
    (hdCF : PySem.W.hasDictIn K CF = true)
    (poCF : PySem.W.plainOver K CF = true)
    (saCF : PySem.W.findIn K (.ref CF) "__setattr__" = some (some (.builtin "object.__setattr__")))
    (mkCF : PySem.W.makesIn K CF = true)
    (kcCF : PySem.W.keepIn K (.ref CF) = true)
    (noCF_kind : PySem.W.findIn K (.ref CF) "kind" = some none)
    (noCF_way : PySem.W.findIn K (.ref CF) "way" = some none)
    (noCF_pieces : PySem.W.findIn K (.ref CF) "pieces" = some none)
    (noCF_line : PySem.W.findIn K (.ref CF) "line" = some none)
    (noCF_first : PySem.W.findIn K (.ref CF) "first" = some none)
    (noCF_second : PySem.W.findIn K (.ref CF) "second" = some none)
    (aCO : PySem.W.nsIn K mainGlobals "OrdinaryLayer" = some (some (.ref CO)))
    (pgCO : PySem.W.plainGet K CO Str.empty = true)
    (hdCO : PySem.W.hasDictIn K CO = true)
    (poCO : PySem.W.plainOver K CO = true)
    (saCO : PySem.W.findIn K (.ref CO) "__setattr__" = some (some (.builtin "object.__setattr__")))
    (mkCO : PySem.W.makesIn K CO = true)
    (kcCO : PySem.W.keepIn K (.ref CO) = true)
    (noCO_ordinary : PySem.W.findIn K (.ref CO) "ordinary" = some none)
    (noCO_line : PySem.W.findIn K (.ref CO) "line" = some none)
    (noCO_fill : PySem.W.findIn K (.ref CO) "fill" = some none)
    (aCG : PySem.W.nsIn K mainGlobals "GroupLayer" = some (some (.ref CG)))
    (pgCG : PySem.W.plainGet K CG Str.empty = true)
    (hdCG : PySem.W.hasDictIn K CG = true)
    (poCG : PySem.W.plainOver K CG = true)
    (saCG : PySem.W.findIn K (.ref CG) "__setattr__" = some (some (.builtin "object.__setattr__")))
    (mkCG : PySem.W.makesIn K CG = true)
    (kcCG : PySem.W.keepIn K (.ref CG) = true)
    (noCG_charge : PySem.W.findIn K (.ref CG) "charge" = some none)
    (noCG_how_many : PySem.W.findIn K (.ref CG) "how_many" = some none)
    (noCG_manner : PySem.W.findIn K (.ref CG) "manner" = some none)
    (noCG_size : PySem.W.findIn K (.ref CG) "size" = some none)
    (noCG_fill : PySem.W.findIn K (.ref CG) "fill" = some none)
    (aCA : PySem.W.nsIn K mainGlobals "Arms" = some (some (.ref CA)))
    (pgCA : PySem.W.plainGet K CA Str.empty = true)
    (hdCA : PySem.W.hasDictIn K CA = true)
    (poCA : PySem.W.plainOver K CA = true)
    (saCA : PySem.W.findIn K (.ref CA) "__setattr__" = some (some (.builtin "object.__setattr__")))
    (mkCA : PySem.W.makesIn K CA = true)
    (kcCA : PySem.W.keepIn K (.ref CA) = true)
    (noCA_field : PySem.W.findIn K (.ref CA) "field" = some none)
    (noCA_layers : PySem.W.findIn K (.ref CA) "layers" = some none)
    (ifE : PySem.W.isFn K (.ref fE) = true)
    (lfE : K.lookup fE = some ⟨fEoc, fEod, .func (PySem.W.fnOf "__init__" "WrongByte.__init__" (defArgs sXI) (defBody sXI) (defScope sXI) .none fEkV fEdc fEpm fEan fEcd fEct), fEsl⟩)
    (cfE : PySem.W.codeIn K fEcd "WrongByte.__init__" = true)
    (kfE : PySem.W.keepIn K (.ref fE) = true)
    (afR : PySem.W.findIn K (.ref CR) "__init__" = some (some (.ref fR)))
    (ifR : PySem.W.isFn K (.ref fR) = true)
    (lfR : K.lookup fR = some ⟨fRoc, fRod, .func (PySem.W.fnOf "__init__" "ByteReader.__init__" (defArgs sRI) (defBody sRI) (defScope sRI) .none fRkV fRdc fRpm fRan fRcd fRct), fRsl⟩)
    (cfR : PySem.W.codeIn K fRcd "ByteReader.__init__" = true)
    (kfR : PySem.W.keepIn K (.ref fR) = true)
    (afTk : PySem.W.findIn K (.ref CR) "take" = some (some (.ref fTk)))
    (ifTk : PySem.W.isFn K (.ref fTk) = true)
    (lfTk : K.lookup fTk = some ⟨fTkoc, fTkod, .func (PySem.W.fnOf "take" "ByteReader.take" (defArgs sTk) (defBody sTk) (defScope sTk) .none fTkkV fTkdc fTkpm fTkan fTkcd fTkct), fTksl⟩)
    (cfTk : PySem.W.codeIn K fTkcd "ByteReader.take" = true)
    (kfTk : PySem.W.keepIn K (.ref fTk) = true)
    (afTr : PySem.W.findIn K (.ref CR) "take_row" = some (some (.ref fTr)))
    (ifTr : PySem.W.isFn K (.ref fTr) = true)
    (lfTr : K.lookup fTr = some ⟨fTroc, fTrod, .func (PySem.W.fnOf "take_row" "ByteReader.take_row" (defArgs sTr) (defBody sTr) (defScope sTr) .none fTrkV fTrdc fTrpm fTran fTrcd fTrct), fTrsl⟩)
    (cfTr : PySem.W.codeIn K fTrcd "ByteReader.take_row" = true)
    (kfTr : PySem.W.keepIn K (.ref fTr) = true)
    (afTo : PySem.W.findIn K (.ref CR) "take_other_tincture" = some (some (.ref fTo)))
    (ifTo : PySem.W.isFn K (.ref fTo) = true)
    (lfTo : K.lookup fTo = some ⟨fTooc, fTood, .func (PySem.W.fnOf "take_other_tincture" "ByteReader.take_other_tincture" (defArgs sTo) (defBody sTo) (defScope sTo) .none fTokV fTodc fTopm fToan fTocd fToct), fTosl⟩)
    (cfTo : PySem.W.codeIn K fTocd "ByteReader.take_other_tincture" = true)
    (kfTo : PySem.W.keepIn K (.ref fTo) = true)
    (afTe : PySem.W.findIn K (.ref CR) "take_end" = some (some (.ref fTe)))
    (ifTe : PySem.W.isFn K (.ref fTe) = true)
    (lfTe : K.lookup fTe = some ⟨fTeoc, fTeod, .func (PySem.W.fnOf "take_end" "ByteReader.take_end" (defArgs sTe) (defBody sTe) (defScope sTe) .none fTekV fTedc fTepm fTean fTecd fTect), fTesl⟩)
    (cfTe : PySem.W.codeIn K fTecd "ByteReader.take_end" = true)
    (kfTe : PySem.W.keepIn K (.ref fTe) = true)
    (afF : PySem.W.findIn K (.ref CF) "__init__" = some (some (.ref fF)))
    (ifF : PySem.W.isFn K (.ref fF) = true)
    (lfF : K.lookup fF = some ⟨fFoc, fFod, .func (PySem.W.fnOf "__init__" "Field.__init__" (defArgs sFI) (defBody sFI) (defScope sFI) .none fFkV fFdc fFpm fFan fFcd fFct), fFsl⟩)
    (cfF : PySem.W.codeIn K fFcd "Field.__init__" = true)
    (kfF : PySem.W.keepIn K (.ref fF) = true)
    (afO : PySem.W.findIn K (.ref CO) "__init__" = some (some (.ref fO)))
    (ifO : PySem.W.isFn K (.ref fO) = true)
    (lfO : K.lookup fO = some ⟨fOoc, fOod, .func (PySem.W.fnOf "__init__" "OrdinaryLayer.__init__" (defArgs sOI) (defBody sOI) (defScope sOI) .none fOkV fOdc fOpm fOan fOcd fOct), fOsl⟩)
    (cfO : PySem.W.codeIn K fOcd "OrdinaryLayer.__init__" = true)
    (kfO : PySem.W.keepIn K (.ref fO) = true)
    (afG : PySem.W.findIn K (.ref CG) "__init__" = some (some (.ref fG)))
    (ifG : PySem.W.isFn K (.ref fG) = true)
    (lfG : K.lookup fG = some ⟨fGoc, fGod, .func (PySem.W.fnOf "__init__" "GroupLayer.__init__" (defArgs sGI) (defBody sGI) (defScope sGI) .none fGkV fGdc fGpm fGan fGcd fGct), fGsl⟩)
    (cfG : PySem.W.codeIn K fGcd "GroupLayer.__init__" = true)
    (kfG : PySem.W.keepIn K (.ref fG) = true)
    (afA : PySem.W.findIn K (.ref CA) "__init__" = some (some (.ref fA)))
    (ifA : PySem.W.isFn K (.ref fA) = true)
    (lfA : K.lookup fA = some ⟨fAoc, fAod, .func (PySem.W.fnOf "__init__" "Arms.__init__" (defArgs sAI) (defBody sAI) (defScope sAI) .none fAkV fAdc fApm fAan fAcd fAct), fAsl⟩)
    (cfA : PySem.W.codeIn K fAcd "Arms.__init__" = true)
    (kfA : PySem.W.keepIn K (.ref fA) = true)
    (afRP : PySem.W.nsIn K mainGlobals "read_plain" = some (some (.ref fRP)))
    (ifRP : PySem.W.isFn K (.ref fRP) = true)
    (lfRP : K.lookup fRP = some ⟨fRPoc, fRPod, .func (PySem.W.fnOf "read_plain" "read_plain" (defArgs sRP) (defBody sRP) (defScope sRP) .none fRPkV fRPdc fRPpm fRPan fRPcd fRPct), fRPsl⟩)
    (cfRP : PySem.W.codeIn K fRPcd "read_plain" = true)
    (kfRP : PySem.W.keepIn K (.ref fRP) = true)
    (afRT : PySem.W.nsIn K mainGlobals "read_parted" = some (some (.ref fRT)))
    (ifRT : PySem.W.isFn K (.ref fRT) = true)
    (lfRT : K.lookup fRT = some ⟨fRToc, fRTod, .func (PySem.W.fnOf "read_parted" "read_parted" (defArgs sRT) (defBody sRT) (defScope sRT) .none fRTkV fRTdc fRTpm fRTan fRTcd fRTct), fRTsl⟩)
    (cfRT : PySem.W.codeIn K fRTcd "read_parted" = true)
    (kfRT : PySem.W.keepIn K (.ref fRT) = true)
    (afLV : PySem.W.nsIn K mainGlobals "lines_of_varied" = some (some (.ref fLV)))
    (ifLV : PySem.W.isFn K (.ref fLV) = true)
    (lfLV : K.lookup fLV = some ⟨fLVoc, fLVod, .func (PySem.W.fnOf "lines_of_varied" "lines_of_varied" (defArgs sLV) (defBody sLV) (defScope sLV) .none fLVkV fLVdc fLVpm fLVan fLVcd fLVct), fLVsl⟩)
    (cfLV : PySem.W.codeIn K fLVcd "lines_of_varied" = true)
    (kfLV : PySem.W.keepIn K (.ref fLV) = true)
    (afRV : PySem.W.nsIn K mainGlobals "read_varied" = some (some (.ref fRV)))
    (ifRV : PySem.W.isFn K (.ref fRV) = true)
    (lfRV : K.lookup fRV = some ⟨fRVoc, fRVod, .func (PySem.W.fnOf "read_varied" "read_varied" (defArgs sRV) (defBody sRV) (defScope sRV) .none fRVkV fRVdc fRVpm fRVan fRVcd fRVct), fRVsl⟩)
    (cfRV : PySem.W.codeIn K fRVcd "read_varied" = true)
    (kfRV : PySem.W.keepIn K (.ref fRV) = true)
    (afRF : PySem.W.nsIn K mainGlobals "read_field" = some (some (.ref fRF)))
    (ifRF : PySem.W.isFn K (.ref fRF) = true)
    (lfRF : K.lookup fRF = some ⟨fRFoc, fRFod, .func (PySem.W.fnOf "read_field" "read_field" (defArgs sRF) (defBody sRF) (defScope sRF) .none fRFkV fRFdc fRFpm fRFan fRFcd fRFct), fRFsl⟩)
    (cfRF : PySem.W.codeIn K fRFcd "read_field" = true)
    (kfRF : PySem.W.keepIn K (.ref fRF) = true)
    (afFL : PySem.W.nsIn K mainGlobals "read_fill" = some (some (.ref fFL)))
    (ifFL : PySem.W.isFn K (.ref fFL) = true)
    (lfFL : K.lookup fFL = some ⟨fFLoc, fFLod, .func (PySem.W.fnOf "read_fill" "read_fill" (defArgs sFL) (defBody sFL) (defScope sFL) .none fFLkV fFLdc fFLpm fFLan fFLcd fFLct), fFLsl⟩)
    (cfFL : PySem.W.codeIn K fFLcd "read_fill" = true)
    (kfFL : PySem.W.keepIn K (.ref fFL) = true)
    (afOL : PySem.W.nsIn K mainGlobals "read_ordinary_layer" = some (some (.ref fOL)))
    (ifOL : PySem.W.isFn K (.ref fOL) = true)
    (lfOL : K.lookup fOL = some ⟨fOLoc, fOLod, .func (PySem.W.fnOf "read_ordinary_layer" "read_ordinary_layer" (defArgs sOL) (defBody sOL) (defScope sOL) .none fOLkV fOLdc fOLpm fOLan fOLcd fOLct), fOLsl⟩)
    (cfOL : PySem.W.codeIn K fOLcd "read_ordinary_layer" = true)
    (kfOL : PySem.W.keepIn K (.ref fOL) = true)
    (afGL : PySem.W.nsIn K mainGlobals "read_group_layer" = some (some (.ref fGL)))
    (ifGL : PySem.W.isFn K (.ref fGL) = true)
    (lfGL : K.lookup fGL = some ⟨fGLoc, fGLod, .func (PySem.W.fnOf "read_group_layer" "read_group_layer" (defArgs sGL) (defBody sGL) (defScope sGL) .none fGLkV fGLdc fGLpm fGLan fGLcd fGLct), fGLsl⟩)
    (cfGL : PySem.W.codeIn K fGLcd "read_group_layer" = true)
    (kfGL : PySem.W.keepIn K (.ref fGL) = true)
    (afRL : PySem.W.nsIn K mainGlobals "read_layer" = some (some (.ref fRL)))
    (ifRL : PySem.W.isFn K (.ref fRL) = true)
    (lfRL : K.lookup fRL = some ⟨fRLoc, fRLod, .func (PySem.W.fnOf "read_layer" "read_layer" (defArgs sRL) (defBody sRL) (defScope sRL) .none fRLkV fRLdc fRLpm fRLan fRLcd fRLct), fRLsl⟩)
    (cfRL : PySem.W.codeIn K fRLcd "read_layer" = true)
    (kfRL : PySem.W.keepIn K (.ref fRL) = true)
    (afRA : PySem.W.nsIn K mainGlobals "read_arms" = some (some (.ref fRA)))
    (ifRA : PySem.W.isFn K (.ref fRA) = true)
    (lfRA : K.lookup fRA = some ⟨fRAoc, fRAod, .func (PySem.W.fnOf "read_arms" "read_arms" (defArgs sRA) (defBody sRA) (defScope sRA) .none fRAkV fRAdc fRApm fRAan fRAcd fRAct), fRAsl⟩)
    (cfRA : PySem.W.codeIn K fRAcd "read_arms" = true)
    (kfRA : PySem.W.keepIn K (.ref fRA) = true)
    (afAB : PySem.W.nsIn K mainGlobals "article_before" = some (some (.ref fAB)))
    (ifAB : PySem.W.isFn K (.ref fAB) = true)
    (lfAB : K.lookup fAB = some ⟨fABoc, fABod, .func (PySem.W.fnOf "article_before" "article_before" (defArgs sAB) (defBody sAB) (defScope sAB) .none fABkV fABdc fABpm fABan fABcd fABct), fABsl⟩)
    (cfAB : PySem.W.codeIn K fABcd "article_before" = true)
    (kfAB : PySem.W.keepIn K (.ref fAB) = true)
    (afCW : PySem.W.nsIn K mainGlobals "charge_words" = some (some (.ref fCW)))
    (ifCW : PySem.W.isFn K (.ref fCW) = true)
    (lfCW : K.lookup fCW = some ⟨fCWoc, fCWod, .func (PySem.W.fnOf "charge_words" "charge_words" (defArgs sCW) (defBody sCW) (defScope sCW) .none fCWkV fCWdc fCWpm fCWan fCWcd fCWct), fCWsl⟩)
    (cfCW : PySem.W.codeIn K fCWcd "charge_words" = true)
    (kfCW : PySem.W.keepIn K (.ref fCW) = true)
    (afSd : PySem.W.nsIn K mainGlobals "said" = some (some (.ref fSd)))
    (ifSd : PySem.W.isFn K (.ref fSd) = true)
    (lfSd : K.lookup fSd = some ⟨fSdoc, fSdod, .func (PySem.W.fnOf "said" "said" (defArgs sSd) (defBody sSd) (defScope sSd) .none fSdkV fSddc fSdpm fSdan fSdcd fSdct), fSdsl⟩)
    (cfSd : PySem.W.codeIn K fSdcd "said" = true)
    (kfSd : PySem.W.keepIn K (.ref fSd) = true)
    (afT2 : PySem.W.nsIn K mainGlobals "two_tinctures" = some (some (.ref fT2)))
    (ifT2 : PySem.W.isFn K (.ref fT2) = true)
    (lfT2 : K.lookup fT2 = some ⟨fT2oc, fT2od, .func (PySem.W.fnOf "two_tinctures" "two_tinctures" (defArgs sT2) (defBody sT2) (defScope sT2) .none fT2kV fT2dc fT2pm fT2an fT2cd fT2ct), fT2sl⟩)
    (cfT2 : PySem.W.codeIn K fT2cd "two_tinctures" = true)
    (kfT2 : PySem.W.keepIn K (.ref fT2) = true)
    (afPW : PySem.W.nsIn K mainGlobals "parted_way" = some (some (.ref fPW)))
    (ifPW : PySem.W.isFn K (.ref fPW) = true)
    (lfPW : K.lookup fPW = some ⟨fPWoc, fPWod, .func (PySem.W.fnOf "parted_way" "parted_way" (defArgs sPW) (defBody sPW) (defScope sPW) .none fPWkV fPWdc fPWpm fPWan fPWcd fPWct), fPWsl⟩)
    (cfPW : PySem.W.codeIn K fPWcd "parted_way" = true)
    (kfPW : PySem.W.keepIn K (.ref fPW) = true)
    (afFW : PySem.W.nsIn K mainGlobals "field_words" = some (some (.ref fFW)))
    (ifFW : PySem.W.isFn K (.ref fFW) = true)
    (lfFW : K.lookup fFW = some ⟨fFWoc, fFWod, .func (PySem.W.fnOf "field_words" "field_words" (defArgs sFW) (defBody sFW) (defScope sFW) .none fFWkV fFWdc fFWpm fFWan fFWcd fFWct), fFWsl⟩)
    (cfFW : PySem.W.codeIn K fFWcd "field_words" = true)
    (kfFW : PySem.W.keepIn K (.ref fFW) = true)
    (afFw : PySem.W.nsIn K mainGlobals "fill_words" = some (some (.ref fFw)))
    (ifFw : PySem.W.isFn K (.ref fFw) = true)
    (lfFw : K.lookup fFw = some ⟨fFwoc, fFwod, .func (PySem.W.fnOf "fill_words" "fill_words" (defArgs sFw) (defBody sFw) (defScope sFw) .none fFwkV fFwdc fFwpm fFwan fFwcd fFwct), fFwsl⟩)
    (cfFw : PySem.W.codeIn K fFwcd "fill_words" = true)
    (kfFw : PySem.W.keepIn K (.ref fFw) = true)
    (afOW : PySem.W.nsIn K mainGlobals "ordinary_words" = some (some (.ref fOW)))
    (ifOW : PySem.W.isFn K (.ref fOW) = true)
    (lfOW : K.lookup fOW = some ⟨fOWoc, fOWod, .func (PySem.W.fnOf "ordinary_words" "ordinary_words" (defArgs sOW) (defBody sOW) (defScope sOW) .none fOWkV fOWdc fOWpm fOWan fOWcd fOWct), fOWsl⟩)
    (cfOW : PySem.W.codeIn K fOWcd "ordinary_words" = true)
    (kfOW : PySem.W.keepIn K (.ref fOW) = true)
    (afMW : PySem.W.nsIn K mainGlobals "manner_words" = some (some (.ref fMW)))
    (ifMW : PySem.W.isFn K (.ref fMW) = true)
    (lfMW : K.lookup fMW = some ⟨fMWoc, fMWod, .func (PySem.W.fnOf "manner_words" "manner_words" (defArgs sMW) (defBody sMW) (defScope sMW) .none fMWkV fMWdc fMWpm fMWan fMWcd fMWct), fMWsl⟩)
    (cfMW : PySem.W.codeIn K fMWcd "manner_words" = true)
    (kfMW : PySem.W.keepIn K (.ref fMW) = true)
    (afGW : PySem.W.nsIn K mainGlobals "group_words" = some (some (.ref fGW)))
    (ifGW : PySem.W.isFn K (.ref fGW) = true)
    (lfGW : K.lookup fGW = some ⟨fGWoc, fGWod, .func (PySem.W.fnOf "group_words" "group_words" (defArgs sGW) (defBody sGW) (defScope sGW) .none fGWkV fGWdc fGWpm fGWan fGWcd fGWct), fGWsl⟩)
    (cfGW : PySem.W.codeIn K fGWcd "group_words" = true)
    (kfGW : PySem.W.keepIn K (.ref fGW) = true)
    (afLW : PySem.W.nsIn K mainGlobals "layer_words" = some (some (.ref fLW)))
    (ifLW : PySem.W.isFn K (.ref fLW) = true)
    (lfLW : K.lookup fLW = some ⟨fLWoc, fLWod, .func (PySem.W.fnOf "layer_words" "layer_words" (defArgs sLW) (defBody sLW) (defScope sLW) .none fLWkV fLWdc fLWpm fLWan fLWcd fLWct), fLWsl⟩)
    (cfLW : PySem.W.codeIn K fLWcd "layer_words" = true)
    (kfLW : PySem.W.keepIn K (.ref fLW) = true)
    (afAZ : PySem.W.nsIn K mainGlobals "arms_blazon" = some (some (.ref fAZ)))
    (ifAZ : PySem.W.isFn K (.ref fAZ) = true)
    (lfAZ : K.lookup fAZ = some ⟨fAZoc, fAZod, .func (PySem.W.fnOf "arms_blazon" "arms_blazon" (defArgs sAZ) (defBody sAZ) (defScope sAZ) .none fAZkV fAZdc fAZpm fAZan fAZcd fAZct), fAZsl⟩)
    (cfAZ : PySem.W.codeIn K fAZcd "arms_blazon" = true)
    (kfAZ : PySem.W.keepIn K (.ref fAZ) = true)
    (afBB : PySem.W.nsIn K mainGlobals "blazon_bytes" = some (some (.ref fBB)))
    (ifBB : PySem.W.isFn K (.ref fBB) = true)
    (lfBB : K.lookup fBB = some ⟨fBBoc, fBBod, .func (PySem.W.fnOf "blazon_bytes" "blazon_bytes" (defArgs sBB) (defBody sBB) (defScope sBB) .none fBBkV fBBdc fBBpm fBBan fBBcd fBBct), fBBsl⟩)
    (cfBB : PySem.W.codeIn K fBBcd "blazon_bytes" = true)
    (kfBB : PySem.W.keepIn K (.ref fBB) = true)
    (afWL : PySem.W.nsIn K mainGlobals "with_length" = some (some (.ref fWL)))
    (ifWL : PySem.W.isFn K (.ref fWL) = true)
    (lfWL : K.lookup fWL = some ⟨fWLoc, fWLod, .func (PySem.W.fnOf "with_length" "with_length" (defArgs sWL) (defBody sWL) (defScope sWL) .none fWLkV fWLdc fWLpm fWLan fWLcd fWLct), fWLsl⟩)
    (cfWL : PySem.W.codeIn K fWLcd "with_length" = true)
    (kfWL : PySem.W.keepIn K (.ref fWL) = true)
    (afPr : PySem.W.nsIn K mainGlobals "print_of" = some (some (.ref fPr)))
    (ifPr : PySem.W.isFn K (.ref fPr) = true)
    (lfPr : K.lookup fPr = some ⟨fProc, fProd, .func (PySem.W.fnOf "print_of" "print_of" (defArgs sPr) (defBody sPr) (defScope sPr) .none fPrkV fPrdc fPrpm fPran fPrcd fPrct), fPrsl⟩)
    (cfPr : PySem.W.codeIn K fPrcd "print_of" = true)
    (kfPr : PySem.W.keepIn K (.ref fPr) = true)
    (at9 : PySem.W.nsIn K mainGlobals "TINCTURE_ROWS" = some (some (.int 9 t9t)))
    (ack1 : PySem.W.nsIn K mainGlobals "PLAIN" = some (some (.int 0 ck1t)))
    (ack2 : PySem.W.nsIn K mainGlobals "PARTED" = some (some (.int 1 ck2t)))
    (ack3 : PySem.W.nsIn K mainGlobals "VARIED" = some (some (.int 2 ck3t)))
    (ack4 : PySem.W.nsIn K mainGlobals "LINE_ROWS" = some (some (.int 6 ck4t)))
    (ack5 : PySem.W.nsIn K mainGlobals "PARTED_ROWS" = some (some (.int 8 ck5t)))
    (ack6 : PySem.W.nsIn K mainGlobals "VARIED_ROWS" = some (some (.int 7 ck6t)))
    (ack7 : PySem.W.nsIn K mainGlobals "ORDINARY_ROWS" = some (some (.int 13 ck7t)))
    (ack8 : PySem.W.nsIn K mainGlobals "CHARGE_ROWS" = some (some (.int 16 ck8t)))
    (ack9 : PySem.W.nsIn K mainGlobals "MANNER_ROWS" = some (some (.int 7 ck9t)))
    (ack10 : PySem.W.nsIn K mainGlobals "CHEQUY" = some (some (.int 5 ck10t)))
    (ack11 : PySem.W.nsIn K mainGlobals "LOZENGY" = some (some (.int 6 ck11t)))
    (ack12 : PySem.W.nsIn K mainGlobals "LEAST_PIECES" = some (some (.int 2 ck12t)))
    (ack13 : PySem.W.nsIn K mainGlobals "MOST_PIECES" = some (some (.int 24 ck13t)))
    (ack14 : PySem.W.nsIn K mainGlobals "MOST_CHARGES" = some (some (.int 10 ck14t)))
    (ack15 : PySem.W.nsIn K mainGlobals "MOST_SIZE" = some (some (.int 4 ck15t)))
    (ack16 : PySem.W.nsIn K mainGlobals "MOST_LAYERS" = some (some (.int 8 ck16t)))
    (ack17 : PySem.W.nsIn K mainGlobals "ORDINARY_LAYER" = some (some (.int 0 ck17t)))
    (ack18 : PySem.W.nsIn K mainGlobals "GROUP_LAYER" = some (some (.int 1 ck18t)))
    (ack19 : PySem.W.nsIn K mainGlobals "FIELD_FILL" = some (some (.int 0 ck19t)))
    (ack20 : PySem.W.nsIn K mainGlobals "COUNTERCHANGED_FILL" = some (some (.int 1 ck20t)))
    (anwm : PySem.W.nsIn K mainGlobals "NOT_WELL_MADE" = some (some (.int (-1) nwmt)))
    (aaT : PySem.W.nsIn K mainGlobals "TINCTURES" = some (some (.ref aT)))
    (laT : K.lookup aT = some ⟨.type "tuple", aTod, .seq #[.str "or" aT0, .str "argent" aT1, .str "gules" aT2, .str "azure" aT3, .str "sable" aT4, .str "vert" aT5, .str "purpure" aT6, .str "ermine" aT7, .str "vair" aT8] aTn, aTsl⟩)
    (aaL : PySem.W.nsIn K mainGlobals "LINES" = some (some (.ref aL)))
    (laL : K.lookup aL = some ⟨.type "tuple", aLod, .seq #[.none, .str "wavy" aL1, .str "embattled" aL2, .str "indented" aL3, .str "engrailed" aL4, .str "invected" aL5] aLn, aLsl⟩)
    (aaP : PySem.W.nsIn K mainGlobals "PER_WAYS" = some (some (.ref aP)))
    (laP : K.lookup aP = some ⟨.type "tuple", aPod, .seq #[.str "pale" aP0, .str "fess" aP1, .str "bend" aP2, .str "bend sinister" aP3, .str "chevron" aP4, .str "saltire" aP5] aPn, aPsl⟩)
    (aaW : PySem.W.nsIn K mainGlobals "OTHER_WAYS" = some (some (.ref aW)))
    (laW : K.lookup aW = some ⟨.type "tuple", aWod, .seq #[.str "quarterly" aW0, .str "gyronny" aW1] aWn, aWsl⟩)
    (aaV : PySem.W.nsIn K mainGlobals "VARIED_WAYS" = some (some (.ref aV)))
    (laV : K.lookup aV = some ⟨.type "tuple", aVod, .seq #[.str "barry" aV0, .str "paly" aV1, .str "bendy" aV2, .str "bendy sinister" aV3, .str "chevronny" aV4, .str "chequy" aV5, .str "lozengy" aV6] aVn, aVsl⟩)
    (aaO : PySem.W.nsIn K mainGlobals "ORDINARIES" = some (some (.ref aO)))
    (laO : K.lookup aO = some ⟨.type "tuple", aOod, .seq #[.str "chief" aO0, .str "base" aO1, .str "pale" aO2, .str "fess" aO3, .str "bend" aO4, .str "bend sinister" aO5, .str "chevron" aO6, .str "cross" aO7, .str "saltire" aO8, .str "pile" aO9, .str "bordure" aO10, .str "canton" aO11, .str "quarter" aO12] aOn, aOsl⟩)
    (aaC : PySem.W.nsIn K mainGlobals "CHARGES" = some (some (.ref aC)))
    (laC : K.lookup aC = some ⟨.type "tuple", aCod, .seq #[.str "roundel" aC0, .str "annulet" aC1, .str "lozenge" aC2, .str "mascle" aC3, .str "fusil" aC4, .str "billet" aC5, .str "mullet" aC6, .str "crescent" aC7, .str "increscent" aC8, .str "crosslet" aC9, .str "saltorel" aC10, .str "escutcheon" aC11, .str "tower" aC12, .str "sword" aC13, .str "wheel" aC14, .str "arrow" aC15] aCn, aCsl⟩)
    (aaN : PySem.W.nsIn K mainGlobals "COUNTS" = some (some (.ref aN)))
    (laN : K.lookup aN = some ⟨.type "tuple", aNod, .seq #[.none, .none, .str "two" aN2, .str "three" aN3, .str "four" aN4, .str "five" aN5, .str "six" aN6, .str "seven" aN7, .str "eight" aN8, .str "nine" aN9, .str "ten" aN10] aNn, aNsl⟩)
    (aaZ : PySem.W.nsIn K mainGlobals "SIZES" = some (some (.ref aZ)))
    (laZ : K.lookup aZ = some ⟨.type "tuple", aZod, .seq #[.none, .str "small" aZ1, .str "lesser" aZ2, .none, .str "great" aZ4] aZn, aZsl⟩)
    (aaM : PySem.W.nsIn K mainGlobals "MANNERS" = some (some (.ref aM)))
    (laM : K.lookup aM = some ⟨.type "tuple", aMod, .seq #[.none, .str "fess" aM1, .str "pale" aM2, .str "bend" aM3, .str "bend sinister" aM4, .str "chief" aM5, .str "base" aM6] aMn, aMsl⟩)
    (z_ValueError : PySem.W.nsIn K mainGlobals "ValueError" = some none)
    (z_len : PySem.W.nsIn K mainGlobals "len" = some none)
    (z_range : PySem.W.nsIn K mainGlobals "range" = some none)
    (z_list : PySem.W.nsIn K mainGlobals "list" = some none)
    (z_str : PySem.W.nsIn K mainGlobals "str" = some none)
    (z_ord : PySem.W.nsIn K mainGlobals "ord" = some none)
    (z_isinstance : PySem.W.nsIn K mainGlobals "isinstance" = some none)
    {ccxt : Tok} (neCF : CF ≠ CR)
    (neCO : CO ≠ CR)
    (neCG : CG ≠ CR)
    (neCA : CA ≠ CR)
    (neGO : CG ≠ CO)
    (acctx : PySem.W.nsIn K mainGlobals "COUNTERCHANGED" = some (some (.str "counterchanged" ccxt)))
    (haO : PySem.W.findIn K (.ref CO) "__class__" = some (some (.builtin "object.__class__")))
    (haG : PySem.W.findIn K (.ref CG) "__class__" = some (some (.builtin "object.__class__")))
    (hnO : PySem.W.specialIn K (.builtin "object.__class__") "__get__" = some (some (.builtin "getset_descriptor.__get__")))
    (htkO : PySem.W.takesIn K (.builtin "object.__class__") = some true)
    (hmO : PySem.W.mroIn K CO (.type "object") = some true)
    (hmG : PySem.W.mroIn K CG (.type "object") = some true)
    (icO : PySem.W.isClsIn K CO = true)
    (tyO : PySem.W.typeIn K (.ref CO) = some (.type "type"))
    (subGO : PySem.W.subIn K (.ref CG) (.ref CO) = some false) :
    ∃ fd : FuncData, (∀ (s : Shared) (us : List Value), us.length = (["a"] : List Str).length → BindsTo s fd ⟨us, []⟩ ((["a"] : List Str).zip us)) ∧ ∀ base : Heap, K.In base → base.Ns mainGlobals mg → FnOk P w K mg base (CXx P w) 12 fa fd ["a"] (spPr K) := by
  have e := hfa.symm.trans (PySem.W.mg_of X G afPr)
  cases e
  have okNE : PySem.W.nsOkIn K NE = true := by unfold PySem.W.nsOkIn; rw [lNE]; dsimp only; rw [← Array.all_toList]; exact oNE
  have xCE : XCls K CE NE fE := ⟨⟨_, _, _, _, _, _, _, _, _, _, _, _, _, lCE⟩, okNE, iNE, n0NE, n1NE, n2NE, ifE, pCE⟩
  have FfE := fun_mk (st := sXI) lfE cfE kfE
  have bfE := FfE.binds (ps := ["self", "place"]) fun _ _ _ _ _ _ us hl => by obtain ⟨q0, q1, rfl⟩ := ar2 hl; rfl
  have FfR := fun_mk (st := sRI) lfR cfR kfR
  have bfR := FfR.binds (ps := ["self", "data"]) fun _ _ _ _ _ _ us hl => by obtain ⟨q0, q1, rfl⟩ := ar2 hl; rfl
  have FfTk := fun_mk (st := sTk) lfTk cfTk kfTk
  have bfTk := FfTk.binds (ps := ["self", "least", "most"]) fun _ _ _ _ _ _ us hl => by obtain ⟨q0, q1, q2, rfl⟩ := ar3 hl; rfl
  have FfTr := fun_mk (st := sTr) lfTr cfTr kfTr
  have bfTr := FfTr.binds (ps := ["self", "rows"]) fun _ _ _ _ _ _ us hl => by obtain ⟨q0, q1, rfl⟩ := ar2 hl; rfl
  have FfTo := fun_mk (st := sTo) lfTo cfTo kfTo
  have bfTo := FfTo.binds (ps := ["self", "first"]) fun _ _ _ _ _ _ us hl => by obtain ⟨q0, q1, rfl⟩ := ar2 hl; rfl
  have FfTe := fun_mk (st := sTe) lfTe cfTe kfTe
  have bfTe := FfTe.binds (ps := ["self"]) fun _ _ _ _ _ _ us hl => by obtain ⟨q0, rfl⟩ := ar1 hl; rfl
  have FfF := fun_mk (st := sFI) lfF cfF kfF
  have bfF := FfF.binds (ps := ["self", "kind", "way", "pieces", "line", "first", "second"]) fun _ _ _ _ _ _ us hl => by obtain ⟨q0, q1, q2, q3, q4, q5, q6, rfl⟩ := ar7 hl; rfl
  have FfO := fun_mk (st := sOI) lfO cfO kfO
  have bfO := FfO.binds (ps := ["self", "ordinary", "line", "fill"]) fun _ _ _ _ _ _ us hl => by obtain ⟨q0, q1, q2, q3, rfl⟩ := ar4 hl; rfl
  have FfG := fun_mk (st := sGI) lfG cfG kfG
  have bfG := FfG.binds (ps := ["self", "charge", "how_many", "manner", "size", "fill"]) fun _ _ _ _ _ _ us hl => by obtain ⟨q0, q1, q2, q3, q4, q5, rfl⟩ := ar6 hl; rfl
  have FfA := fun_mk (st := sAI) lfA cfA kfA
  have bfA := FfA.binds (ps := ["self", "field", "layers"]) fun _ _ _ _ _ _ us hl => by obtain ⟨q0, q1, q2, rfl⟩ := ar3 hl; rfl
  have FfRP := fun_mk (st := sRP) lfRP cfRP kfRP
  have bfRP := FfRP.binds (ps := ["reader"]) fun _ _ _ _ _ _ us hl => by obtain ⟨q0, rfl⟩ := ar1 hl; rfl
  have FfRT := fun_mk (st := sRT) lfRT cfRT kfRT
  have bfRT := FfRT.binds (ps := ["reader"]) fun _ _ _ _ _ _ us hl => by obtain ⟨q0, rfl⟩ := ar1 hl; rfl
  have FfLV := fun_mk (st := sLV) lfLV cfLV kfLV
  have bfLV := FfLV.binds (ps := ["way"]) fun _ _ _ _ _ _ us hl => by obtain ⟨q0, rfl⟩ := ar1 hl; rfl
  have FfRV := fun_mk (st := sRV) lfRV cfRV kfRV
  have bfRV := FfRV.binds (ps := ["reader"]) fun _ _ _ _ _ _ us hl => by obtain ⟨q0, rfl⟩ := ar1 hl; rfl
  have FfRF := fun_mk (st := sRF) lfRF cfRF kfRF
  have bfRF := FfRF.binds (ps := ["reader"]) fun _ _ _ _ _ _ us hl => by obtain ⟨q0, rfl⟩ := ar1 hl; rfl
  have FfFL := fun_mk (st := sFL) lfFL cfFL kfFL
  have bfFL := FfFL.binds (ps := ["reader", "arms_field"]) fun _ _ _ _ _ _ us hl => by obtain ⟨q0, q1, rfl⟩ := ar2 hl; rfl
  have FfOL := fun_mk (st := sOL) lfOL cfOL kfOL
  have bfOL := FfOL.binds (ps := ["reader", "arms_field"]) fun _ _ _ _ _ _ us hl => by obtain ⟨q0, q1, rfl⟩ := ar2 hl; rfl
  have FfGL := fun_mk (st := sGL) lfGL cfGL kfGL
  have bfGL := FfGL.binds (ps := ["reader", "arms_field"]) fun _ _ _ _ _ _ us hl => by obtain ⟨q0, q1, rfl⟩ := ar2 hl; rfl
  have FfRL := fun_mk (st := sRL) lfRL cfRL kfRL
  have bfRL := FfRL.binds (ps := ["reader", "arms_field"]) fun _ _ _ _ _ _ us hl => by obtain ⟨q0, q1, rfl⟩ := ar2 hl; rfl
  have FfRA := fun_mk (st := sRA) lfRA cfRA kfRA
  have bfRA := FfRA.binds (ps := ["data"]) fun _ _ _ _ _ _ us hl => by obtain ⟨q0, rfl⟩ := ar1 hl; rfl
  have FfAB := fun_mk (st := sAB) lfAB cfAB kfAB
  have bfAB := FfAB.binds (ps := ["word"]) fun _ _ _ _ _ _ us hl => by obtain ⟨q0, rfl⟩ := ar1 hl; rfl
  have FfCW := fun_mk (st := sCW) lfCW cfCW kfCW
  have bfCW := FfCW.binds (ps := ["how_many"]) fun _ _ _ _ _ _ us hl => by obtain ⟨q0, rfl⟩ := ar1 hl; rfl
  have FfSd := fun_mk (st := sSd) lfSd cfSd kfSd
  have bfSd := FfSd.binds (ps := ["words"]) fun _ _ _ _ _ _ us hl => by obtain ⟨q0, rfl⟩ := ar1 hl; rfl
  have FfT2 := fun_mk (st := sT2) lfT2 cfT2 kfT2
  have bfT2 := FfT2.binds (ps := ["field"]) fun _ _ _ _ _ _ us hl => by obtain ⟨q0, rfl⟩ := ar1 hl; rfl
  have FfPW := fun_mk (st := sPW) lfPW cfPW kfPW
  have bfPW := FfPW.binds (ps := ["way"]) fun _ _ _ _ _ _ us hl => by obtain ⟨q0, rfl⟩ := ar1 hl; rfl
  have FfFW := fun_mk (st := sFW) lfFW cfFW kfFW
  have bfFW := FfFW.binds (ps := ["field"]) fun _ _ _ _ _ _ us hl => by obtain ⟨q0, rfl⟩ := ar1 hl; rfl
  have FfFw := fun_mk (st := sFw) lfFw cfFw kfFw
  have bfFw := FfFw.binds (ps := ["fill"]) fun _ _ _ _ _ _ us hl => by obtain ⟨q0, rfl⟩ := ar1 hl; rfl
  have FfOW := fun_mk (st := sOW) lfOW cfOW kfOW
  have bfOW := FfOW.binds (ps := ["layer"]) fun _ _ _ _ _ _ us hl => by obtain ⟨q0, rfl⟩ := ar1 hl; rfl
  have FfMW := fun_mk (st := sMW) lfMW cfMW kfMW
  have bfMW := FfMW.binds (ps := ["manner"]) fun _ _ _ _ _ _ us hl => by obtain ⟨q0, rfl⟩ := ar1 hl; rfl
  have FfGW := fun_mk (st := sGW) lfGW cfGW kfGW
  have bfGW := FfGW.binds (ps := ["group"]) fun _ _ _ _ _ _ us hl => by obtain ⟨q0, rfl⟩ := ar1 hl; rfl
  have FfLW := fun_mk (st := sLW) lfLW cfLW kfLW
  have bfLW := FfLW.binds (ps := ["layer"]) fun _ _ _ _ _ _ us hl => by obtain ⟨q0, rfl⟩ := ar1 hl; rfl
  have FfAZ := fun_mk (st := sAZ) lfAZ cfAZ kfAZ
  have bfAZ := FfAZ.binds (ps := ["arms"]) fun _ _ _ _ _ _ us hl => by obtain ⟨q0, rfl⟩ := ar1 hl; rfl
  have FfBB := fun_mk (st := sBB) lfBB cfBB kfBB
  have bfBB := FfBB.binds (ps := ["arms"]) fun _ _ _ _ _ _ us hl => by obtain ⟨q0, rfl⟩ := ar1 hl; rfl
  have FfWL := fun_mk (st := sWL) lfWL cfWL kfWL
  have bfWL := FfWL.binds (ps := ["data"]) fun _ _ _ _ _ _ us hl => by obtain ⟨q0, rfl⟩ := ar1 hl; rfl
  have FfPr := fun_mk (st := sPr) lfPr cfPr kfPr
  have bfPr := FfPr.binds (ps := ["a"]) fun _ _ _ _ _ _ us hl => by obtain ⟨q0, rfl⟩ := ar1 hl; rfl
  have T : TR K mg CE NE fE CR fR fTk fTr fTo fTe := ⟨xCE, n3NE, PySem.W.mg_of X G aCE, PySem.W.mg_none_of X G z_ValueError, PySem.W.mg_none_of X G z_len, PySem.W.mg_of X G aCR, ⟨pgCR, hdCR, poCR, saCR⟩, noCR_data, noCR_place, ⟨mkCR, afR, ifR, kcCR⟩,
    ⟨afTk, ifTk, kfTk⟩, ⟨afTr, ifTr, kfTr⟩, ⟨afTo, ifTo, kfTo⟩, ⟨afTe, ifTe, kfTe⟩, ⟨_, PySem.W.mg_of X G at9⟩⟩
  have U : TA1 K mg CR CF CO CG CA fF fO fG fA fRP fRT fLV fRV fRF fFL fOL fGL fRL fRA := ⟨⟨⟨pgCF, hdCF, poCF, saCF⟩, PySem.W.mg_of X G aCF, ⟨mkCF, afF, ifF, kcCF⟩, fun x hx => by
      simp only [List.mem_cons, List.not_mem_nil, or_false] at hx
      rcases hx with rfl | rfl | rfl | rfl | rfl | rfl
      · exact noCF_kind
      · exact noCF_way
      · exact noCF_pieces
      · exact noCF_line
      · exact noCF_first
      · exact noCF_second⟩,
    ⟨⟨pgCO, hdCO, poCO, saCO⟩, PySem.W.mg_of X G aCO, ⟨mkCO, afO, ifO, kcCO⟩, fun x hx => by
      simp only [List.mem_cons, List.not_mem_nil, or_false] at hx
      rcases hx with rfl | rfl | rfl
      · exact noCO_ordinary
      · exact noCO_line
      · exact noCO_fill⟩,
    ⟨⟨pgCG, hdCG, poCG, saCG⟩, PySem.W.mg_of X G aCG, ⟨mkCG, afG, ifG, kcCG⟩, fun x hx => by
      simp only [List.mem_cons, List.not_mem_nil, or_false] at hx
      rcases hx with rfl | rfl | rfl | rfl | rfl
      · exact noCG_charge
      · exact noCG_how_many
      · exact noCG_manner
      · exact noCG_size
      · exact noCG_fill⟩,
    ⟨⟨pgCA, hdCA, poCA, saCA⟩, PySem.W.mg_of X G aCA, ⟨mkCA, afA, ifA, kcCA⟩, fun x hx => by
      simp only [List.mem_cons, List.not_mem_nil, or_false] at hx
      rcases hx with rfl | rfl
      · exact noCA_field
      · exact noCA_layers⟩,
    neCF, neCO, neCG, neCA, PySem.W.mg_none_of X G z_range, fun nm z hz => by
      simp only [List.mem_cons, List.not_mem_nil, or_false, Prod.mk.injEq] at hz
      rcases hz with ⟨rfl, rfl⟩ | ⟨rfl, rfl⟩ | ⟨rfl, rfl⟩ | ⟨rfl, rfl⟩ | ⟨rfl, rfl⟩ | ⟨rfl, rfl⟩ | ⟨rfl, rfl⟩ | ⟨rfl, rfl⟩ | ⟨rfl, rfl⟩ | ⟨rfl, rfl⟩ | ⟨rfl, rfl⟩ | ⟨rfl, rfl⟩ | ⟨rfl, rfl⟩ | ⟨rfl, rfl⟩ | ⟨rfl, rfl⟩ | ⟨rfl, rfl⟩ | ⟨rfl, rfl⟩ | ⟨rfl, rfl⟩ | ⟨rfl, rfl⟩ | ⟨rfl, rfl⟩
      · exact ⟨_, PySem.W.mg_of X G ack1⟩
      · exact ⟨_, PySem.W.mg_of X G ack2⟩
      · exact ⟨_, PySem.W.mg_of X G ack3⟩
      · exact ⟨_, PySem.W.mg_of X G ack4⟩
      · exact ⟨_, PySem.W.mg_of X G ack5⟩
      · exact ⟨_, PySem.W.mg_of X G ack6⟩
      · exact ⟨_, PySem.W.mg_of X G ack7⟩
      · exact ⟨_, PySem.W.mg_of X G ack8⟩
      · exact ⟨_, PySem.W.mg_of X G ack9⟩
      · exact ⟨_, PySem.W.mg_of X G ack10⟩
      · exact ⟨_, PySem.W.mg_of X G ack11⟩
      · exact ⟨_, PySem.W.mg_of X G ack12⟩
      · exact ⟨_, PySem.W.mg_of X G ack13⟩
      · exact ⟨_, PySem.W.mg_of X G ack14⟩
      · exact ⟨_, PySem.W.mg_of X G ack15⟩
      · exact ⟨_, PySem.W.mg_of X G ack16⟩
      · exact ⟨_, PySem.W.mg_of X G ack17⟩
      · exact ⟨_, PySem.W.mg_of X G ack18⟩
      · exact ⟨_, PySem.W.mg_of X G ack19⟩
      · exact ⟨_, PySem.W.mg_of X G ack20⟩,
    PySem.W.mg_of X G afRP, PySem.W.mg_of X G afRT, PySem.W.mg_of X G afLV, PySem.W.mg_of X G afRV, PySem.W.mg_of X G afRF, PySem.W.mg_of X G afFL, PySem.W.mg_of X G afOL, PySem.W.mg_of X G afGL, PySem.W.mg_of X G afRL, PySem.W.mg_of X G afRA⟩
  have V8 : TP8 K mg CO CG aT aL aP aW aV aO aC aN aZ aM fAB fCW fSd fT2 fPW fFW fFw fOW fMW fGW fLW fAZ fBB fWL := by
    refine ⟨PySem.W.mg_of X G aaT, sqt_gen (us := [.str "or" aT0, .str "argent" aT1, .str "gules" aT2, .str "azure" aT3, .str "sable" aT4, .str "vert" aT5, .str "purpure" aT6, .str "ermine" aT7, .str "vair" aT8]) laT (.cons ⟨aT0, rfl⟩ (.cons ⟨aT1, rfl⟩ (.cons ⟨aT2, rfl⟩ (.cons ⟨aT3, rfl⟩ (.cons ⟨aT4, rfl⟩ (.cons ⟨aT5, rfl⟩ (.cons ⟨aT6, rfl⟩ (.cons ⟨aT7, rfl⟩ (.cons ⟨aT8, rfl⟩ (.nil)))))))))) (by show 9 ≤ 100; decide),
    PySem.W.mg_of X G aaL, sqt_gen (us := [.none, .str "wavy" aL1, .str "embattled" aL2, .str "indented" aL3, .str "engrailed" aL4, .str "invected" aL5]) laL (.cons rfl (.cons ⟨aL1, rfl⟩ (.cons ⟨aL2, rfl⟩ (.cons ⟨aL3, rfl⟩ (.cons ⟨aL4, rfl⟩ (.cons ⟨aL5, rfl⟩ (.nil))))))) (by show 6 ≤ 100; decide),
    PySem.W.mg_of X G aaP, sqt_gen (us := [.str "pale" aP0, .str "fess" aP1, .str "bend" aP2, .str "bend sinister" aP3, .str "chevron" aP4, .str "saltire" aP5]) laP (.cons ⟨aP0, rfl⟩ (.cons ⟨aP1, rfl⟩ (.cons ⟨aP2, rfl⟩ (.cons ⟨aP3, rfl⟩ (.cons ⟨aP4, rfl⟩ (.cons ⟨aP5, rfl⟩ (.nil))))))) (by show 6 ≤ 100; decide),
    PySem.W.mg_of X G aaW, sqt_gen (us := [.str "quarterly" aW0, .str "gyronny" aW1]) laW (.cons ⟨aW0, rfl⟩ (.cons ⟨aW1, rfl⟩ (.nil))) (by show 2 ≤ 100; decide),
    PySem.W.mg_of X G aaV, sqt_gen (us := [.str "barry" aV0, .str "paly" aV1, .str "bendy" aV2, .str "bendy sinister" aV3, .str "chevronny" aV4, .str "chequy" aV5, .str "lozengy" aV6]) laV (.cons ⟨aV0, rfl⟩ (.cons ⟨aV1, rfl⟩ (.cons ⟨aV2, rfl⟩ (.cons ⟨aV3, rfl⟩ (.cons ⟨aV4, rfl⟩ (.cons ⟨aV5, rfl⟩ (.cons ⟨aV6, rfl⟩ (.nil)))))))) (by show 7 ≤ 100; decide),
    PySem.W.mg_of X G aaO, sqt_gen (us := [.str "chief" aO0, .str "base" aO1, .str "pale" aO2, .str "fess" aO3, .str "bend" aO4, .str "bend sinister" aO5, .str "chevron" aO6, .str "cross" aO7, .str "saltire" aO8, .str "pile" aO9, .str "bordure" aO10, .str "canton" aO11, .str "quarter" aO12]) laO (.cons ⟨aO0, rfl⟩ (.cons ⟨aO1, rfl⟩ (.cons ⟨aO2, rfl⟩ (.cons ⟨aO3, rfl⟩ (.cons ⟨aO4, rfl⟩ (.cons ⟨aO5, rfl⟩ (.cons ⟨aO6, rfl⟩ (.cons ⟨aO7, rfl⟩ (.cons ⟨aO8, rfl⟩ (.cons ⟨aO9, rfl⟩ (.cons ⟨aO10, rfl⟩ (.cons ⟨aO11, rfl⟩ (.cons ⟨aO12, rfl⟩ (.nil)))))))))))))) (by show 13 ≤ 100; decide),
    PySem.W.mg_of X G aaC, sqt_gen (us := [.str "roundel" aC0, .str "annulet" aC1, .str "lozenge" aC2, .str "mascle" aC3, .str "fusil" aC4, .str "billet" aC5, .str "mullet" aC6, .str "crescent" aC7, .str "increscent" aC8, .str "crosslet" aC9, .str "saltorel" aC10, .str "escutcheon" aC11, .str "tower" aC12, .str "sword" aC13, .str "wheel" aC14, .str "arrow" aC15]) laC (.cons ⟨aC0, rfl⟩ (.cons ⟨aC1, rfl⟩ (.cons ⟨aC2, rfl⟩ (.cons ⟨aC3, rfl⟩ (.cons ⟨aC4, rfl⟩ (.cons ⟨aC5, rfl⟩ (.cons ⟨aC6, rfl⟩ (.cons ⟨aC7, rfl⟩ (.cons ⟨aC8, rfl⟩ (.cons ⟨aC9, rfl⟩ (.cons ⟨aC10, rfl⟩ (.cons ⟨aC11, rfl⟩ (.cons ⟨aC12, rfl⟩ (.cons ⟨aC13, rfl⟩ (.cons ⟨aC14, rfl⟩ (.cons ⟨aC15, rfl⟩ (.nil))))))))))))))))) (by show 16 ≤ 100; decide),
    PySem.W.mg_of X G aaN, sqt_gen (us := [.none, .none, .str "two" aN2, .str "three" aN3, .str "four" aN4, .str "five" aN5, .str "six" aN6, .str "seven" aN7, .str "eight" aN8, .str "nine" aN9, .str "ten" aN10]) laN (.cons rfl (.cons rfl (.cons ⟨aN2, rfl⟩ (.cons ⟨aN3, rfl⟩ (.cons ⟨aN4, rfl⟩ (.cons ⟨aN5, rfl⟩ (.cons ⟨aN6, rfl⟩ (.cons ⟨aN7, rfl⟩ (.cons ⟨aN8, rfl⟩ (.cons ⟨aN9, rfl⟩ (.cons ⟨aN10, rfl⟩ (.nil)))))))))))) (by show 11 ≤ 100; decide),
    PySem.W.mg_of X G aaZ, sqt_gen (us := [.none, .str "small" aZ1, .str "lesser" aZ2, .none, .str "great" aZ4]) laZ (.cons rfl (.cons ⟨aZ1, rfl⟩ (.cons ⟨aZ2, rfl⟩ (.cons rfl (.cons ⟨aZ4, rfl⟩ (.nil)))))) (by show 5 ≤ 100; decide),
    PySem.W.mg_of X G aaM, sqt_gen (us := [.none, .str "fess" aM1, .str "pale" aM2, .str "bend" aM3, .str "bend sinister" aM4, .str "chief" aM5, .str "base" aM6]) laM (.cons rfl (.cons ⟨aM1, rfl⟩ (.cons ⟨aM2, rfl⟩ (.cons ⟨aM3, rfl⟩ (.cons ⟨aM4, rfl⟩ (.cons ⟨aM5, rfl⟩ (.cons ⟨aM6, rfl⟩ (.nil)))))))) (by show 7 ≤ 100; decide),
    ⟨_, PySem.W.mg_of X G acctx⟩, PySem.W.mg_of X G afAB, PySem.W.mg_of X G afCW, PySem.W.mg_of X G afSd, PySem.W.mg_of X G afT2, PySem.W.mg_of X G afPW, PySem.W.mg_of X G afFW, PySem.W.mg_of X G afFw, PySem.W.mg_of X G afOW, PySem.W.mg_of X G afMW, PySem.W.mg_of X G afGW, PySem.W.mg_of X G afLW, PySem.W.mg_of X G afAZ, PySem.W.mg_of X G afBB, PySem.W.mg_of X G afWL,
    PySem.W.mg_none_of X G z_list, PySem.W.mg_none_of X G z_str, PySem.W.mg_none_of X G z_ord, PySem.W.mg_none_of X G z_isinstance,
    fun H z dz fs e => .ins e ⟨pgCO, hdCO, poCO, saCO⟩ haO hnO htkO hmO, fun H z dz fs e => .ins e ⟨pgCG, hdCG, poCG, saCG⟩ haG hnO htkO hmG, ?kO, ?kG⟩
    case kO => unfold PySem.W.kitOne; rw [if_pos (beq_self_eq_true _)]
    case kG =>
      unfold PySem.W.kitOne PySem.W.kitCls
      rw [if_neg (by rw [beq_iff_eq]; intro z; injection z with z; exact neGO z)]
      dsimp only
      rw [if_pos (by rw [Bool.and_eq_true]; exact ⟨icO, by rw [tyO]; rfl⟩)]
      exact subGO
  refine ⟨PySem.W.fnOf "print_of" "print_of" (defArgs sPr) (defBody sPr) (defScope sPr) .none fPrkV fPrdc fPrpm fPran fPrcd fPrct, fun s us hu => by obtain ⟨q0, rfl⟩ := ar1 hu; exact .of_eq rfl, fun base _ _ => ?_⟩
  · have GI : FnOk P w K mg base (CXx P w) 1 fE _ ["self", "place"] (spXI CE) := ok_xi FfE T
    have GR : FnOk P w K mg base (CXx P w) 1 fR _ ["self", "data"] (spRI CR) := ok_ri FfR T
    have GK : FnOk P w K mg base (CXx P w) 3 fTk _ ["self", "least", "most"] (spTake K CE CR) := ok_take FfTk T GI bfE
    have GW : FnOk P w K mg base (CXx P w) 4 fTr _ ["self", "rows"] (spRow K CE CR) := ok_row FfTr T GK bfTk
    have GO : FnOk P w K mg base (CXx P w) 5 fTo _ ["self", "first"] (spOther K CE CR) := ok_other FfTo T GI bfE GW bfTr
    have GE : FnOk P w K mg base (CXx P w) 3 fTe _ ["self"] (spEnd K CE CR) := ok_end FfTe T GI bfE
    have GFi : FnOk P w K mg base (CXx P w) 1 fF _ ["self", "kind", "way", "pieces", "line", "first", "second"] (spFI CF) := ok_fi FfF U.F
    have GOi : FnOk P w K mg base (CXx P w) 1 fO _ ["self", "ordinary", "line", "fill"] (spOI CO) := ok_oi FfO U.O
    have GGi : FnOk P w K mg base (CXx P w) 1 fG _ ["self", "charge", "how_many", "manner", "size", "fill"] (spGI CG) := ok_gi FfG U.G
    have GAi : FnOk P w K mg base (CXx P w) 1 fA _ ["self", "field", "layers"] (spAI CA) := ok_ai FfA U.A
    have g1 : FnOk P w K mg base (CXx P w) 5 fRP _ ["reader"] (spFd K CE CR CF plainB) := ok_rp FfRP T U GW bfTr GFi bfF
    have g2 : FnOk P w K mg base (CXx P w) 6 fRT _ ["reader"] (spFd K CE CR CF partedB) := ok_rt FfRT T U GW bfTr GO bfTo GFi bfF
    have gl : FnOk P w K mg base (CXx P w) 1 fLV _ ["way"] spLV := ok_lv FfLV U
    have g3 : FnOk P w K mg base (CXx P w) 6 fRV _ ["reader"] (spFd K CE CR CF variedB) := ok_rv FfRV T U GK bfTk GW bfTr GO bfTo GFi bfF gl bfLV kfLV
    have g4 : FnOk P w K mg base (CXx P w) 7 fRF _ ["reader"] (spFd K CE CR CF fieldAt) := ok_rf FfRF T U GK bfTk g1 bfRP kfRP g2 bfRT kfRT g3 bfRV kfRV
    have g5 : FnOk P w K mg base (CXx P w) 8 fFL _ ["reader", "arms_field"] (spFl K CE CR CF) := ok_fl FfFL T U GK bfTk g4 bfRF kfRF
    have g6 : FnOk P w K mg base (CXx P w) 9 fOL _ ["reader", "arms_field"] (spLy K CE CR CF CO CG ordB) := ok_ol FfOL T U GW bfTr g5 bfFL kfFL GOi bfO
    have g7 : FnOk P w K mg base (CXx P w) 9 fGL _ ["reader", "arms_field"] (spLy K CE CR CF CO CG groupB) := ok_gl FfGL T U GK bfTk GW bfTr g5 bfFL kfFL GGi bfG
    have g8 : FnOk P w K mg base (CXx P w) 10 fRL _ ["reader", "arms_field"] (spLy K CE CR CF CO CG layerAt) := ok_rl FfRL T U GK bfTk g6 bfOL kfOL g7 bfGL kfGL
    have g9 : FnOk P w K mg base (CXx P w) 11 fRA _ ["data"] (spRA K CE CR CF CO CG CA) := ok_ra FfRA T U GR bfR GK bfTk GE bfTe g4 bfRF kfRF g8 bfRL kfRL GAi bfA
    have w1 : FnOk P w K mg base (CXx P w) 1 fAB _ ["word"] spAB := ok_ab FfAB
    have w2 : FnOk P w K mg base (CXx P w) 1 fCW _ ["how_many"] spCW := ok_cw FfCW V8
    have w3 : FnOk P w K mg base (CXx P w) 1 fSd _ ["words"] spSd := ok_sd FfSd
    have w4 : FnOk P w K mg base (CXx P w) 1 fT2 _ ["field"] (spT2 CF) := ok_t2 FfT2 U V8
    have w5 : FnOk P w K mg base (CXx P w) 1 fPW _ ["way"] spPW := ok_pw FfPW T V8
    have w6 : FnOk P w K mg base (CXx P w) 2 fFW _ ["field"] (spFW CF) := ok_fw FfFW U V8 w3 bfSd kfSd w4 bfT2 kfT2 w5 bfPW kfPW
    have w7 : FnOk P w K mg base (CXx P w) 3 fFw _ ["fill"] (spFw CF) := ok_fillw FfFw V8 w6 bfFW kfFW
    have w8 : FnOk P w K mg base (CXx P w) 4 fOW _ ["layer"] (spOW CF CO CG) := ok_ow FfOW U V8 w3 bfSd kfSd w7 bfFw kfFw
    have w9 : FnOk P w K mg base (CXx P w) 1 fMW _ ["manner"] spMW := ok_mw FfMW V8
    have w10 : FnOk P w K mg base (CXx P w) 4 fGW _ ["group"] (spGW CF CO CG) := ok_gw FfGW U V8 w2 bfCW kfCW w3 bfSd kfSd w1 bfAB kfAB w9 bfMW kfMW w7 bfFw kfFw
    have w11 : FnOk P w K mg base (CXx P w) 5 fLW _ ["layer"] (spLW CF CO CG) := ok_lw FfLW U V8 w8 bfOW kfOW w10 bfGW kfGW
    have w12 : FnOk P w K mg base (CXx P w) 6 fAZ _ ["arms"] (spAZ CF CO CG CA) := ok_az FfAZ U V8 w6 bfFW kfFW w11 bfLW kfLW
    have w13 : FnOk P w K mg base (CXx P w) 7 fBB _ ["arms"] (spBB CF CO CG CA) := ok_bb FfBB V8 w12 bfAZ kfAZ
    have w14 : FnOk P w K mg base (CXx P w) 1 fWL _ ["data"] spWL := ok_wl FfWL T
    exact ok_pr FfPr T U V8 ⟨_, PySem.W.mg_of X G anwm⟩ g9 bfRA kfRA w13 bfBB kfBB w14 bfWL kfWL
end Pr8
open PySem PySem.W PyProof.Rows
set_option maxRecDepth 100000 in
set_option maxHeartbeats 0 in
theorem PySem.Challenge.cw_shieldwords_s08_print_of_holds : PySem.Challenge.rw_shieldwords_s08_print_of.Holds := by
  w_on; k_headS; (case hw => exact ⟨[.list []], by decide +kernel, by decide +kernel⟩)
  k_fillS
  refine L2.walk_specX (r := PySem.Challenge.rw_shieldwords_s08_print_of) (k := 12) (CX := fun w => L2.CXx PySem.Challenge.rw_shieldwords_s08_print_of.prog w) (ps := ["a"]) (sp := Pr8.spPr) (by decide +kernel) rfl rfl ⟨rfl, by decide, by decide⟩ (fun w h Y => PySem.W.kIn_of Y) ?F ?S ?C
  case F =>
    intro w mg fa h Y KX G hmg
    refine' Pr8.all_mk KX G hmg ?aCE ?lCE ?lNE ?oNE ?iNE ?n0NE ?n1NE ?n2NE ?n3NE ?pCE ?aCR ?pgCR ?hdCR ?poCR ?saCR ?mkCR ?kcCR ?noCR_data ?noCR_place ?aCF ?pgCF ?hdCF ?poCF ?saCF ?mkCF ?kcCF ?noCF_kind ?noCF_way ?noCF_pieces ?noCF_line ?noCF_first ?noCF_second ?aCO ?pgCO ?hdCO ?poCO ?saCO ?mkCO ?kcCO ?noCO_ordinary ?noCO_line ?noCO_fill ?aCG ?pgCG ?hdCG ?poCG ?saCG ?mkCG ?kcCG ?noCG_charge ?noCG_how_many ?noCG_manner ?noCG_size ?noCG_fill ?aCA ?pgCA ?hdCA ?poCA ?saCA ?mkCA ?kcCA ?noCA_field ?noCA_layers ?ifE ?lfE ?cfE ?kfE ?afR ?ifR ?lfR ?cfR ?kfR ?afTk ?ifTk ?lfTk ?cfTk ?kfTk ?afTr ?ifTr ?lfTr ?cfTr ?kfTr ?afTo ?ifTo ?lfTo ?cfTo ?kfTo ?afTe ?ifTe ?lfTe ?cfTe ?kfTe ?afF ?ifF ?lfF ?cfF ?kfF ?afO ?ifO ?lfO ?cfO ?kfO ?afG ?ifG ?lfG ?cfG ?kfG ?afA ?ifA ?lfA ?cfA ?kfA ?afRP ?ifRP ?lfRP ?cfRP ?kfRP ?afRT ?ifRT ?lfRT ?cfRT ?kfRT ?afLV ?ifLV ?lfLV ?cfLV ?kfLV ?afRV ?ifRV ?lfRV ?cfRV ?kfRV ?afRF ?ifRF ?lfRF ?cfRF ?kfRF ?afFL ?ifFL ?lfFL ?cfFL ?kfFL ?afOL ?ifOL ?lfOL ?cfOL ?kfOL ?afGL ?ifGL ?lfGL ?cfGL ?kfGL ?afRL ?ifRL ?lfRL ?cfRL ?kfRL ?afRA ?ifRA ?lfRA ?cfRA ?kfRA ?afAB ?ifAB ?lfAB ?cfAB ?kfAB ?afCW ?ifCW ?lfCW ?cfCW ?kfCW ?afSd ?ifSd ?lfSd ?cfSd ?kfSd ?afT2 ?ifT2 ?lfT2 ?cfT2 ?kfT2 ?afPW ?ifPW ?lfPW ?cfPW ?kfPW ?afFW ?ifFW ?lfFW ?cfFW ?kfFW ?afFw ?ifFw ?lfFw ?cfFw ?kfFw ?afOW ?ifOW ?lfOW ?cfOW ?kfOW ?afMW ?ifMW ?lfMW ?cfMW ?kfMW ?afGW ?ifGW ?lfGW ?cfGW ?kfGW ?afLW ?ifLW ?lfLW ?cfLW ?kfLW ?afAZ ?ifAZ ?lfAZ ?cfAZ ?kfAZ ?afBB ?ifBB ?lfBB ?cfBB ?kfBB ?afWL ?ifWL ?lfWL ?cfWL ?kfWL ?afPr ?ifPr ?lfPr ?cfPr ?kfPr ?at9 ?ack1 ?ack2 ?ack3 ?ack4 ?ack5 ?ack6 ?ack7 ?ack8 ?ack9 ?ack10 ?ack11 ?ack12 ?ack13 ?ack14 ?ack15 ?ack16 ?ack17 ?ack18 ?ack19 ?ack20 ?anwm ?aaT ?laT ?aaL ?laL ?aaP ?laP ?aaW ?laW ?aaV ?laV ?aaO ?laO ?aaC ?laC ?aaN ?laN ?aaZ ?laZ ?aaM ?laM ?z_ValueError ?z_len ?z_range ?z_list ?z_str ?z_ord ?z_isinstance ?neCF ?neCO ?neCG ?neCA ?neGO ?acctx ?haO ?haG ?hnO ?htkO ?hmO ?hmG ?icO ?tyO ?subGO
    (case aCE => k_is)
    (case lCE => k_is)
    (case lNE => k_is)
    (case oNE => first | rfl | decide +kernel)
    (case iNE => k_is)
    (case n0NE => k_is)
    (case n1NE => k_is)
    (case n2NE => k_is)
    (case n3NE => k_is)
    (case pCE => k_is)
    (case aCR => k_is)
    (case pgCR => k_is)
    (case hdCR => k_is)
    (case poCR => k_is)
    (case saCR => k_is)
    (case mkCR => k_is)
    (case kcCR => k_is)
    (case noCR_data => k_is)
    (case noCR_place => k_is)
    (case aCF => k_is)
    (case pgCF => k_is)
    (case hdCF => k_is)
    (case poCF => k_is)
    (case saCF => k_is)
    (case mkCF => k_is)
    (case kcCF => k_is)
    (case noCF_kind => k_is)
    (case noCF_way => k_is)
    (case noCF_pieces => k_is)
    (case noCF_line => k_is)
    (case noCF_first => k_is)
    (case noCF_second => k_is)
    (case aCO => k_is)
    (case pgCO => k_is)
    (case hdCO => k_is)
    (case poCO => k_is)
    (case saCO => k_is)
    (case mkCO => k_is)
    (case kcCO => k_is)
    (case noCO_ordinary => k_is)
    (case noCO_line => k_is)
    (case noCO_fill => k_is)
    (case aCG => k_is)
    (case pgCG => k_is)
    (case hdCG => k_is)
    (case poCG => k_is)
    (case saCG => k_is)
    (case mkCG => k_is)
    (case kcCG => k_is)
    (case noCG_charge => k_is)
    (case noCG_how_many => k_is)
    (case noCG_manner => k_is)
    (case noCG_size => k_is)
    (case noCG_fill => k_is)
    (case aCA => k_is)
    (case pgCA => k_is)
    (case hdCA => k_is)
    (case poCA => k_is)
    (case saCA => k_is)
    (case mkCA => k_is)
    (case kcCA => k_is)
    (case noCA_field => k_is)
    (case noCA_layers => k_is)
    (case ifE => k_is)
    (case lfE => k_is)
    (case cfE => k_is)
    (case kfE => k_is)
    (case afR => k_is)
    (case ifR => k_is)
    (case lfR => k_is)
    (case cfR => k_is)
    (case kfR => k_is)
    (case afTk => k_is)
    (case ifTk => k_is)
    (case lfTk => k_is)
    (case cfTk => k_is)
    (case kfTk => k_is)
    (case afTr => k_is)
    (case ifTr => k_is)
    (case lfTr => k_is)
    (case cfTr => k_is)
    (case kfTr => k_is)
    (case afTo => k_is)
    (case ifTo => k_is)
    (case lfTo => k_is)
    (case cfTo => k_is)
    (case kfTo => k_is)
    (case afTe => k_is)
    (case ifTe => k_is)
    (case lfTe => k_is)
    (case cfTe => k_is)
    (case kfTe => k_is)
    (case afF => k_is)
    (case ifF => k_is)
    (case lfF => k_is)
    (case cfF => k_is)
    (case kfF => k_is)
    (case afO => k_is)
    (case ifO => k_is)
    (case lfO => k_is)
    (case cfO => k_is)
    (case kfO => k_is)
    (case afG => k_is)
    (case ifG => k_is)
    (case lfG => k_is)
    (case cfG => k_is)
    (case kfG => k_is)
    (case afA => k_is)
    (case ifA => k_is)
    (case lfA => k_is)
    (case cfA => k_is)
    (case kfA => k_is)
    (case afRP => k_is)
    (case ifRP => k_is)
    (case lfRP => k_is)
    (case cfRP => k_is)
    (case kfRP => k_is)
    (case afRT => k_is)
    (case ifRT => k_is)
    (case lfRT => k_is)
    (case cfRT => k_is)
    (case kfRT => k_is)
    (case afLV => k_is)
    (case ifLV => k_is)
    (case lfLV => k_is)
    (case cfLV => k_is)
    (case kfLV => k_is)
    (case afRV => k_is)
    (case ifRV => k_is)
    (case lfRV => k_is)
    (case cfRV => k_is)
    (case kfRV => k_is)
    (case afRF => k_is)
    (case ifRF => k_is)
    (case lfRF => k_is)
    (case cfRF => k_is)
    (case kfRF => k_is)
    (case afFL => k_is)
    (case ifFL => k_is)
    (case lfFL => k_is)
    (case cfFL => k_is)
    (case kfFL => k_is)
    (case afOL => k_is)
    (case ifOL => k_is)
    (case lfOL => k_is)
    (case cfOL => k_is)
    (case kfOL => k_is)
    (case afGL => k_is)
    (case ifGL => k_is)
    (case lfGL => k_is)
    (case cfGL => k_is)
    (case kfGL => k_is)
    (case afRL => k_is)
    (case ifRL => k_is)
    (case lfRL => k_is)
    (case cfRL => k_is)
    (case kfRL => k_is)
    (case afRA => k_is)
    (case ifRA => k_is)
    (case lfRA => k_is)
    (case cfRA => k_is)
    (case kfRA => k_is)
    (case afAB => k_is)
    (case ifAB => k_is)
    (case lfAB => k_is)
    (case cfAB => k_is)
    (case kfAB => k_is)
    (case afCW => k_is)
    (case ifCW => k_is)
    (case lfCW => k_is)
    (case cfCW => k_is)
    (case kfCW => k_is)
    (case afSd => k_is)
    (case ifSd => k_is)
    (case lfSd => k_is)
    (case cfSd => k_is)
    (case kfSd => k_is)
    (case afT2 => k_is)
    (case ifT2 => k_is)
    (case lfT2 => k_is)
    (case cfT2 => k_is)
    (case kfT2 => k_is)
    (case afPW => k_is)
    (case ifPW => k_is)
    (case lfPW => k_is)
    (case cfPW => k_is)
    (case kfPW => k_is)
    (case afFW => k_is)
    (case ifFW => k_is)
    (case lfFW => k_is)
    (case cfFW => k_is)
    (case kfFW => k_is)
    (case afFw => k_is)
    (case ifFw => k_is)
    (case lfFw => k_is)
    (case cfFw => k_is)
    (case kfFw => k_is)
    (case afOW => k_is)
    (case ifOW => k_is)
    (case lfOW => k_is)
    (case cfOW => k_is)
    (case kfOW => k_is)
    (case afMW => k_is)
    (case ifMW => k_is)
    (case lfMW => k_is)
    (case cfMW => k_is)
    (case kfMW => k_is)
    (case afGW => k_is)
    (case ifGW => k_is)
    (case lfGW => k_is)
    (case cfGW => k_is)
    (case kfGW => k_is)
    (case afLW => k_is)
    (case ifLW => k_is)
    (case lfLW => k_is)
    (case cfLW => k_is)
    (case kfLW => k_is)
    (case afAZ => k_is)
    (case ifAZ => k_is)
    (case lfAZ => k_is)
    (case cfAZ => k_is)
    (case kfAZ => k_is)
    (case afBB => k_is)
    (case ifBB => k_is)
    (case lfBB => k_is)
    (case cfBB => k_is)
    (case kfBB => k_is)
    (case afWL => k_is)
    (case ifWL => k_is)
    (case lfWL => k_is)
    (case cfWL => k_is)
    (case kfWL => k_is)
    (case afPr => k_is)
    (case ifPr => k_is)
    (case lfPr => k_is)
    (case cfPr => k_is)
    (case kfPr => k_is)
    (case at9 => k_is)
    (case ack1 => k_is)
    (case ack2 => k_is)
    (case ack3 => k_is)
    (case ack4 => k_is)
    (case ack5 => k_is)
    (case ack6 => k_is)
    (case ack7 => k_is)
    (case ack8 => k_is)
    (case ack9 => k_is)
    (case ack10 => k_is)
    (case ack11 => k_is)
    (case ack12 => k_is)
    (case ack13 => k_is)
    (case ack14 => k_is)
    (case ack15 => k_is)
    (case ack16 => k_is)
    (case ack17 => k_is)
    (case ack18 => k_is)
    (case ack19 => k_is)
    (case ack20 => k_is)
    (case anwm => k_is)
    (case aaT => k_is)
    (case laT => k_is)
    (case aaL => k_is)
    (case laL => k_is)
    (case aaP => k_is)
    (case laP => k_is)
    (case aaW => k_is)
    (case laW => k_is)
    (case aaV => k_is)
    (case laV => k_is)
    (case aaO => k_is)
    (case laO => k_is)
    (case aaC => k_is)
    (case laC => k_is)
    (case aaN => k_is)
    (case laN => k_is)
    (case aaZ => k_is)
    (case laZ => k_is)
    (case aaM => k_is)
    (case laM => k_is)
    (case z_ValueError => k_is)
    (case z_len => k_is)
    (case z_range => k_is)
    (case z_list => k_is)
    (case z_str => k_is)
    (case z_ord => k_is)
    (case z_isinstance => k_is)
    (case neCF => decide)
    (case neCO => decide)
    (case neCG => decide)
    (case neCA => decide)
    (case neGO => decide)
    (case acctx => k_is)
    (case haO => k_is)
    (case haG => k_is)
    (case hnO => k_is)
    (case htkO => k_is)
    (case hmO => k_is)
    (case hmG => k_is)
    (case icO => k_is)
    (case tyO => k_is)
    (case subGO => k_is)
  case S =>
    intro K H xs a hO hwi hask hx
    cases hx with
    | cons h1 h2 =>
      cases h2
      cases h1 with
      | lst hs ha =>
        have e := L2.ints_dw a.1 _ ha
        subst e
        have q : ((Codec.inLen 0 300 a.1 && a.1.all (Codec.inInt 0 255)) && true) = true := hwi
        rw [Bool.and_eq_true, Bool.and_eq_true] at q
        refine ⟨_, a.1, rfl, fun x hx => Codec.inInt_iff.mp (List.all_eq_true.mp q.1.2 x hx), Pr8.SqF.of hs (fun ys z => ?_), fun H' p hp => .lst (L2.SqL.of hp) (L2.dw_ints _)⟩
        rcases hO _ with y | ⟨ob, u, y⟩ <;> (rw [y] at z; cases z)
  case C =>
    rintro w H s e s' ⟨x, C, d, H', rfl, nx, os, bare, un, hok, hx, hh, hE⟩
    exact hE
