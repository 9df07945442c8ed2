import PyProof.Rows.All
import Wide.All
import OpenK.AllK
import Wide.FinOn
import PyProof.EqAt
import PyProof.EqKinds
import PyProof.TupleCall
import KE.BitLaws
import KE.KDictSum
import PyProof.Rows.SortShellAny
import KE.OsGo
import Open.SpecLaws
import PyProof.DictUpdate
import KE.KDictOf
import PyProof.Rows.SeqMore
import PyProof.AutoSeq1
import PyWqajbx
import PySem.Challenge.RW_roofplans_s10_highest
set_option Elab.async false
set_option linter.all false
set_option maxRecDepth 100000
namespace L2
open PySem PySem.Spec PyProof.Rows
abbrev Key := Sum Int Str
def keyIs : Key → Value → Bool
  | .inl k, v => Value.isInt k v
  | .inr x, v => Value.isStrOf x v
def keyH (w : World) : Key → Int
  | .inl k => hashInt k
  | .inr x => hashStr w x
theorem keyIs_shape : ∀ {k : Key} {v : Value}, keyIs k v = true → (∃ i t, k = Sum.inl i ∧ v = Value.int i t) ∨ (∃ x t, k = Sum.inr x ∧ v = Value.str x t)
  | .inl i, v, h => by
    obtain ⟨t, e⟩ := Value.isInt_shape (k := i) (v := v) h
    exact .inl ⟨i, t, rfl, e⟩
  | .inr x, v, h => by
    obtain ⟨t, e⟩ := Value.isStrOf_shape (x := x) (v := v) h
    exact .inr ⟨x, t, rfl, e⟩
theorem keyIs_int (i : Int) (t : Tok) : keyIs (.inl i) (.int i t) = true := by simp [keyIs, Value.isInt]
theorem keyIs_str (x : Str) (t : Tok) : keyIs (.inr x) (.str x t) = true := by simp [keyIs, Value.isStrOf]
theorem key_ll (a b : Int) : decide ((Sum.inl a : Key) = Sum.inl b) = (a == b) := by
  by_cases e : a = b
  · subst e; simp
  · have h : ¬ (Sum.inl a : Key) = Sum.inl b := fun q => e (Sum.inl.inj q)
    rw [decide_eq_false h]
    exact (beq_eq_false_iff_ne.mpr e).symm
theorem key_rr (a b : Str) : decide ((Sum.inr a : Key) = Sum.inr b) = decide (a = b) := by
  by_cases e : a = b
  · subst e; simp
  · have h : ¬ (Sum.inr a : Key) = Sum.inr b := fun q => e (Sum.inr.inj q)
    rw [decide_eq_false h, decide_eq_false e]
theorem key_lr (a : Int) (b : Str) : decide ((Sum.inl a : Key) = Sum.inr b) = false := decide_eq_false (fun q => nomatch q)
theorem key_rl (a : Str) (b : Int) : decide ((Sum.inr a : Key) = Sum.inl b) = false := decide_eq_false (fun q => nomatch q)
def mixKind (prog : Program) (w : World) : PySem.KeyKind prog w Key where
  is := keyIs
  hash := keyH w
  inj := fun v a b ha hb => by
    rcases keyIs_shape ha with ⟨i, t, rfl, rfl⟩ | ⟨x, t, rfl, rfl⟩
    · rcases keyIs_shape hb with ⟨j, u, rfl, e⟩ | ⟨y, u, rfl, e⟩
      · injection e with e1 _; rw [e1]
      · exact nomatch e
    · rcases keyIs_shape hb with ⟨j, u, rfl, e⟩ | ⟨y, u, rfl, e⟩
      · exact nomatch e
      · injection e with e1 _; rw [e1]
  byValue := fun k v h => by
    rcases keyIs_shape h with ⟨i, t, rfl, rfl⟩ | ⟨x, t, rfl, rfl⟩ <;> rfl
  pyHash := fun hv h => by
    rcases keyIs_shape hv with ⟨i, t, rfl, rfl⟩ | ⟨x, t, rfl, rfl⟩
    · exact wpAny_pyHash_int h
    · exact wpAny_pyHash_str h
  eqBool := fun hu hv h => by
    rcases keyIs_shape hu with ⟨i, t, rfl, rfl⟩ | ⟨x, t, rfl, rfl⟩
    · rcases keyIs_shape hv with ⟨j, u, rfl, rfl⟩ | ⟨y, u, rfl, rfl⟩
      · rw [key_ll] at h; exact wpAny_eqBool_int h
      · rw [key_lr] at h; exact SeqAt.EqAt.int_str i t y u _ _ _ _ h
    · rcases keyIs_shape hv with ⟨j, u, rfl, rfl⟩ | ⟨y, u, rfl, rfl⟩
      · rw [key_rl] at h; exact SeqAt.EqAt.str_int x t j u _ _ _ _ h
      · rw [key_rr] at h; exact wpAny_eqBool_str h
  «strs» := fun k x t v h => by
    rcases keyIs_shape h with ⟨i, u, rfl, e⟩ | ⟨y, u, rfl, e⟩
    · exact nomatch e
    · injection e with e1 _
      subst e1
      cases v <;> rfl
theorem mixKind_int (prog : Program) (w : World) (i : Int) (t : Tok) : (mixKind prog w).is (.inl i) (.int i t) = true := keyIs_int i t
theorem mixKind_str (prog : Program) (w : World) (x : Str) (t : Tok) : (mixKind prog w).is (.inr x) (.str x t) = true := keyIs_str x t
end L2
namespace L2
open PySem PySem.Spec PyProof.Rows
inductive V where
  | non | bl (b : Bool) | int (i : Int) | str (x : Str) | byt (b : Array UInt8) | flt (b : UInt64) | ref (a : Addr) | ty (n : String)
  deriving DecidableEq
def RelV : V → Value → Prop
  | .non, u => u = Value.none
  | .bl b, u => u = Value.bool b
  | .int i, u => ∃ t, u = Value.int i t
  | .str x, u => ∃ t, u = Value.str x t
  | .byt b, u => ∃ t, u = Value.bytes b t
  | .flt b, u => ∃ t, u = Value.float b t
  | .ref a, u => u = Value.ref a
  | .ty n, u => u = Value.type n
abbrev Vals : List V → List Value → Prop := Paired RelV
theorem Vals.length {xs : List V} {us : List Value} (r : Vals xs us) : xs.length = us.length := Paired.length r
theorem Vals.get : ∀ {xs : List V} {us : List Value} {i : Nat} {x : V}, Vals xs us → xs[i]? = some x → ∃ u, us[i]? = some u ∧ RelV x u
  | _, _, _, _, .nil, e => by simp at e
  | _, _, 0, _, .cons r _, e => by simp at e; subst e; exact ⟨_, rfl, r⟩
  | _, _, i + 1, x, .cons _ t, e => by
    obtain ⟨u, h1, h2⟩ := Vals.get (i := i) (x := x) t (by simpa using e)
    exact ⟨u, by simpa using h1, h2⟩
theorem Vals.append : ∀ {xs ys : List V} {us ws : List Value}, Vals xs us → Vals ys ws → Vals (xs ++ ys) (us ++ ws)
  | _, _, _, _, .nil, s => s
  | _, _, _, _, .cons r t, s => .cons r (Vals.append t s)
def RelO : Option V → Option Value → Prop
  | some v, some u => RelV v u
  | none, none => True
  | _, _ => False
def KV {κ : Type} : List (κ × V) → List (κ × Value) → Prop := Paired fun (p : κ × V) (q : κ × Value) => p.1 = q.1 ∧ RelV p.2 q.2
def kV : Key → V
  | .inl i => .int i
  | .inr x => .str x
inductive HO where
  /-- a list -/
  | lst (xs : List V)
  /-- a tuple (never changes) -/
  | tup (xs : List V)
  /-- a dict whose keys are ints and texts; one whose keys are tuples of ints and texts (the empty one is both) -/
  | dK (kvs : List (Key × V)) | dT (kvs : List (List Key × V))
  /-- a set of ints: its members, its size -/
  | set (S : Int → Bool) (n : Nat)
  /-- an instance of the class at C, its dict at dx, its attributes -/
  | ins (C dx : Addr) (fs : List (Str × V))
  /-- the dict of the instance at x -/
  | own (x : Addr)
  /-- the dict of an exception -/
  | xd (fs : List (Str × V))
  /-- a bound method, f of x -/
  | met (f x : Addr)
  /-- a range object lo, lo + 1, .. below hi -/
  | rng (lo hi : Int)
  /-- a thing that is known to the object (the script; a dict while a loop walks it): read, never written while it is so -/
  | frz (o : Obj) (u : HO)
  /-- a code object's table -/
  | tbl (ps : Array Value)
  /-- any other thing, by what is true of its one object (a def of one's own: SetO a S n := HO.ext fun h => ..) -/
  | ext (φ : Heap → Prop)
abbrev Hp := Addr → Option HO
def upd (H : Hp) (a : Addr) (o : HO) : Hp := fun b => if b = a then some o else H b
theorem upd_same {H : Hp} {a : Addr} {o : HO} : upd H a o a = some o := by unfold upd; rw [if_pos rfl]
theorem upd_ne {H : Hp} {a b : Addr} {o : HO} (h : b ≠ a) : upd H a o b = H b := by unfold upd; rw [if_neg h]
theorem upd_upd {H : Hp} {a : Addr} {o u : HO} : upd (upd H a o) a u = upd H a u := by
  funext b; unfold upd; split <;> rfl
theorem ne_of {H : Hp} {a b : Addr} {o u : HO} (h : H a = some o) (h' : H b = some u) (d : o ≠ u) : a ≠ b := by
  intro e; subst e; rw [h] at h'; exact d (Option.some.inj h')
theorem ne_of_none {H : Hp} {a b : Addr} {o : HO} (h : H a = some o) (h' : H b = none) : a ≠ b := by
  intro e; subst e; rw [h] at h'; cases h'
section
variable (P : Program) (w : World)
def ObjOk (H : Hp) (h : Heap) (a : Addr) : HO → Prop
  | .lst xs => xs.length ≤ sizeLine ∧ ∃ (its : List Value) (n : Nat), Vals xs its ∧ h.get? a = some { cls := .type "list", data := .seq its.toArray n }
  | .tup xs => xs.length ≤ sizeLine ∧ ∃ its : List Value, Vals xs its ∧ IsTup h a its.toArray
  | .dK kvs => kvs.length ≤ sizeLine ∧ (a == sysModules) = false ∧ ∃ vs, KV kvs vs ∧ h.DictOf (mixKind P w) a vs
  | .dT kvs => kvs.length ≤ sizeLine ∧ (a == sysModules) = false ∧ ∃ xs : List (List Key × Addr × Value),
      Paired (fun (p : List Key × V) (q : List Key × Addr × Value) => p.1 = q.1 ∧ H q.2.1 = some (.tup (p.1.map kV)) ∧ RelV p.2 q.2.2) kvs xs ∧
      ∃ o es ep, h.get? a = some o ∧ o.ExactDict ∧ o.data = .dict es ep ∧ es.toList = xs.map (entryOfKey (tupleKind (mixKind P w))) ∧ (xs.map (·.1)).Nodup
  | .set S n => h.SetOf (intKind P w) a S n
  | .ins C dx fs => H dx = some (.own a) ∧ fs.length ≤ 1000 ∧ dx ≠ a ∧ h.get? a = some (PySem.W.instObj C dx) ∧
      ∃ mA, h.Ns1 dx mA ∧ (∀ f, RelO (fs.lookup f) (mA f)) ∧ PySem.Within mA (fs.map (·.1))
  | .own _ => ∃ o, h.get? a = some o
  | .xd fs => ∃ mA, h.Ns1 a mA ∧ ∀ f, RelO (fs.lookup f) (mA f)
  | .rng lo hi => ∃ t u v, h.get? a = some { cls := .type "range", data := .fields #[.int lo t, .int hi u, .int 1 v] }
  | .frz o u => h.get? a = some o ∧ ObjOk H h a u
  | .tbl ps => h.get? a = some { cls := .none, data := .fields ps }
  | .met f x => h.get? a = some (PySem.W.methodObj (.ref f) (.ref x))
  | .ext φ => φ h ∧ (∃ o, h.get? a = some o) ∧ ∀ h1 h2 : Heap, φ h1 → (∀ o, h1.get? a = some o → h2.get? a = some o) → φ h2
def HOk (H : Hp) (h : Heap) : Prop := ∀ a o, H a = some o → ObjOk P w H h a o
end
section
variable {P : Program} {w : World} {H H' : Hp} {h h' : Heap} {a : Addr} {o : HO}
theorem ObjOk.lt (x : ObjOk P w H h a o) : a < h.objs.size := by
  cases o with
  | lst xs => obtain ⟨_, _, _, _, e⟩ := x; exact Heap.lt_size e
  | tup xs => obtain ⟨_, _, _, p⟩ := x; exact p.lt
  | dK kvs => obtain ⟨_, _, _, _, o, _, _, e, _⟩ := x; exact Heap.lt_size e
  | dT kvs => obtain ⟨_, _, _, _, o, _, _, e, _⟩ := x; exact Heap.lt_size e
  | set S n => obtain ⟨o, _, _, _, e, _⟩ := x; exact Heap.lt_size e
  | ins C dx fs => obtain ⟨_, _, _, e, _⟩ := x; exact Heap.lt_size e
  | own y => obtain ⟨_, e⟩ := x; exact Heap.lt_size e
  | xd fs => obtain ⟨_, ⟨_, _, _, e, _⟩, _⟩ := x; exact Heap.lt_size e
  | rng lo hi => obtain ⟨_, _, _, e⟩ := x; exact Heap.lt_size e
  | frz ob u => obtain ⟨e, _⟩ := x; exact Heap.lt_size e
  | tbl ps => exact Heap.lt_size (show h.get? a = some _ from x)
  | met f y => exact Heap.lt_size (show h.get? a = some _ from x)
  | ext φ => obtain ⟨_, ⟨_, e⟩, _⟩ := x; exact Heap.lt_size e
theorem Paired.mapP {α β : Type} {F G : α → β → Prop} : ∀ {l₁ : List α} {l₂ : List β}, Paired F l₁ l₂ → (∀ a b, F a b → G a b) → Paired G l₁ l₂
  | _, _, .nil, _ => .nil
  | _, _, .cons r t, f => .cons (f _ _ r) (Paired.mapP t f)
theorem ObjOk.stay (x : ObjOk P w H h a o) (k : ∀ b u, (b = a ∨ H b = some (.own a)) → h.get? b = some u → h'.get? b = some u)
    (ho : ∀ b, H b = some (.own a) → H' b = some (.own a)) (ht : ∀ b xs, H b = some (.tup xs) → H' b = some (.tup xs)) : ObjOk P w H' h' a o := by
  induction o with
  | lst xs => obtain ⟨z, its, n, r, e⟩ := x; exact ⟨z, its, n, r, k _ _ (.inl rfl) e⟩
  | tup xs => obtain ⟨z, its, r, ob, e, c⟩ := x; exact ⟨z, its, r, ob, k _ _ (.inl rfl) e, c⟩
  | dK kvs => obtain ⟨z, y, vs, r, ob, es, ep, e, c⟩ := x; exact ⟨z, y, vs, r, ob, es, ep, k _ _ (.inl rfl) e, c⟩
  | dT kvs =>
    obtain ⟨z, y, xs, r, ob, es, ep, e, c⟩ := x
    exact ⟨z, y, xs, Paired.mapP r fun p q z => ⟨z.1, ht _ _ z.2.1, z.2.2⟩, ob, es, ep, k _ _ (.inl rfl) e, c⟩
  | set S n => obtain ⟨ob, es, ep, t, e, c⟩ := x; exact ⟨ob, es, ep, t, k _ _ (.inl rfl) e, c⟩
  | ins C dx fs =>
    obtain ⟨d, z, ne, e, mA, ⟨od, es, ep, e2, c⟩, r⟩ := x
    exact ⟨ho _ d, z, ne, k _ _ (.inl rfl) e, mA, ⟨od, es, ep, k _ _ (.inr d) e2, c⟩, r⟩
  | own y => obtain ⟨ob, e⟩ := x; exact ⟨ob, k _ _ (.inl rfl) e⟩
  | xd fs => obtain ⟨mA, ⟨od, es, ep, e, c⟩, r⟩ := x; exact ⟨mA, ⟨od, es, ep, k _ _ (.inl rfl) e, c⟩, r⟩
  | rng lo hi => obtain ⟨t, u, v, e⟩ := x; exact ⟨t, u, v, k _ _ (.inl rfl) e⟩
  | frz ob u ih => obtain ⟨e, q⟩ := x; exact ⟨k _ _ (.inl rfl) e, ih q⟩
  | tbl ps =>
    have e : h.get? a = some { cls := .none, data := .fields ps } := x
    show h'.get? a = some { cls := .none, data := .fields ps }
    exact k a _ (.inl rfl) e
  | met f y =>
    have e : h.get? a = some (PySem.W.methodObj (.ref f) (.ref y)) := x
    show h'.get? a = some (PySem.W.methodObj (.ref f) (.ref y))
    exact k a _ (.inl rfl) e
  | ext φ => obtain ⟨p, ⟨o, e⟩, st⟩ := x; exact ⟨st _ _ p fun o q => k _ _ (.inl rfl) q, ⟨o, k _ _ (.inl rfl) e⟩, st⟩
theorem HOk.lt (x : HOk P w H h) (e : H a = some o) : a < h.objs.size := (x a o e).lt
theorem HOk.fresh (x : HOk P w H h) (e : h.objs.size ≤ a) : H a = none := by
  cases q : H a with
  | none => rfl
  | some u => exact absurd (Nat.lt_of_lt_of_le (x.lt q) e) (Nat.lt_irrefl _)
theorem HOk.kept (x : HOk P w H h) (k : ∀ b u, h.get? b = some u → h'.get? b = some u) : HOk P w H h' := fun a o e =>
  (x a o e).stay (fun b u _ q => k b u q) (fun _ q => q) fun _ _ q => q
theorem HOk.laid (x : HOk P w H h) (k : ∀ b u, h.get? b = some u → h'.get? b = some u) (hp : h.objs.size ≤ a) (new : ObjOk P w (upd H a o) h' a o) : HOk P w (upd H a o) h' := fun b u e => by
  have hn := x.fresh hp
  by_cases hb : b = a
  · subst hb; rw [upd_same] at e; cases e; exact new
  · rw [upd_ne hb] at e
    exact (x b u e).stay (fun c v _ q => k c v q) (fun c q => by rw [upd_ne (ne_of_none q hn)]; exact q) fun c xs q => by rw [upd_ne (ne_of_none q hn)]; exact q
end
def Rd (H : Hp) (a : Addr) (u : HO) : Prop := H a = some u ∨ ∃ o, H a = some (.frz o u)
theorem Rd.ok {P : Program} {w : World} {H : Hp} {h : Heap} {a : Addr} {u : HO} (r : Rd H a u) (x : HOk P w H h) : ObjOk P w H h a u := by
  rcases r with r | ⟨o, r⟩
  · exact x a u r
  · obtain ⟨_, q⟩ := x a _ r
    exact q
def Mut : Option HO → Prop
  | some (.lst _) => True
  | some (.dK _) => True
  | some (.dT _) => True
  | some (.set _ _) => True
  | some (.ins _ _ _) => True
  | some (.ext _) => True
  | _ => False
section
variable {P : Program} {w : World} {H : Hp} {h h' : Heap} {x e : Addr} {o' : HO}
theorem HOk.write (ok : HOk P w H h) (mu : Mut (H x)) (he : e = x ∨ H e = some (.own x)) (k : ∀ b u, b ≠ e → h.get? b = some u → h'.get? b = some u) (heo : ∃ u, h'.get? e = some u)
    (new : ObjOk P w (upd H x o') h' x o') : HOk P w (upd H x o') h' := fun b u q => by
  have nown : ∀ c y, H c = some (.own y) → c ≠ x := fun c y r z => by subst z; rw [r] at mu; exact mu
  have ntup : ∀ c xs, H c = some (.tup xs) → c ≠ x := fun c xs r z => by subst z; rw [r] at mu; exact mu
  by_cases hb : b = x
  · subst hb; rw [upd_same] at q; cases q; exact new
  · rw [upd_ne hb] at q
    by_cases hbe : b = e
    · have q' : H b = some (.own x) := by
        rcases he with z | z
        · exact absurd (hbe.trans z) hb
        · rw [hbe]; exact z
      rw [q] at q'; cases q'
      obtain ⟨v, hv⟩ := heo
      exact ⟨v, by rw [hbe]; exact hv⟩
    · refine (ok b u q).stay (fun c v hc r => k c v ?_ r) (fun c r => by rw [upd_ne (nown c b r)]; exact r) fun c xs r => by rw [upd_ne (ntup c xs r)]; exact r
      rcases hc with rfl | hc
      · exact hbe
      · rintro rfl
        rcases he with z | z
        · exact nown c b hc z
        · rw [hc] at z; cases z; exact hb rfl
end
structure Un (fs ex : List Addr) (H H' : Hp) (h h' : Heap) : Prop where
  keep : ∀ b o, h.get? b = some o → H b = none → b ∉ fs → b ∉ ex → h'.get? b = some o
  slot : ∀ b o, h.get? b = some o → H b = none → b ∈ fs → b ∉ ex → ∃ sl, h'.get? b = some { o with slots := sl }
  free : ∀ b o, h.get? b = some o → H b = none → b ∉ ex → H' b = none
  there : ∀ b o, h.get? b = some o → b ∉ ex → ∃ o', h'.get? b = some o'
  tups : ∀ b xs, H b = some (.tup xs) → H' b = some (.tup xs)
  frzs : ∀ b o u, H b = some (.frz o u) → H' b = some (.frz o u)
  tbls : ∀ b ps, H b = some (.tbl ps) → ∃ more, H' b = some (.tbl (ps ++ more))
section
variable {fs fs' ex ex' : List Addr} {H H1 H2 : Hp} {h h1 h2 h' : Heap} {a x e : Addr} {o : HO}
theorem Un.any (u : Un fs ex H H1 h h1) {b : Addr} {ob : Obj} (q : h.get? b = some ob) (n : H b = none) (hx : b ∉ ex) : ∃ sl, h1.get? b = some { ob with slots := sl } := by
  by_cases hb : b ∈ fs
  · exact u.slot b ob q n hb hx
  · exact ⟨ob.slots, u.keep b ob q n hb hx⟩
theorem Un.kept (k : ∀ b u, h.get? b = some u → h'.get? b = some u) : Un fs ex H H h h' :=
  ⟨fun b ob q _ _ _ => k b ob q, fun b ob q _ _ _ => ⟨ob.slots, k b ob q⟩, fun _ _ _ n _ => n, fun b ob q _ => ⟨ob, k b ob q⟩, fun _ _ q => q, fun _ _ _ q => q, fun _ ps q => ⟨#[], by rw [q]; simp⟩⟩
theorem Un.refl : Un fs ex H H h h := Un.kept fun _ _ q => q
theorem Un.laid (k : ∀ b u, h.get? b = some u → h'.get? b = some u) (hp : h.objs.size ≤ a) (hn : H a = none) : Un fs ex H (upd H a o) h h' where
  keep := fun b u q _ _ _ => k b u q
  slot := fun b u q _ _ _ => ⟨u.slots, k b u q⟩
  free := fun b u q n _ => by rw [upd_ne (Nat.ne_of_lt (Nat.lt_of_lt_of_le (Heap.lt_size q) hp))]; exact n
  there := fun b u q _ => ⟨u, k b u q⟩
  tups := fun b xs q => by rw [upd_ne (ne_of_none q hn)]; exact q
  frzs := fun b u xs q => by rw [upd_ne (ne_of_none q hn)]; exact q
  tbls := fun b ps q => ⟨#[], by rw [upd_ne (ne_of_none q hn), q]; simp⟩
theorem Un.write (mu : Mut (H x)) (he : e = x ∨ H e = some (.own x)) (k : ∀ b u, b ≠ e → h.get? b = some u → h'.get? b = some u) (heo : ∃ u, h'.get? e = some u) : Un fs ex H (upd H x o) h h' := by
  have hx : ∀ b, H b = none → b ≠ x := fun b n z => by subst z; rw [n] at mu; exact mu
  have hb : ∀ b, H b = none → b ≠ e := fun b n z => by
    subst z
    rcases he with r | r
    · exact hx b n r
    · rw [n] at r; cases r
  have hm : ∀ b u, H b = some u → ¬ Mut (some u) → b ≠ x := fun b u q nm z => by subst z; rw [q] at mu; exact nm mu
  refine ⟨fun b u q n _ _ => k b u (hb b n) q, fun b u q n _ _ => ⟨u.slots, k b u (hb b n) q⟩, fun b u q n _ => by rw [upd_ne (hx b n)]; exact n, fun b u q _ => ?_,
    fun b xs q => by rw [upd_ne (hm b _ q fun z => z)]; exact q, fun b u xs q => by rw [upd_ne (hm b _ q fun z => z)]; exact q, fun b ps q => ⟨#[], by rw [upd_ne (hm b _ q fun z => z), q]; simp⟩⟩
  by_cases hbe : b = e
  · subst hbe; exact heo
  · exact ⟨u, k b u hbe q⟩
end
def trk (h : Heap) (H : Hp) : List Addr := (List.range h.objs.size).filter fun a => (H a).isSome
def hidT (h : Heap) (H : Hp) : Heap := PySem.W.hideAll h (trk h H)
theorem hidT_size (h : Heap) (H : Hp) : (hidT h H).objs.size = h.objs.size := PySem.W.hideAll_size _ _
theorem hidT_get {h : Heap} {H : Hp} {b : Addr} {o : Obj} (e : h.get? b = some o) (n : H b = none) : (hidT h H).get? b = some o :=
  PySem.W.hideAll_get _ e fun hm => by
    have q : (H b).isSome = true := (List.mem_filter.mp hm).2
    rw [n] at q; simp at q
theorem of_hidT {h : Heap} {H : Hp} {b : Addr} {o : Obj} (e : (hidT h H).get? b = some o) : h.get? b = some o ∧ H b = none := by
  have e' : h.get? b = some o := PySem.W.of_hideAll (trk h H) e
  refine ⟨e', ?_⟩
  cases q : H b with
  | none => rfl
  | some x =>
    have hm : b ∈ trk h H := List.mem_filter.mpr ⟨List.mem_range.mpr (Heap.lt_size e'), by simp [q]⟩
    have z : (hidT h H).get? b = none := PySem.W.hideAll_none (trk h H) hm
    rw [z] at e; cases e
end L2
namespace L2
open PySem PySem.Spec PyProof.Rows
structure Mod (K : PySem.W.Frag) (mg : Str → Option Value) (base : Heap) : Prop where
  kin : K.In base
  glob : base.Ns mainGlobals mg
  blt : ∃ mb, base.Ns builtinsNs mb ∧ ∀ x : Str, x ≠ "__name__" → mb x = bootBuiltins x
  nolimit : base.NoLimit
structure Cx where
  prog : Program
  w : World
  K : PySem.W.Frag
  mg : Str → Option Value
  base : Heap
  A : Around
  N : List Str
  s_0 : Shared
  H_0 : Hp
  env : Env
  outer : List Env
  stack : List Env
  ex : List Addr
  fn : Str → Bool
  calm : Bool
  pn : List (Addr × Obj)
  xe : Value → Shared → Prop
def frs (l : List Env) : List Addr := l.filterMap (·.frame)
abbrev Cx.fs (X : Cx) : List Addr := frs X.outer
def Vis (sc : Scope) (x : Str) : Prop := sc.names.lookup x = some .local ∨ sc.names.lookup x = some .cell ∨ sc.names.lookup x = some .free
def Loc (sc : Scope) (x : Str) : Prop := sc.names.lookup x = some .local ∨ sc.names.lookup x = some .cell
def Look (env : Env) (h : Heap) (m : Str → Option Value) (x : Str) (u : Value) : Prop :=
  (env.kindOf x = some .local ∧ m x = some u) ∨ ((env.kindOf x = some .cell ∨ env.kindOf x = some .free) ∧ ∃ c, env.cells.lookup x = some c ∧ h.IsCell c (some u))
structure Cx.Ok (X : Cx) : Prop where
  mod : Mod X.K X.mg X.base
  kind : X.env.scope.kind = .function
  glob : X.env.globals = mainGlobals
  blt : X.env.builtins = builtinsNs
  above : X.s_0.heap.objs.size ≤ X.env.locals
  inj : ∀ x y c, X.env.cells.lookup x = some c → X.env.cells.lookup y = some c → x = y
  has : ∀ x, (X.env.kindOf x = some .cell ∨ X.env.kindOf x = some .free) → ∃ c, X.env.cells.lookup x = some c
  cab : ∀ x c, X.fn x = true → X.env.cells.lookup x = some c → X.s_0.heap.objs.size ≤ c
  hd : X.calm = true → X.A.handled = none
  frames : X.A.frames = some X.stack
  stk : X.stack = X.outer ∨ (X.stack = X.env :: X.outer ∧ X.env.frame = some X.env.locals)
  exf : ∀ b ∈ X.ex, b ≠ X.env.locals ∧ ∀ x c, X.env.cells.lookup x = some c → c ≠ b
  bs : ∀ b o, X.base.get? b = some o → X.s_0.heap.get? b = some o ∧ X.H_0 b = none
  bsz : X.base.objs.size ≤ X.s_0.heap.objs.size
  noex : ∀ b o, X.base.get? b = some o → b ∉ X.ex
  exfs : ∀ b ∈ X.ex, b ∉ X.fs
  funs : X.s_0.heap.FunFrames X.base X.outer
  frf : ∀ b ∈ X.fs, X.H_0 b = none
structure Inv (X : Cx) (pins : List (Addr × Obj)) (σ : List (Option V)) (H : Hp) (s : Shared) : Prop where
  ok : X.Ok
  os : s.os = X.s_0.os
  bare : AllBare s.gens
  base : Un X.fs X.ex X.H_0 H X.s_0.heap s.heap
  loc : ∃ m, s.heap.Ns X.env.locals m ∧ ∀ (i : Nat) (x : Str) (v : V), X.N[i]? = some x → σ[i]? = some (some v) → Vis X.env.scope x → ∃ u, RelV v u ∧ Look X.env s.heap m x u
  cell : ∀ x c, X.env.cells.lookup x = some c → ∃ v, s.heap.IsCell c v
  free : H X.env.locals = none
  freeC : ∀ x c, X.env.cells.lookup x = some c → H c = none
  pin : ∀ p ∈ X.pn ++ pins, s.heap.get? p.1 = some p.2 ∧ H p.1 = none ∧ p.1 ≠ X.env.locals ∧ p.1 ∉ X.fs ∧ ∀ v, p.2.data ≠ .cell v
  hok : HOk X.prog X.w H s.heap
  len : σ.length = X.N.length
section
variable {X : Cx} {pins : List (Addr × Obj)} {σ : List (Option V)} {H H' : Hp} {s : Shared} {h' : Heap}
theorem Cx.Ok.nofr (ok : X.Ok) {b : Addr} {o : Obj} (e : X.base.get? b = some o) : b ∉ X.fs := fun hb => by
  have := (ok.funs.mem hb).1
  rw [e] at this; cases this
theorem Inv.bs (I : Inv X pins σ H s) : ∀ b o, X.base.get? b = some o → s.heap.get? b = some o ∧ H b = none := fun b o e =>
  ⟨I.base.keep b o (I.ok.bs b o e).1 (I.ok.bs b o e).2 (I.ok.nofr e) (I.ok.noex b o e), I.base.free b o (I.ok.bs b o e).1 (I.ok.bs b o e).2 (I.ok.noex b o e)⟩
theorem Inv.bk (I : Inv X pins σ H s) : ∀ b o, X.base.get? b = some o → s.heap.get? b = some o := fun b o e => (I.bs b o e).1
theorem Inv.mod (I : Inv X pins σ H s) : Mod X.K X.mg X.base := I.ok.mod
theorem Inv.kIn (I : Inv X pins σ H s) : X.K.In s.heap := I.ok.mod.kin.keeps I.bk
theorem Inv.nolimit (I : Inv X pins σ H s) : s.heap.NoLimit := I.ok.mod.nolimit.keeps I.bk
theorem Inv.lt (I : Inv X pins σ H s) : X.env.locals < s.heap.objs.size := let ⟨_, hn, _⟩ := I.loc; hn.lt
theorem Inv.sz (I : Inv X pins σ H s) : X.s_0.heap.objs.size ≤ s.heap.objs.size := Nat.le_trans I.ok.above (Nat.le_of_lt I.lt)
theorem Inv.nofs (I : Inv X pins σ H s) {a : Addr} (h : s.heap.objs.size ≤ a) : a ∉ X.fs := fun hb => by
  obtain ⟨_, o, ho, _⟩ := I.ok.funs.mem hb
  exact absurd (Nat.lt_of_lt_of_le (Heap.lt_size ho) (Nat.le_trans I.sz h)) (Nat.lt_irrefl _)
theorem Inv.cne (I : Inv X pins σ H s) : ∀ x c, X.env.cells.lookup x = some c → c ≠ X.env.locals := fun x c e z => by
  obtain ⟨v, o, ho, hd⟩ := I.cell x c e
  obtain ⟨m, ⟨o', es, ep, ho', hd', _⟩, _⟩ := I.loc
  rw [z, ho'] at ho; cases ho; rw [hd'] at hd; cases hd
theorem Inv.funs (I : Inv X pins σ H s) : s.heap.FunFrames X.base X.outer := by
  have all : ∀ (l : List Env), (∀ b ∈ frs l, b ∈ X.fs) → X.s_0.heap.FunFrames X.base l → s.heap.FunFrames X.base l := by
    intro l
    induction l with
    | nil => intro _ _; trivial
    | cons env r ih =>
      intro hs hl
      obtain ⟨hk, ⟨L, o, hf, hn, ho, hd⟩, hr⟩ := hl
      have hL : L ∈ X.fs := hs L (by unfold frs; rw [List.filterMap_cons, hf]; exact List.mem_cons_self)
      obtain ⟨sl, e⟩ := I.base.slot L o ho (I.ok.frf L hL) hL fun z => I.ok.exfs L z hL
      exact ⟨hk, ⟨L, _, hf, hn, e, hd⟩, ih (fun b hb => hs b (by unfold frs; rw [List.filterMap_cons, hf]; exact List.mem_cons_of_mem _ hb)) hr⟩
  exact all X.outer (fun _ hb => hb) I.ok.funs
theorem Inv.stack (I : Inv X pins σ H s) : s.heap.FunFrames X.base X.stack := by
  rcases I.ok.stk with e | ⟨e, hf⟩
  · rw [e]; exact I.funs
  · rw [e]
    obtain ⟨m, hn, _⟩ := I.loc
    refine .cons (by rw [I.ok.kind]; decide) hf hn ?_ I.funs
    exact Heap.get?_none_of_le (Nat.le_trans I.ok.bsz I.ok.above)
theorem Inv.stkSub (I : Inv X pins σ H s) : ∀ b ∈ frs X.stack, b ∈ X.env.locals :: X.fs := fun b hb => by
  rcases I.ok.stk with e | ⟨e, hf⟩
  · rw [e] at hb; exact List.mem_cons_of_mem _ hb
  · rw [e] at hb
    unfold frs at hb
    rw [List.filterMap_cons, hf] at hb
    exact hb
theorem Inv.stkFree (I : Inv X pins σ H s) : ∀ b ∈ frs X.stack, H b = none := fun b hb => by
  rcases List.mem_cons.mp (I.stkSub b hb) with e | hb
  · rw [e]; exact I.free
  · obtain ⟨_, o, ho, _⟩ := I.ok.funs.mem hb
    exact I.base.free b o ho (I.ok.frf b hb) fun z => I.ok.exfs b z hb
theorem Inv.step {g' : Array GenState} {t' : Nat} {d' : Drawn} {ch : List Addr} (I : Inv X pins σ H s)
    (hch : ∀ b ∈ ch, (b ∈ X.ex ∨ X.s_0.heap.objs.size ≤ b) ∧ b ≠ X.env.locals ∧ (∀ x c, X.env.cells.lookup x = some c → c ≠ b) ∧ ∀ p ∈ X.pn ++ pins, p.1 ≠ b)
    (keep : ∀ b o, b ≠ X.env.locals → b ∉ X.fs → b ∉ ch → s.heap.get? b = some o → H b = none → h'.get? b = some o)
    (slot : ∀ b o, b ≠ X.env.locals → b ∈ X.fs → b ∉ ch → s.heap.get? b = some o → H b = none → ∃ sl, h'.get? b = some { o with slots := sl }) (free : ∀ b o, b ∉ ch → s.heap.get? b = some o → H b = none → H' b = none)
    (there : ∀ b o, b ∉ ch → s.heap.get? b = some o → ∃ o', h'.get? b = some o')
    (tups : ∀ b xs, H b = some (.tup xs) → H' b = some (.tup xs)) (frzs : ∀ b o u, H b = some (.frz o u) → H' b = some (.frz o u)) (tbls : ∀ b ps, H b = some (.tbl ps) → ∃ more, H' b = some (.tbl (ps ++ more)))
    (ns : ∀ m, s.heap.Ns X.env.locals m → h'.Ns X.env.locals m) (hok : HOk X.prog X.w H' h') (hg : AllBare g') :
    Inv X pins σ H' { s with heap := h', gens := g', drawn := d', toks := t' } := by
  have neL : ∀ b o, X.s_0.heap.get? b = some o → b ≠ X.env.locals := fun b o e => Nat.ne_of_lt (Nat.lt_of_lt_of_le (Heap.lt_size e) I.ok.above)
  have neC : ∀ b o, X.s_0.heap.get? b = some o → b ∉ X.ex → b ∉ ch := fun b o e hx hb => by
    rcases (hch b hb).1 with z | z
    · exact hx z
    · exact absurd (Nat.lt_of_lt_of_le (Heap.lt_size e) z) (Nat.lt_irrefl _)
  have cellK : ∀ x c, X.env.cells.lookup x = some c → ∀ v, s.heap.IsCell c v → h'.IsCell c v := fun x c e v ⟨o, ho, hd⟩ => by
    have nch : c ∉ ch := fun z => (hch c z).2.2.1 x c e rfl
    by_cases hc : c ∈ X.fs
    · obtain ⟨sl, q⟩ := slot c o (I.cne x c e) hc nch ho (I.freeC x c e)
      exact ⟨_, q, hd⟩
    · exact ⟨o, keep c o (I.cne x c e) hc nch ho (I.freeC x c e), hd⟩
  refine ⟨I.ok, I.os, hg, ⟨fun b o e n hb hx => ?_, fun b o e n hb hx => ?_, fun b o e n hx => ?_, fun b o e hx => ?_, fun b xs e => tups b xs (I.base.tups b xs e), fun b o xs e => frzs b o xs (I.base.frzs b o xs e), fun b ps e => ?_⟩, ?_, fun x c e => ?_, ?_, fun x c e => ?_, fun p hp => ?_, hok, I.len⟩
  · exact keep b o (neL b o e) hb (neC b o e hx) (I.base.keep b o e n hb hx) (I.base.free b o e n hx)
  · obtain ⟨sl, e1⟩ := I.base.slot b o e n hb hx
    obtain ⟨sl', e2⟩ := slot b _ (neL b o e) hb (neC b o e hx) e1 (I.base.free b o e n hx)
    exact ⟨sl', e2⟩
  · obtain ⟨o', e1⟩ := I.base.there b o e hx
    exact free b o' (neC b o e hx) e1 (I.base.free b o e n hx)
  · obtain ⟨o', e1⟩ := I.base.there b o e hx
    exact there b o' (neC b o e hx) e1
  · obtain ⟨m1, e1⟩ := I.base.tbls b ps e
    obtain ⟨m2, e2⟩ := tbls b _ e1
    exact ⟨m1 ++ m2, by rw [e2, Array.append_assoc]⟩
  · obtain ⟨m, hn, hl⟩ := I.loc
    refine ⟨m, ns m hn, fun i x v e1 e2 e3 => ?_⟩
    obtain ⟨u, r, l⟩ := hl i x v e1 e2 e3
    refine ⟨u, r, ?_⟩
    rcases l with l | ⟨k, c, e, z⟩
    · exact .inl l
    · exact .inr ⟨k, c, e, cellK x c e _ z⟩
  · obtain ⟨v, z⟩ := I.cell x c e
    exact ⟨v, cellK x c e v z⟩
  · obtain ⟨m, ⟨o, _, _, ho, _⟩, _⟩ := I.loc
    exact free _ o (fun z => (hch _ z).2.1 rfl) ho I.free
  · obtain ⟨v, o, ho, hd⟩ := I.cell x c e
    exact free c o (fun z => (hch c z).2.2.1 x c e rfl) ho (I.freeC x c e)
  · obtain ⟨e, n, ne, nf, d⟩ := I.pin p hp
    have nch : p.1 ∉ ch := fun z => (hch p.1 z).2.2.2 p hp rfl
    exact ⟨keep p.1 p.2 ne nf nch e n, free p.1 p.2 nch e n, ne, nf, d⟩
theorem Inv.un {t' : Nat} (I : Inv X pins σ H s) (u : Un X.fs [] H H' s.heap h') (hok : HOk X.prog X.w H' h') : Inv X pins σ H' { s with heap := h', toks := t' } := by
  obtain ⟨m, ⟨o, es, ep, ho, r⟩, _⟩ := id I.loc
  obtain ⟨sl, hL⟩ := u.any ho I.free (by simp)
  exact I.step (g' := s.gens) (d' := s.drawn) (ch := []) (fun _ z => nomatch z) (fun b o _ hb _ e n => u.keep b o e n hb (by simp)) (fun b o _ hb _ e n => u.slot b o e n hb (by simp)) (fun b o _ e n => u.free b o e n (by simp)) (fun b o _ e => u.there b o e (by simp)) u.tups u.frzs u.tbls (fun m' hm => by
    obtain ⟨o', es', ep', ho', r'⟩ := hm
    rw [ho] at ho'; cases ho'
    exact ⟨_, es', ep', hL, r'⟩) hok I.bare
theorem Inv.call {g' : Array GenState} {t' : Nat} {d' : Drawn} {ch : List Addr} (I : Inv X pins σ H s) (u : Un (frs X.stack) ch H H' s.heap h') (hok : HOk X.prog X.w H' h') (hg : AllBare g')
    (hch : ∀ b ∈ ch, (b ∈ X.ex ∨ X.s_0.heap.objs.size ≤ b) ∧ b ≠ X.env.locals ∧ (∀ x c, X.env.cells.lookup x = some c → c ≠ b) ∧ ∀ p ∈ X.pn ++ pins, p.1 ≠ b) :
    Inv X pins σ H' { s with heap := h', gens := g', drawn := d', toks := t' } := by
  obtain ⟨m, ⟨o, es, ep, ho, r⟩, _⟩ := id I.loc
  obtain ⟨sl, hL⟩ := u.any ho I.free fun z => (hch _ z).2.1 rfl
  exact I.step (ch := ch) hch (fun b o hL hb hc e n => u.keep b o e n (fun z => (List.mem_cons.mp (I.stkSub b z)).elim hL hb) hc) (fun b o _ _ hc e n => u.any e n hc) (fun b o hc e n => u.free b o e n hc) (fun b o hc e => u.there b o e hc) u.tups u.frzs u.tbls (fun m' hm => by
    obtain ⟨o', es', ep', ho', r'⟩ := hm
    rw [ho] at ho'; cases ho'
    exact ⟨_, es', ep', hL, r'⟩) hok hg
theorem Inv.turned {t' : Nat} {it : Addr} (I : Inv X pins σ H s) (k : ∀ b o, b ≠ it → s.heap.get? b = some o → h'.get? b = some o) (hn : H it = none) (hL : it ≠ X.env.locals)
    (h1 : it ∈ X.ex ∨ X.s_0.heap.objs.size ≤ it) (h2 : ∀ x c, X.env.cells.lookup x = some c → c ≠ it) (h3 : ∀ p ∈ X.pn ++ pins, p.1 ≠ it) : Inv X pins σ H { s with heap := h', toks := t' } := by
  have nit : ∀ b u, H b = some u → b ≠ it := fun b u e z => by rw [z, hn] at e; cases e
  refine I.step (g' := s.gens) (d' := s.drawn) (ch := [it]) (fun b hb => ?_) (fun b o _ _ hc e _ => k b o (fun z => hc (by simp [z])) e) (fun b o _ _ hc e _ => ⟨o.slots, k b o (fun z => hc (by simp [z])) e⟩) (fun _ _ _ _ n => n)
    (fun b o hc e => ⟨o, k b o (fun z => hc (by simp [z])) e⟩) (fun _ _ e => e) (fun _ _ _ e => e) (fun b ps e => ⟨#[], by rw [e]; simp⟩) (fun m hm => ?_) (fun b u e => ?_) I.bare
  · have e : b = it := by simpa using hb
    subst e
    exact ⟨h1, hL, h2, h3⟩
  · obtain ⟨o, es, ep, ho, r⟩ := hm
    exact ⟨o, es, ep, k _ o (Ne.symm hL) ho, r⟩
  · refine (I.hok b u e).stay (fun c v hc q => k c v ?_ q) (fun _ q => q) fun _ _ q => q
    rcases hc with z | z
    · rw [z]; exact nit b u e
    · exact nit c _ z
theorem Inv.tok (I : Inv X pins σ H s) (t : Nat) : Inv X pins σ H { s with toks := t } := I.un (h' := s.heap) (t' := t) Un.refl I.hok
theorem Inv.kept {t' : Nat} (I : Inv X pins σ H s) (k : ∀ b u, s.heap.get? b = some u → h'.get? b = some u) : Inv X pins σ H { s with heap := h', toks := t' } := I.un (Un.kept k) (I.hok.kept k)
theorem Inv.laid {a : Addr} {o : HO} {t' : Nat} (I : Inv X pins σ H s) (k : ∀ b u, s.heap.get? b = some u → h'.get? b = some u) (hp : s.heap.objs.size ≤ a) (new : ObjOk X.prog X.w (upd H a o) h' a o) :
    Inv X pins σ (upd H a o) { s with heap := h', toks := t' } := I.un (Un.laid k hp (I.hok.fresh hp)) (I.hok.laid k hp new)
theorem Inv.write {x e : Addr} {o : HO} {t' : Nat} (I : Inv X pins σ H s) (mu : Mut (H x)) (he : e = x ∨ H e = some (.own x)) (k : ∀ b u, b ≠ e → s.heap.get? b = some u → h'.get? b = some u) (heo : ∃ u, h'.get? e = some u)
    (new : ObjOk X.prog X.w (upd H x o) h' x o) : Inv X pins σ (upd H x o) { s with heap := h', toks := t' } := I.un (Un.write mu he k heo) (I.hok.write mu he k heo new)
theorem Inv.weak {σ' : List (Option V)} (I : Inv X pins σ H s) (hl : σ'.length = σ.length) (w : ∀ (i : Nat) v, σ'[i]? = some (some v) → σ[i]? = some (some v)) : Inv X pins σ' H s :=
  ⟨I.ok, I.os, I.bare, I.base, let ⟨m, hn, hl'⟩ := I.loc; ⟨m, hn, fun i x v e1 e2 e3 => hl' i x v e1 (w i v e2) e3⟩, I.cell, I.free, I.freeC, I.pin, I.hok, hl.trans I.len⟩
theorem Inv.pins_of {pins' : List (Addr × Obj)} (I : Inv X pins σ H s) (h : ∀ p ∈ pins', s.heap.get? p.1 = some p.2 ∧ H p.1 = none ∧ p.1 ≠ X.env.locals ∧ p.1 ∉ X.fs ∧ ∀ v, p.2.data ≠ .cell v) : Inv X pins' σ H s :=
  ⟨I.ok, I.os, I.bare, I.base, I.loc, I.cell, I.free, I.freeC, fun p hp => (List.mem_append.mp hp).elim (fun z => I.pin p (List.mem_append_left _ z)) (h p), I.hok, I.len⟩
theorem nodup_ix {N : List Str} (hN : N.Nodup) {i j : Nat} {x : Str} (a : N[i]? = some x) (b : N[j]? = some x) : i = j := by
  obtain ⟨h1, e1⟩ := List.getElem?_eq_some_iff.mp a
  obtain ⟨h2, e2⟩ := List.getElem?_eq_some_iff.mp b
  exact (List.getElem_inj hN).mp (e1.trans e2.symm)
theorem store_ok2 {M : Model} {A : Around} {E : Value → Shared → Prop} {i : Nat} {x : Str} {v : V} {u : Value} {Q : Unit → Shared → Prop} (I : Inv X pins σ H s) (hN : X.N.Nodup) (hi : X.N[i]? = some x) (hx : Loc X.env.scope x) (r : RelV v u)
    (h : ∀ s', Inv X pins (σ.set i (some v)) H s' → (∃ a, Heap.SameBut a s.heap s'.heap ∧ (a = X.env.locals ∨ X.env.cells.lookup x = some a)) → Q () s') (hf : X.fn x = true ∨ X.env.scope.names.lookup x = some .local := by first | exact .inl rfl | exact .inr rfl | assumption) : wpAny M A (storeName X.env x u) Q E s := by
  obtain ⟨m, hn, hl⟩ := id I.loc
  have hcls : (X.env.scope.kind == .class || (X.env.scope.kind == .module && X.env.locals != X.env.globals)) = false := by rw [I.ok.kind]; rfl
  have hiσ : i < σ.length := by rw [I.len]; exact (List.getElem?_eq_some_iff.mp hi).1
  have cne := I.cne
  have tracked : ∀ {a : Addr} {h' : Heap}, (∃ o, s.heap.get? a = some o ∧ H a = none) → Heap.SameBut a s.heap h' → HOk X.prog X.w H h' := fun {a h'} ha hs b ob e => by
    obtain ⟨_, _, hfree⟩ := ha
    refine (I.hok b ob e).stay (fun c w' hc q => (hs.2 c ?_).trans q) (fun _ q => q) fun _ _ q => q
    rintro rfl
    rcases hc with rfl | hc
    · rw [hfree] at e; cases e
    · rw [hfree] at hc; cases hc
  rcases hx with hk | hk
  · refine wpAny_storeName_local hk hn (fun h' hn' hs => ?_) hcls
    obtain ⟨oL, _, _, hoL, _⟩ := id hn
    refine h _ ⟨I.ok, I.os, I.bare, ⟨fun b o e n hb hx => ?_, fun b o e n hb hx => ?_, I.base.free, fun b o e hx => ?_, I.base.tups, I.base.frzs, I.base.tbls⟩, ⟨_, hn', fun j y v' e1 e2 e3 => ?_⟩, fun y c e => ?_, I.free, I.freeC, fun p hp => ?_, tracked ⟨oL, hoL, I.free⟩ hs, by simpa using I.len⟩ ⟨_, hs, .inl rfl⟩
    · exact (hs.2 b (Nat.ne_of_lt (Nat.lt_of_lt_of_le (Heap.lt_size e) I.ok.above))).trans (I.base.keep b o e n hb hx)
    · obtain ⟨sl, e1⟩ := I.base.slot b o e n hb hx
      exact ⟨sl, (hs.2 b (Nat.ne_of_lt (Nat.lt_of_lt_of_le (Heap.lt_size e) I.ok.above))).trans e1⟩
    · obtain ⟨o', e1⟩ := I.base.there b o e hx
      exact ⟨o', (hs.2 b (Nat.ne_of_lt (Nat.lt_of_lt_of_le (Heap.lt_size e) I.ok.above))).trans e1⟩
    · by_cases hj : j = i
      · subst hj
        rw [hi] at e1; cases e1
        rw [List.getElem?_set_self hiσ] at e2
        cases e2
        exact ⟨u, r, .inl ⟨hk, by simp⟩⟩
      · rw [List.getElem?_set_ne (Ne.symm hj)] at e2
        obtain ⟨u', r', q⟩ := hl j y v' e1 e2 e3
        refine ⟨u', r', ?_⟩
        rcases q with ⟨k, e⟩ | ⟨k, c, e, z⟩
        · refine .inl ⟨k, ?_⟩
          have : y ≠ x := fun e => hj (nodup_ix hN e1 (e ▸ hi))
          simp [this, e]
        · exact .inr ⟨k, c, e, z.sameBut hs (cne y c e)⟩
    · obtain ⟨w', z⟩ := I.cell y c e
      exact ⟨w', z.sameBut hs (cne y c e)⟩
    · obtain ⟨e, n, ne, nf, d⟩ := I.pin p hp
      exact ⟨(hs.2 p.1 ne).trans e, n, ne, nf, d⟩
  · have hfn : X.fn x = true := by
      rcases hf with z | z
      · exact z
      · rw [z] at hk; cases hk
    obtain ⟨c, hc⟩ := I.ok.has x (.inl hk)
    obtain ⟨w', z⟩ := I.cell x c hc
    refine wpAny_storeName_cell I.ok.kind hk hc z (fun h' hc' hs => ?_)
    obtain ⟨oc, hoc, hocd⟩ := id z
    refine h { s with heap := h' } ⟨I.ok, I.os, I.bare, ⟨fun b o e n hb hx => ?_, fun b o e n hb hx => ?_, I.base.free, fun b o e hx => ?_, I.base.tups, I.base.frzs, I.base.tbls⟩, ⟨m, hn.sameBut hs (Ne.symm (cne x c hc)), fun j y v' e1 e2 e3 => ?_⟩, fun y c' e => ?_, I.free, I.freeC, fun p hp => ?_, tracked ⟨oc, hoc, I.freeC x c hc⟩ hs, by simpa using I.len⟩ ⟨c, hs, .inr hc⟩
    · exact (hs.2 b (Nat.ne_of_lt (Nat.lt_of_lt_of_le (Heap.lt_size e) (I.ok.cab x c hfn hc)))).trans (I.base.keep b o e n hb hx)
    · obtain ⟨sl, e1⟩ := I.base.slot b o e n hb hx
      exact ⟨sl, (hs.2 b (Nat.ne_of_lt (Nat.lt_of_lt_of_le (Heap.lt_size e) (I.ok.cab x c hfn hc)))).trans e1⟩
    · obtain ⟨o', e1⟩ := I.base.there b o e hx
      exact ⟨o', (hs.2 b (Nat.ne_of_lt (Nat.lt_of_lt_of_le (Heap.lt_size e) (I.ok.cab x c hfn hc)))).trans e1⟩
    · by_cases hj : j = i
      · subst hj
        rw [hi] at e1; cases e1
        rw [List.getElem?_set_self hiσ] at e2
        cases e2
        exact ⟨u, r, .inr ⟨.inl hk, c, hc, hc'⟩⟩
      · rw [List.getElem?_set_ne (Ne.symm hj)] at e2
        obtain ⟨u', r', q⟩ := hl j y v' e1 e2 e3
        refine ⟨u', r', ?_⟩
        rcases q with q | ⟨k, c', e, z'⟩
        · exact .inl q
        · refine .inr ⟨k, c', e, z'.sameBut hs ?_⟩
          rintro rfl
          exact hj (nodup_ix hN e1 (I.ok.inj _ _ _ e hc ▸ hi))
    · by_cases hcc : c' = c
      · subst hcc; exact ⟨_, hc'⟩
      · obtain ⟨w2, z2⟩ := I.cell y c' e
        exact ⟨w2, z2.sameBut hs hcc⟩
    · obtain ⟨e, n, ne, nf, d⟩ := I.pin p hp
      refine ⟨(hs.2 p.1 ?_).trans e, n, ne, nf, d⟩
      intro q
      rw [q, hoc] at e
      have q' : oc = p.2 := Option.some.inj e
      exact d w' (by rw [← q']; exact hocd)
theorem store_ok {M : Model} {A : Around} {E : Value → Shared → Prop} {i : Nat} {x : Str} {v : V} {u : Value} {Q : Unit → Shared → Prop} (I : Inv X pins σ H s) (hN : X.N.Nodup) (hi : X.N[i]? = some x) (hx : Loc X.env.scope x) (r : RelV v u)
    (h : ∀ s', Inv X pins (σ.set i (some v)) H s' → Q () s') (hf : X.fn x = true ∨ X.env.scope.names.lookup x = some .local := by first | exact .inl rfl | exact .inr rfl | assumption) : wpAny M A (storeName X.env x u) Q E s :=
  store_ok2 I hN hi hx r (fun s' I' _ => h s' I') hf
theorem Inv.call' {s' : Shared} {ch : List Addr} (I : Inv X pins σ H s) (ho : s'.os = s.os) (u : Un (frs X.stack) ch H H' s.heap s'.heap) (hok : HOk X.prog X.w H' s'.heap) (hg : AllBare s'.gens)
    (hch : ∀ b ∈ ch, (b ∈ X.ex ∨ X.s_0.heap.objs.size ≤ b) ∧ b ≠ X.env.locals ∧ (∀ x c, X.env.cells.lookup x = some c → c ≠ b) ∧ ∀ p ∈ X.pn ++ pins, p.1 ≠ b) : Inv X pins σ H' s' := by
  obtain ⟨h', g', d', t', o'⟩ := s'
  have e : o' = s.os := ho
  subst e
  exact I.call (g' := g') (t' := t') (d' := d') u hok hg hch
end
abbrev XK := Value → Option Addr → Hp → Prop
abbrev St := List (Option V)
abbrev VK := V → Hp → Prop
abbrev TE := St → Hp → VK → Prop
abbrev TT := St → Hp → (Bool → Hp → Prop) → Prop
abbrev TA := St → Hp → (List V → Hp → Prop) → Prop
structure Ends where
  nx : St → Hp → Prop
  rt : VK
  bk : St → Hp → Prop := fun _ _ => False
  ct : St → Hp → Prop := fun _ _ => False
abbrev TS := Ends → St → Hp → Prop
def EP (X : Cx) (pins : List (Addr × Obj)) (σ : St) (Q : VK) (u : Value) (s' : Shared) : Prop := ∃ v H', Inv X pins σ H' s' ∧ RelV v u ∧ Q v H'
def TP (X : Cx) (pins : List (Addr × Obj)) (σ : St) (Q : Bool → Hp → Prop) (b : Bool) (s' : Shared) : Prop := ∃ H', Inv X pins σ H' s' ∧ Q b H'
def AP (X : Cx) (pins : List (Addr × Obj)) (σ : St) (Q : List V → Hp → Prop) (us : List Value) (s' : Shared) : Prop := ∃ vs H', Inv X pins σ H' s' ∧ Vals vs us ∧ Q vs H'
def SP (X : Cx) (pins : List (Addr × Obj)) (D : Ends) (f : Flow) (s' : Shared) : Prop :=
  match f with
  | .next => ∃ σ' H', Inv X pins σ' H' s' ∧ D.nx σ' H'
  | .brk => ∃ σ' H', Inv X pins σ' H' s' ∧ D.bk σ' H'
  | .cont => ∃ σ' H', Inv X pins σ' H' s' ∧ D.ct σ' H'
  | .ret u => ∃ v σ' H', Inv X pins σ' H' s' ∧ RelV v u ∧ D.rt v H'
def PE (X : Cx) (e : Expr) (t : TE) : Prop :=
  ∀ (pins : List (Addr × Obj)) (s : Shared) (σ : St) (H : Hp) (Q : VK), Inv X pins σ H s → t σ H Q → wpAny (model X.prog X.w) X.A (eval e X.env) (EP X pins σ Q) X.xe s
def PT (X : Cx) (e : Expr) (t : TT) : Prop :=
  ∀ (pins : List (Addr × Obj)) (s : Shared) (σ : St) (H : Hp) (Q : Bool → Hp → Prop), Inv X pins σ H s → t σ H Q → wpAny (model X.prog X.w) X.A (isTrue e X.env (eval e X.env)) (TP X pins σ Q) X.xe s
def PW (X : Cx) (e : Expr) (t : TT) : Prop :=
  ∀ (whole : Sem Value) (pins : List (Addr × Obj)) (s : Shared) (σ : St) (H : Hp) (Q : Bool → Hp → Prop), Inv X pins σ H s → t σ H Q → wpAny (model X.prog X.w) X.A (isTrue e X.env whole) (TP X pins σ Q) X.xe s
theorem PW.pt {X : Cx} {e : Expr} {t : TT} (h : PW X e t) : PT X e t := h _
def PA (X : Cx) (es : List Expr) (t : TA) : Prop :=
  ∀ (pos : Pos) (pins : List (Addr × Obj)) (s : Shared) (σ : St) (H : Hp) (Q : List V → Hp → Prop), Inv X pins σ H s → t σ H Q → wpAny (model X.prog X.w) X.A (spliced (backTo pos (starEach es X.env))) (AP X pins σ Q) X.xe s
def PS (X : Cx) (st : Stmt) (t : TS) : Prop :=
  ∀ (pins : List (Addr × Obj)) (s : Shared) (σ : St) (H : Hp) (D : Ends), Inv X pins σ H s → t D σ H → wpAny (model X.prog X.w) X.A (exec st X.env) (SP X pins D) X.xe s
def PSs (X : Cx) (st : List Stmt) (t : TS) : Prop :=
  ∀ (pins : List (Addr × Obj)) (s : Shared) (σ : St) (H : Hp) (D : Ends), Inv X pins σ H s → t D σ H → wpAny (model X.prog X.w) X.A (execs st X.env) (SP X pins D) X.xe s
theorem thn {α : Type} {t : Sem α} {Q Q' : α → Shared → Prop} {M : Model} {A : Around} {E : Value → Shared → Prop} {s : Shared} (h : wpAny M A t Q E s) (hQ : ∀ a s, Q a s → Q' a s) : wpAny M A t Q' E s := wpAny_mono h hQ fun _ _ x => x
end L2
namespace L2
open PySem PySem.Spec PyProof.Rows
section
variable {X : Cx}
def tVar (i : Nat) : TE := fun σ H Q => ∃ v, σ[i]? = some (some v) ∧ Q v H
def tC (v : V) : TE := fun _ H Q => Q v H
theorem pe_var {i : Nat} {x : Str} {pos : Pos} (hN : X.N[i]? = some x) (hv : Vis X.env.scope x) (hd : (x == ("__debug__" : Str)) = false := by decide) (hcd : (x == ("__classdict__" : Str)) = false := by decide) : PE X (.Name x pos) (tVar i) := by
  intro pins s σ H Q I h
  obtain ⟨v, e, h⟩ := h
  obtain ⟨m, hn, hl⟩ := I.loc
  obtain ⟨u, r, l⟩ := hl i x v hN e hv
  have fin : EP X pins σ Q u s := ⟨v, H, I, r, h⟩
  rcases l with ⟨hk, hm⟩ | ⟨hk, c, hc, hcell⟩
  · exact wpAny_Name (wpAny_loadName_local I.ok.kind hk hn hm fin) hd
  · rcases hk with hk | hk
    · exact wpAny_Name (wpAny_loadName_cell I.ok.kind hk hc hcell fin) hd
    · exact wpAny_Name (wpAny_loadName_free I.ok.kind hk hc hcell fin hcd) hd
theorem pe_int {i j pos} : PE X (.Constant (.int i) j pos) (tC (.int i)) := fun _ _ _ H _ I h => wpAny_Constant_int ⟨.int i, H, I.tok _, ⟨_, rfl⟩, h⟩
theorem pe_bl {b j pos} : PE X (.Constant (.bool b) j pos) (tC (.bl b)) := fun _ _ _ H _ I h => Constant_bool ⟨.bl b, H, I, rfl, h⟩
theorem pe_non {j pos} : PE X (.Constant .none j pos) (tC .non) := fun _ _ _ H _ I h => Constant_none ⟨.non, H, I, rfl, h⟩
def Gl (X : Cx) (x : Str) : Prop := X.env.kindOf x = some .globalImplicit
theorem ld_glob {E : Value → Shared → Prop} {pins : List (Addr × Obj)} {s : Shared} {σ : St} {H : Hp} {x : Str} {u : Value} {pos : Pos} {Q : Value → Shared → Prop} (I : Inv X pins σ H s) (hg : Gl X x) (hm : X.mg x = some u) (h : Q u s)
    (hd : (x == ("__debug__" : Str)) = false := by decide) : wpAny (model X.prog X.w) X.A (eval (.Name x pos) X.env) Q E s :=
  Calls.Name_function_global I.ok.kind hg (Calls.loadGlobal_global (by rw [I.ok.glob]; exact I.mod.glob.keeps I.bk) hm h) hd
theorem ld_blt {E : Value → Shared → Prop} {pins : List (Addr × Obj)} {s : Shared} {σ : St} {H : Hp} {x : Str} {u : Value} {pos : Pos} {Q : Value → Shared → Prop} (I : Inv X pins σ H s) (hg : Gl X x) (hm : X.mg x = none) (hv : bootBuiltins x = some u) (h : Q u s)
    (hn : x ≠ "__name__" := by decide) (hd : (x == ("__debug__" : Str)) = false := by decide) : wpAny (model X.prog X.w) X.A (eval (.Name x pos) X.env) Q E s := by
  obtain ⟨mb, h1, h2⟩ := I.mod.blt
  exact Calls.Name_function_global I.ok.kind hg (Calls.loadGlobal_builtin (by rw [I.ok.glob]; exact I.mod.glob.keeps I.bk) hm (by rw [I.ok.blt]; exact h1.keeps I.bk) ((h2 x hn).trans hv) h) hd
theorem pe_glob {x : Str} {v : V} {u : Value} {pos : Pos} (hg : Gl X x) (hm : X.mg x = some u) (r : RelV v u) (hd : (x == ("__debug__" : Str)) = false := by decide) : PE X (.Name x pos) (tC v) :=
  fun _ _ _ H _ I h => ld_glob I hg hm ⟨v, H, I, r, h⟩ hd
variable {a b : Expr} {ta tb : TE} {pos : Pos}
def PC (X : Cx) (op : CmpOp) (a b : Expr) (t : TE) : Prop :=
  ∀ (pins : List (Addr × Obj)) (s : Shared) (σ : St) (H : Hp) (Q : VK), Inv X pins σ H s → t σ H Q →
    wpAny (model X.prog X.w) X.A (eval a X.env) (fun v s₁ => wpAny (model X.prog X.w) X.A (eval b X.env) (fun u s₂ => wpAny (model X.prog X.w) X.A (compareOp op v u) (EP X pins σ Q) X.xe s₂) X.xe s₁) X.xe s
theorem nobehind (b : Expr) {op : CmpOp} (h : op ≠ .In) (h2 : op ≠ .NotIn) : behindInMarks op b = false := by
  have e1 : (op == CmpOp.In) = false := by cases op <;> first | rfl | exact absurd rfl h
  have e2 : (op == CmpOp.NotIn) = false := by cases op <;> first | rfl | exact absurd rfl h2
  cases b <;> simp [behindInMarks, e1, e2]
def tIsN (ta : TE) : TE := fun σ H Q => ta σ H fun x H1 => Q (.bl (decide (x = .non))) H1
def tNotN (ta : TE) : TE := fun σ H Q => ta σ H fun x H1 => Q (.bl (!decide (x = .non))) H1
theorem RelV.none_iff {x : V} {v : Value} (r : RelV x v) : (v == Value.none) = decide (x = .non) := by
  cases x with
  | non => cases r; rfl
  | bl _ => cases r; rfl
  | int _ => obtain ⟨t, rfl⟩ := r; rfl
  | str _ => obtain ⟨t, rfl⟩ := r; rfl
  | byt _ => obtain ⟨t, rfl⟩ := r; rfl
  | flt _ => obtain ⟨t, rfl⟩ := r; rfl
  | ref _ => cases r; rfl
  | ty _ => cases r; rfl
theorem pc_isN {j pos'} (ha : PE X a ta) : PC X .Is a (.Constant .none j pos') (tIsN ta) := by
  intro pins s σ H Q I h
  refine thn (ha pins s σ H _ I h) fun v s1 ⟨x, H1, I1, r1, q1⟩ => ?_
  exact Constant_none (is_none_gen ⟨.bl _, H1, I1, by rw [r1.none_iff]; rfl, q1⟩)
theorem pc_notN {j pos'} (ha : PE X a ta) : PC X .IsNot a (.Constant .none j pos') (tNotN ta) := by
  intro pins s σ H Q I h
  refine thn (ha pins s σ H _ I h) fun v s1 ⟨x, H1, I1, r1, q1⟩ => ?_
  exact Constant_none (isnot_none_gen ⟨.bl _, H1, I1, by rw [r1.none_iff]; rfl, q1⟩)
def tB (t : TE) : TT := fun σ H Q => t σ H fun x H1 => ∃ c, x = .bl c ∧ Q c H1
theorem pt_cmp {op : CmpOp} {t : TE} (h : PC X op a b t) (h1 : behindInMarks op b = false := by first | exact nobehind _ (by decide) (by decide) | rfl) : PT X (.Compare a [op] [b] pos) (tB t) := by
  intro pins s σ H Q I hw
  refine wpAny_isTrue_Compare1 (thn (h pins s σ H _ I hw) fun v s1 h1 => thn h1 fun u s2 h2 => thn h2 fun c s3 ⟨x, H1, I1, r1, q1⟩ => ?_) h1
  obtain ⟨d, rfl, q⟩ := q1
  cases r1
  exact wpAny_truthy_bool ⟨H1, I1, q⟩
theorem pt_val {e : Expr} {t : TE} (h : PE X e t) (he : ∀ whole, isTrue e X.env whole = (do let v ← whole; standAt e.pos; holding [v] (truthy v)) := by intro _; rfl) : PT X e (tB t) := by
  intro pins s σ H Q I hw
  refine isTrue_plain (thn (h pins s σ H _ I hw) fun v s1 ⟨x, H1, I1, r1, q1⟩ => ?_) (he _)
  obtain ⟨d, rfl, q⟩ := q1
  cases r1
  exact wpAny_truthy_bool ⟨H1, I1, q⟩
variable {tA tB' : TT} {rest : List Expr}
def tAnd (t u : TT) : TT := fun σ H Q => t σ H fun c H1 => if c = true then u σ H1 Q else Q false H1
def tOr (t u : TT) : TT := fun σ H Q => t σ H fun c H1 => if c = true then Q true H1 else u σ H1 Q
def tNot (t : TT) : TT := fun σ H Q => t σ H fun c H1 => Q (!c) H1
theorem pw_and1 (ha : PT X a tA) : PW X (.BoolOp .And [a] pos) tA := by
  intro wh pins s σ H Q I h
  refine isTrue_and (thn (ha pins s σ H Q I h) fun c s1 e => ?_)
  cases c with
  | true => exact isTrue_and_nil e
  | false => exact e
theorem pw_or1 (ha : PT X a tA) : PW X (.BoolOp .Or [a] pos) tA := by
  intro wh pins s σ H Q I h
  refine isTrue_or (thn (ha pins s σ H Q I h) fun c s1 e => ?_)
  cases c with
  | false => exact isTrue_or_nil e
  | true => exact e
theorem pw_and (ha : PT X a tA) (hb : PW X (.BoolOp .And (b :: rest) pos) tB') : PW X (.BoolOp .And (a :: b :: rest) pos) (tAnd tA tB') := by
  intro wh pins s σ H Q I h
  refine isTrue_and (thn (ha pins s σ H _ I h) fun c s1 ⟨H1, I1, q1⟩ => ?_)
  cases c with
  | true => exact hb wh pins s1 σ H1 Q I1 q1
  | false => exact ⟨H1, I1, q1⟩
theorem pw_or (ha : PT X a tA) (hb : PW X (.BoolOp .Or (b :: rest) pos) tB') : PW X (.BoolOp .Or (a :: b :: rest) pos) (tOr tA tB') := by
  intro wh pins s σ H Q I h
  refine isTrue_or (thn (ha pins s σ H _ I h) fun c s1 ⟨H1, I1, q1⟩ => ?_)
  cases c with
  | true => exact ⟨H1, I1, q1⟩
  | false => exact hb wh pins s1 σ H1 Q I1 q1
theorem pt_not (ha : PT X a tA) : PT X (.UnaryOp .Not a pos) (tNot tA) := by
  intro pins s σ H Q I h
  exact isTrue_not (ha pins s σ H (fun c H1 => Q (!c) H1) I h)
end
end L2
namespace L2
open PySem PySem.Spec PyProof.Rows
def SqL (K : PySem.W.Frag) (H : Hp) (a : Addr) (xs : List V) : Prop :=
  Rd H a (.lst xs) ∨
    ∃ (o : Obj) (its : Array Value) (n : Nat), K.lookup a = some o ∧ o.cls = .type "list" ∧ o.dict = none ∧ o.data = .seq its n ∧ its.size ≤ sizeLine ∧ Vals xs its.toList
def SqT (K : PySem.W.Frag) (H : Hp) (a : Addr) (xs : List V) : Prop :=
  Rd H a (.tup xs) ∨
    ∃ (o : Obj) (its : Array Value) (n : Nat), K.lookup a = some o ∧ o.cls = .type "tuple" ∧ o.data = .seq its n ∧ its.size ≤ sizeLine ∧ Vals xs its.toList
def absV : Value → Option V
  | .none => some .non
  | .bool b => some (.bl b)
  | .int i _ => some (.int i)
  | .str x _ => some (.str x)
  | .bytes b _ => some (.byt b)
  | .float b _ => some (.flt b)
  | .ref a => some (.ref a)
  | .type n => some (.ty n)
  | _ => none
theorem RelV.abs {x : V} {u : Value} (r : RelV x u) : absV u = some x := by
  cases x with
  | non => cases r; rfl
  | bl _ => cases r; rfl
  | int _ => obtain ⟨t, rfl⟩ := r; rfl
  | str _ => obtain ⟨t, rfl⟩ := r; rfl
  | byt _ => obtain ⟨t, rfl⟩ := r; rfl
  | flt _ => obtain ⟨t, rfl⟩ := r; rfl
  | ref _ => cases r; rfl
  | ty _ => cases r; rfl
theorem RelV.inj {x y : V} {u : Value} (r : RelV x u) (q : RelV y u) : x = y := Option.some.inj (r.abs.symm.trans q.abs)
theorem Vals.inj : ∀ {xs ys : List V} {us : List Value}, Vals xs us → Vals ys us → xs = ys
  | _, _, _, .nil, .nil => rfl
  | _, _, _, .cons r t, .cons r' t' => by rw [r.inj r', Vals.inj t t']
section
variable {X : Cx} {pins : List (Addr × Obj)} {σ : St} {H : Hp} {s : Shared} {a : Addr} {xs ys : List V}
theorem SqL.of {K : PySem.W.Frag} (h : H a = some (.lst xs)) : SqL K H a xs := .inl (.inl h)
theorem SqT.of {K : PySem.W.Frag} (h : H a = some (.tup xs)) : SqT K H a xs := .inl (.inl h)
theorem Inv.list (I : Inv X pins σ H s) (h : SqL X.K H a xs) : ∃ its : List Value, Vals xs its ∧ PlainL s.heap a its.toArray ∧ xs.length ≤ sizeLine := by
  rcases h with h | ⟨o, its, n, hk, hc, hd, hs, hz, r⟩
  · obtain ⟨z, its, n, r, e⟩ := h.ok I.hok
    exact ⟨its, r, ⟨_, n, e, rfl, rfl, rfl⟩, z⟩
  · refine ⟨its.toList, r, ⟨o, n, I.kIn a o hk, hc, hd, by simpa using hs⟩, ?_⟩
    have e := r.length
    simp only [Array.length_toList] at e
    omega
theorem Inv.tuple (I : Inv X pins σ H s) (h : SqT X.K H a xs) : ∃ its : List Value, Vals xs its ∧ IsTup s.heap a its.toArray ∧ xs.length ≤ sizeLine := by
  rcases h with h | ⟨o, its, n, hk, hc, hs, hz, r⟩
  · obtain ⟨z, its, r, p⟩ := h.ok I.hok
    exact ⟨its, r, p, z⟩
  · refine ⟨its.toList, r, ⟨o, I.kIn a o hk, hc, n, by simpa using hs⟩, ?_⟩
    have e := r.length
    simp only [Array.length_toList] at e
    omega
theorem Inv.list_inj (I : Inv X pins σ H s) (h : SqL X.K H a xs) (h' : SqL X.K H a ys) : xs = ys := by
  obtain ⟨its, r, ⟨o, n, e, _, _, d⟩, _⟩ := I.list h
  obtain ⟨its', r', ⟨o', n', e', _, _, d'⟩, _⟩ := I.list h'
  rw [e] at e'; cases e'
  rw [d] at d'
  injection d' with d1 _
  have : its = its' := by simpa using congrArg Array.toList d1
  subst this
  exact r.inj r'
theorem Inv.tuple_inj (I : Inv X pins σ H s) (h : SqT X.K H a xs) (h' : SqT X.K H a ys) : xs = ys := by
  obtain ⟨its, r, ⟨o, e, _, n, d⟩, _⟩ := I.tuple h
  obtain ⟨its', r', ⟨o', e', _, n', d'⟩, _⟩ := I.tuple h'
  rw [e] at e'; cases e'
  rw [d] at d'
  injection d' with d1 _
  have : its = its' := by simpa using congrArg Array.toList d1
  subst this
  exact r.inj r'
end
abbrev Cx.wish (X : Cx) (E : Value → Shared → Prop) : Cx := { X with xe := E }
abbrev Cx.nox (X : Cx) : Cx := X.wish fun _ _ => False
theorem Cx.Ok.wish {X : Cx} (ok : X.Ok) (E : Value → Shared → Prop) : (X.wish E).Ok :=
  ⟨ok.mod, ok.kind, ok.glob, ok.blt, ok.above, ok.inj, ok.has, ok.cab, ok.hd, ok.frames, ok.stk, ok.exf, ok.bs, ok.bsz, ok.noex, ok.exfs, ok.funs, ok.frf⟩
theorem Cx.Ok.unwish {X : Cx} {E : Value → Shared → Prop} (ok : (X.wish E).Ok) : X.Ok :=
  ⟨ok.mod, ok.kind, ok.glob, ok.blt, ok.above, ok.inj, ok.has, ok.cab, ok.hd, ok.frames, ok.stk, ok.exf, ok.bs, ok.bsz, ok.noex, ok.exfs, ok.funs, ok.frf⟩
section
variable {X : Cx} {pins : List (Addr × Obj)} {σ : St} {H : Hp} {s : Shared} {E : Value → Shared → Prop}
theorem Inv.wish (I : Inv X pins σ H s) (E : Value → Shared → Prop) : Inv (X.wish E) pins σ H s := ⟨I.ok.wish E, I.os, I.bare, I.base, I.loc, I.cell, I.free, I.freeC, I.pin, I.hok, I.len⟩
theorem Inv.unwish (I : Inv (X.wish E) pins σ H s) : Inv X pins σ H s := ⟨I.ok.unwish, I.os, I.bare, I.base, I.loc, I.cell, I.free, I.freeC, I.pin, I.hok, I.len⟩
theorem SP.unwish {D : Ends} {f : Flow} {s' : Shared} (h : SP (X.wish E) pins D f s') : SP X pins D f s' := by
  cases f with
  | next => obtain ⟨σ', H', I, q⟩ := h; exact ⟨σ', H', I.unwish, q⟩
  | brk => obtain ⟨σ', H', I, q⟩ := h; exact ⟨σ', H', I.unwish, q⟩
  | cont => obtain ⟨σ', H', I, q⟩ := h; exact ⟨σ', H', I.unwish, q⟩
  | ret u => obtain ⟨v, σ', H', I, r, q⟩ := h; exact ⟨v, σ', H', I.unwish, r, q⟩
theorem PSs.nox {st : List Stmt} {t : TS} (h : PSs X.nox st t) : PSs X st t := fun pins s σ H D I hw =>
  wpAny_mono (h pins s σ H D (I.wish _) hw) (fun _ _ q => q.unwish) fun _ _ z => False.elim z
end
section
variable {X : Cx} {st : Stmt} {rest : List Stmt} {t u : TS} {e : Expr} {te : TE} {pos : Pos}
def tNext : TS := fun D σ H => D.nx σ H
def tSeq (t u : TS) : TS := fun D σ H => t { D with nx := u D } σ H
theorem pss_nil : PSs X [] tNext := fun _ _ σ H _ I h => wpAny_execs_nil ⟨σ, H, I, h⟩
theorem pss_cons (h1 : PS X st t) (h2 : PSs X rest u) : PSs X (st :: rest) (tSeq t u) := by
  intro pins s σ H D I h
  refine wpAny_execs_cons (thn (h1 pins s σ H { D with nx := u D } I h) fun f s1 q => ?_)
  cases f with
  | next =>
    obtain ⟨σ', H', I', q⟩ := q
    exact h2 pins s1 σ' H' D I' q
  | ret v => exact q
  | brk => exact q
  | cont => exact q
theorem pss_one (h1 : PS X st t) : PSs X [st] t := by
  intro pins s σ H D I h
  refine wpAny_execs_cons (thn (h1 pins s σ H D I h) fun f s1 q => ?_)
  cases f with
  | next => exact wpAny_execs_nil q
  | ret v => exact q
  | brk => exact q
  | cont => exact q
theorem Inv.quiet {pins : List (Addr × Obj)} {σ : St} {H : Hp} {s : Shared} (I : Inv X pins σ H s) : interactive X.env = false := by simp [interactive, I.ok.kind]
def tDrop (te : TE) : TS := fun D σ H => te σ H fun _ H1 => D.nx σ H1
theorem ps_expr (he : PE X e te) (hs : swapsWith e none pos.line X.env = pure false := by rfl) : PS X (.Expr e pos) (tDrop te) := by
  intro pins s σ H D I h
  exact wpAny_Expr_any (thn (he pins s σ H _ I h) fun v s1 ⟨x, H1, I1, r1, q1⟩ => ⟨σ, H1, I1, q1⟩) I.quiet hs
def tRet (te : TE) : TS := fun D σ H => te σ H D.rt
theorem ps_ret (he : PE X e te) : PS X (.Return (some e) pos) (tRet te) := by
  intro pins s σ H D I h
  exact wpAny_Return_some (thn (he pins s σ H _ I h) fun v s1 ⟨x, H1, I1, r1, q1⟩ => ⟨x, σ, H1, I1, r1, q1⟩)
def tIfS (c : TT) (t u : TS) : TS := fun D σ H => c σ H fun b H1 => if b = true then t D σ H1 else u D σ H1
theorem ps_if {c : Expr} {a b : List Stmt} {tc : TT} (hc : PT X c tc) (ha : PSs X a t) (hb : PSs X b u) : PS X (.If c a b pos) (tIfS tc t u) := by
  intro pins s σ H D I h
  refine wpAny_If (thn (hc pins s σ H _ I h) fun d s1 ⟨H1, I1, q1⟩ => ?_)
  cases d with
  | true => exact ha pins s1 σ H1 D I1 q1
  | false => exact hb pins s1 σ H1 D I1 q1
end
abbrev TG := V → St → Hp → (St → Hp → Prop) → Prop
abbrev TGs := List V → St → Hp → (St → Hp → Prop) → Prop
def PG (X : Cx) (target : Expr) (t : TG) : Prop :=
  ∀ (pins : List (Addr × Obj)) (s : Shared) (σ : St) (H : Hp) (v : V) (u : Value) (Q : St → Hp → Prop), Inv X pins σ H s → RelV v u → t v σ H Q →
    wpAny (model X.prog X.w) X.A (assign target X.env u) (fun _ s' => ∃ σ' H', Inv X pins σ' H' s' ∧ Q σ' H') X.xe s
def PGs (X : Cx) (ts : List Expr) (t : TGs) : Prop :=
  ∀ (pins : List (Addr × Obj)) (s : Shared) (σ : St) (H : Hp) (vs : List V) (us : List Value) (Q : St → Hp → Prop), Inv X pins σ H s → Vals vs us → t vs σ H Q →
    wpAny (model X.prog X.w) X.A (assignInOrder ((assignEach ts X.env).map (·.2)) us) (fun _ s' => ∃ σ' H', Inv X pins σ' H' s' ∧ Q σ' H') X.xe s
section
variable {X : Cx} {pos : Pos}
def gName (i : Nat) : TG := fun v σ H Q => Q (σ.set i (some v)) H
theorem pg_name {i : Nat} {x : Str} (hN : X.N.Nodup) (hi : X.N[i]? = some x) (hx : Loc X.env.scope x) (hf : X.fn x = true ∨ X.env.scope.names.lookup x = some .local := by first | exact .inl rfl | exact .inr rfl | assumption) : PG X (.Name x pos) (gName i) := by
  intro pins s σ H v u Q I r h
  exact wpAny_assign_Name (store_ok I hN hi hx r (fun s' I' => ⟨_, H, I', h⟩) hf)
def gNil : TGs := fun vs σ H Q => vs = [] ∧ Q σ H
def gCons (t : TG) (u : TGs) : TGs := fun vs σ H Q => ∃ v r, vs = v :: r ∧ t v σ H fun σ' H' => u r σ' H' Q
theorem pgs_nil : PGs X [] gNil := by
  intro pins s σ H vs us Q I r h
  obtain ⟨e, h⟩ := h
  subst e
  cases r
  exact assignInOrder_nil ⟨σ, H, I, h⟩
theorem pgs_cons {e : Expr} {es : List Expr} {t : TG} {u : TGs} (h1 : PG X e t) (h2 : PGs X es u)
    (hs : (assignEach (e :: es) X.env).map (·.2) = assign e X.env :: (assignEach es X.env).map (·.2) := by rfl) : PGs X (e :: es) (gCons t u) := by
  intro pins s σ H vs us Q I r h
  obtain ⟨v, vr, e1, h⟩ := h
  subst e1
  cases r with
  | cons r rr =>
    rw [hs]
    refine assignInOrder_cons (thn (h1 pins s σ H _ _ _ I r h) fun _ s1 ⟨σ1, H1, I1, q1⟩ => ?_)
    exact h2 pins s1 σ1 H1 _ _ Q I1 rr q1
def gTup (K : PySem.W.Frag) (n : Nat) (t : TGs) : TG := fun v σ H Q => ∃ a xs, v = .ref a ∧ SqT K H a xs ∧ xs.length = n ∧ t xs σ H Q
theorem pg_tup {es : List Expr} {k : Nat} {t : TGs} {n : Nat} (hc : X.calm = true) (h : PGs X es t)
    (hn : (assignEach es X.env).length = n := by rfl) (hst : (assignEach es X.env).findIdx? (·.1) = none := by rfl) : PG X (.Tuple es k pos) (gTup X.K n t) := by
  intro pins s σ H v u Q I r hw
  obtain ⟨a, xs, e1, hq, hl, hw⟩ := hw
  subst e1
  cases r
  obtain ⟨its, rv, ht, hz⟩ := I.tuple hq
  refine assign_Tuple_tuple (I.ok.hd hc) ht (by simp [hn, ← hl, rv.length]) hst fun h' hx => ?_
  have I1 : Inv X pins σ H { s with heap := h' } := I.kept (t' := s.toks) fun b o e => hx b o (Nat.ne_of_lt (Heap.lt_size e)) e
  exact h pins _ σ H xs _ Q I1 (by simpa using rv) hw
def tAsg (te : TE) (g : TG) : TS := fun D σ H => te σ H fun x H1 => g x σ H1 D.nx
theorem ps_set {i : Nat} {x : Str} {e : Expr} {te : TE} {pos' : Pos} (hN : X.N.Nodup) (hi : X.N[i]? = some x) (hx : Loc X.env.scope x) (he : PE X e te) (hs : swapsWith e (some (.Name x pos')) pos.line X.env = pure false := by rfl) (hf : X.fn x = true ∨ X.env.scope.names.lookup x = some .local := by first | exact .inl rfl | exact .inr rfl | assumption) :
    PS X (.Assign [.Name x pos'] e pos) (tAsg te (gName i)) := by
  intro pins s σ H D I h
  refine wpAny_Assign_Name (thn (he pins s σ H _ I h) fun v s1 ⟨y, H1, I1, r1, q1⟩ => ?_) hs
  exact store_ok I1 hN hi hx r1 (fun s2 I2 => ⟨_, H1, I2, q1⟩) hf
end
section
variable {X : Cx} {pos : Pos}
def tWhile (c : TT) (tb : TS) : TS := fun D σ H => ∃ W : Nat → St → Hp → Prop, (∃ m, W m σ H) ∧ ∀ m σ H, W m σ H →
  c σ H fun b H1 => if b = true then ∃ N : St → Hp → Prop, (∀ σ' H', N σ' H' → ∃ m', m' < m ∧ W m' σ' H') ∧ tb { D with nx := N, ct := N, bk := D.nx } σ H1 else D.nx σ H1
theorem ps_while {c : Expr} {body : List Stmt} {tc : TT} {tb : TS} (hp : PassesOwn (model X.prog X.w) X.A X.env X.xe) (hc : PT X c tc) (hb : PSs X body tb) : PS X (.While c body [] pos) (tWhile tc tb) := by
  intro pins s σ H D I h
  obtain ⟨W, ⟨m0, w0⟩, turn⟩ := h
  refine wpAny_While (codeAny_whileLoop (fun n s' => ∃ σ' H', Inv X pins σ' H' s' ∧ W n σ' H') ?_ m0 ⟨σ, H, I, w0⟩)
  rintro n s1 ⟨σ1, H1, I1, w1⟩
  refine wpAny_passesOwn hp (thn (hc pins s1 σ1 H1 _ I1 (turn n σ1 H1 w1)) fun b s2 ⟨H2, I2, q2⟩ => ?_)
  cases b with
  | true =>
    obtain ⟨N, hN, q2⟩ := q2
    rw [if_pos rfl]
    refine wpAny_passesOwn hp (thn (hb pins s2 σ1 H2 _ I2 q2) fun f s3 q3 => ?_)
    cases f with
    | next =>
      obtain ⟨σ3, H3, I3, n3⟩ := q3
      obtain ⟨m', hm, w3⟩ := hN σ3 H3 n3
      exact ⟨m', hm, σ3, H3, I3, w3⟩
    | cont =>
      obtain ⟨σ3, H3, I3, n3⟩ := q3
      obtain ⟨m', hm, w3⟩ := hN σ3 H3 n3
      exact ⟨m', hm, σ3, H3, I3, w3⟩
    | brk => exact q3
    | ret v => exact q3
  | false =>
    rw [if_neg Bool.false_ne_true]
    exact wpAny_execs_nil ⟨σ1, H2, I2, q2⟩
end
structure It where
  go : Nat → Hp → Prop
  yld : Nat → Hp → V → Hp → Prop
  stop : Nat → Hp → Prop
def FpOk (X : Cx) (pins : List (Addr × Obj)) (H : Hp) (b : Addr) : Prop :=
  H b = none ∧ b ≠ X.env.locals ∧ b ∉ X.fs ∧ (b ∈ X.ex ∨ X.s_0.heap.objs.size ≤ b) ∧ (∀ x c, X.env.cells.lookup x = some c → c ≠ b) ∧ ∀ p ∈ X.pn ++ pins, p.1 ≠ b
theorem Inv.fpOk {X : Cx} {pins : List (Addr × Obj)} {σ : St} {H H' : Hp} {s : Shared} {b : Addr} (I : Inv X pins σ H s) (hb : s.heap.objs.size ≤ b) (hn : H' b = none) : FpOk X pins H' b := by
  refine ⟨hn, Nat.ne_of_gt (Nat.lt_of_lt_of_le I.lt hb), I.nofs hb, .inr (Nat.le_trans I.sz hb), fun x c e z => ?_, fun p hp z => ?_⟩
  · obtain ⟨v, q⟩ := I.cell x c e
    exact absurd (Nat.lt_of_lt_of_le q.lt (by rw [z]; exact hb)) (Nat.lt_irrefl _)
  · exact absurd (Nat.lt_of_lt_of_le (Heap.lt_size (I.pin p hp).1) (by rw [z]; exact hb)) (Nat.lt_irrefl _)
structure Turn (P : Program) (w : World) (K : PySem.W.Frag) (tg : Expr) (J : It) (fp : List Addr) (it : Addr) (tn : Nat → Heap → Prop) : Prop where
  mem : it ∈ fp
  obj : ∀ i h, tn i h → ∀ b ∈ fp, ∃ o, h.get? b = some o ∧ ∀ v, o.data ≠ .cell v
  keep : ∀ i h h', tn i h → (∀ b ∈ fp, ∀ o, h.get? b = some o → h'.get? b = some o) → tn i h'
  item : ∀ (X : Cx), X.prog = P → X.w = w → X.K = K → X.calm = true → ∀ (i : Nat) (pins : List (Addr × Obj)) (s : Shared) (σ : St) (H : Hp) (E : Value → Shared → Prop), Inv X pins σ H s → (∀ b ∈ fp, FpOk X pins H b) → tn i s.heap → J.go i H →
    wpAny (model P w) X.A (pyNext (.ref it)) (fun r s1 => ∃ u, r = some u ∧
      wpAny (model P w) X.A (letOwnedTupleGo tg (.ref it) u) (fun _ s2 => ∃ x H', Inv X pins σ H' s2 ∧ RelV x u ∧ J.yld i H x H' ∧ tn (i + 1) s2.heap ∧ ∀ b ∈ fp, H' b = none) E s1) E s
  done : ∀ (X : Cx), X.prog = P → X.w = w → X.K = K → X.calm = true → ∀ (i : Nat) (pins : List (Addr × Obj)) (s : Shared) (σ : St) (H : Hp) (E : Value → Shared → Prop), Inv X pins σ H s → (∀ b ∈ fp, FpOk X pins H b) → tn i s.heap → J.stop i H →
    wpAny (model P w) X.A (pyNext (.ref it)) (fun r s1 => r = none ∧ Inv X pins σ H s1) E s
  self : ∀ (A : Around) (i : Nat) (s : Shared) (Q : Value → Shared → Prop) (E : Value → Shared → Prop), tn i s.heap → Q (.ref it) s → wpAny (model P w) A (pyIter (.ref it)) Q E s
abbrev TI := St → Hp → (It → Hp → Prop) → Prop
def PIE (X : Cx) (pins : List (Addr × Obj)) (σ : St) (tg : Expr) (R : It → Hp → Prop) (itv : Value) (s2 : Shared) : Prop :=
  ∃ (it : Addr) (fp : List Addr) (tn : Nat → Heap → Prop) (J : It) (H' : Hp), itv = .ref it ∧ Inv X pins σ H' s2 ∧ Turn X.prog X.w X.K tg J fp it tn ∧ tn 0 s2.heap ∧ (∀ b ∈ fp, FpOk X pins H' b) ∧ R J H'
def PI (X : Cx) (tg iter : Expr) (wi : TI) : Prop :=
  ∀ (pins : List (Addr × Obj)) (s : Shared) (σ : St) (H : Hp) (R : It → Hp → Prop), Inv X pins σ H s → wi σ H R →
    wpAny (model X.prog X.w) X.A (eval iter X.env) (fun v s1 => wpAny (model X.prog X.w) X.A (pyIter v) (PIE X pins σ tg R) X.xe s1) X.xe s
theorem go_of {M : Model} {A : Around} {E : Value → Shared → Prop} {s : Shared} {tg : Expr} {it : Addr} {u : Value} {o : Obj} {n : String} {vs : Array Value} {Q : Unit → Shared → Prop} (ho : s.heap.get? it = some o) (hc : o.cls = .type n) (hd : o.data = .fields vs)
    (hn : ["enumerate", "zip", "dict_itemiterator", "dict_reverseitemiterator", "odict_iterator", "itertools.zip_longest", "itertools.pairwise"].contains n = false) (hQ : Q () s) : wpAny M A (letOwnedTupleGo tg (.ref it) u) Q E s := by
  unfold letOwnedTupleGo
  cases tg <;> first
    | exact wpAny_pure hQ
    | (cases u <;> first
        | exact wpAny_pure hQ
        | (refine wpAny_bind (wpAny_load ho ?_)
           rw [hc, hd]
           show wpAny M A (if (["enumerate", "zip", "dict_itemiterator", "dict_reverseitemiterator", "odict_iterator", "itertools.zip_longest", "itertools.pairwise"].contains n && vs[0]? == some (rawInt _)) = true then _ else _) Q E s
           rw [if_neg (by intro h; rw [hn, Bool.false_and] at h; cases h)]
           exact wpAny_pure hQ))
def Itl (K : PySem.W.Frag) (a : Addr) : It :=
  ⟨fun i H => ∃ xs x, SqL K H a xs ∧ xs[i]? = some x, fun i H x H' => H' = H ∧ ∀ xs, SqL K H a xs → xs[i]? = some x, fun i H => ∃ xs, SqL K H a xs ∧ xs.length ≤ i⟩
def Itt (K : PySem.W.Frag) (a : Addr) : It :=
  ⟨fun i H => ∃ xs x, SqT K H a xs ∧ xs[i]? = some x, fun i H x H' => H' = H ∧ ∀ xs, SqT K H a xs → xs[i]? = some x, fun i H => ∃ xs, SqT K H a xs ∧ xs.length ≤ i⟩
def Itr (lo : Int) (n : Nat) : It := ⟨fun i _ => i < n, fun i H x H' => H' = H ∧ x = .int (lo + i), fun i _ => n ≤ i⟩
theorem turn_list {P : Program} {w : World} {K : PySem.W.Frag} {tg : Expr} (a it : Addr) : Turn P w K tg (Itl K a) [it] it (fun i h => h.IsListIter it a i) where
  mem := by simp
  obj := fun i h st b hb => by
    have e : b = it := by simpa using hb
    subst e
    obtain ⟨o, e, c, d⟩ := st
    exact ⟨o, e, fun v z => by rw [d] at z; cases z⟩
  keep := fun i h h' st k => st.at fun o e => k it (by simp) o e
  item := by
    intro X hP hw hK hc i pins s σ H E I hf st hg
    subst hP hw hK
    obtain ⟨xs, x, hq, hx⟩ := hg
    obtain ⟨its, rv, p, hz⟩ := I.list hq
    obtain ⟨u, hu, ru⟩ := rv.get hx
    obtain ⟨f0, f1, f2, f3, f4, f5⟩ := hf it (by simp)
    refine wpAny_pyNext_list_item st p.isList (x := u) (by simpa using hu) fun h' st' sb => ?_
    have I1 : Inv X pins σ H { s with heap := h' } := I.turned (t' := s.toks) (fun b o hb e => (sb.2 b hb).trans e) f0 f1 f3 f4 f5
    obtain ⟨o, e, c, d⟩ := id st'
    exact ⟨u, rfl, go_of (s := { s with heap := h' }) e c d (by decide) ⟨x, H, I1, ru, ⟨rfl, fun ys hy => by rw [I.list_inj hy hq]; exact hx⟩, st', fun b hb => (hf b hb).1⟩⟩
  done := by
    intro X hP hw hK hc i pins s σ H E I hf st hg
    subst hP hw hK
    obtain ⟨xs, hq, hx⟩ := hg
    obtain ⟨its, rv, p, hz⟩ := I.list hq
    obtain ⟨f0, f1, f2, f3, f4, f5⟩ := hf it (by simp)
    have hl := rv.length
    exact wpAny_pyNext_list_end (I.ok.hd hc) st p.isList (by simp; omega) fun h' eb => ⟨rfl, I.turned (t' := s.toks) (fun b o hb e => eb b o hb e) f0 f1 f3 f4 f5⟩
  self := fun _ _ _ _ _ st h => wpAny_pyIter_listiter st h
theorem turn_tuple {P : Program} {w : World} {K : PySem.W.Frag} {tg : Expr} (a it : Addr) : Turn P w K tg (Itt K a) [it] it (fun i h => h.IsTupleIter it a i) where
  mem := by simp
  obj := fun i h st b hb => by
    have e : b = it := by simpa using hb
    subst e
    obtain ⟨o, e, c, d⟩ := st
    exact ⟨o, e, fun v z => by rw [d] at z; cases z⟩
  keep := fun i h h' st k => st.at fun o e => k it (by simp) o e
  item := by
    intro X hP hw hK hc i pins s σ H E I hf st hg
    subst hP hw hK
    obtain ⟨xs, x, hq, hx⟩ := hg
    obtain ⟨its, rv, p, hz⟩ := I.tuple hq
    obtain ⟨u, hu, ru⟩ := rv.get hx
    obtain ⟨f0, f1, f2, f3, f4, f5⟩ := hf it (by simp)
    refine wpAny_pyNext_tuple_item st (show s.heap.IsTuple a its.toArray from p) (x := u) (by simpa using hu) fun h' st' sb => ?_
    have I1 : Inv X pins σ H { s with heap := h' } := I.turned (t' := s.toks) (fun b o hb e => (sb.2 b hb).trans e) f0 f1 f3 f4 f5
    obtain ⟨o, e, c, d⟩ := id st'
    exact ⟨u, rfl, go_of (s := { s with heap := h' }) e c d (by decide) ⟨x, H, I1, ru, ⟨rfl, fun ys hy => by rw [I.tuple_inj hy hq]; exact hx⟩, st', fun b hb => (hf b hb).1⟩⟩
  done := by
    intro X hP hw hK hc i pins s σ H E I hf st hg
    subst hP hw hK
    obtain ⟨xs, hq, hx⟩ := hg
    obtain ⟨its, rv, p, hz⟩ := I.tuple hq
    obtain ⟨f0, f1, f2, f3, f4, f5⟩ := hf it (by simp)
    have hl := rv.length
    exact wpAny_pyNext_tuple_end (I.ok.hd hc) st (show s.heap.IsTuple a its.toArray from p) (by simp; omega) fun h' eb => ⟨rfl, I.turned (t' := s.toks) (fun b o hb e => eb b o hb e) f0 f1 f3 f4 f5⟩
  self := fun _ _ _ _ _ st h => wpAny_pyIter_tupleiter st h
theorem turn_range {P : Program} {w : World} {K : PySem.W.Frag} {tg : Expr} (it : Addr) (lo : Int) (n : Nat) : Turn P w K tg (Itr lo n) [it] it (fun i h => IsRangeIter h it (lo + (i : Nat) * 1) ((n : Int) - (i : Nat)) 1) where
  mem := by simp
  obj := fun i h st b hb => by
    have e : b = it := by simpa using hb
    subst e
    exact ⟨_, st, fun v z => by
      have z' : Data.fields _ = Data.cell v := z
      cases z'⟩
  keep := fun i h h' st k => k it (by simp) _ st
  item := by
    intro X hP hw hK hc i pins s σ H E I hf st hg
    subst hP hw hK
    obtain ⟨f0, f1, f2, f3, f4, f5⟩ := hf it (by simp)
    have W := Walks.range (prog := X.prog) (w := X.w) (I.ok.hd hc) it lo 1 n
    refine W.item i s _ _ hg st fun v h' tk hv st' kk => ?_
    obtain ⟨t, rfl⟩ := hv
    have I1 : Inv X pins σ H { s with heap := h', toks := tk } := I.turned (fun b o hb e => kk b o (by simpa using hb) e) f0 f1 f3 f4 f5
    refine ⟨_, rfl, go_of (s := { s with heap := h', toks := tk }) (n := "range_iterator") st' rfl rfl (by decide) ⟨.int (lo + i), H, I1, ⟨t, ?_⟩, ⟨rfl, rfl⟩, st', fun b hb => (hf b hb).1⟩⟩
    rw [Int.mul_one]
  done := by
    intro X hP hw hK hc i pins s σ H E I hf st hg
    subst hP hw hK
    obtain ⟨f0, f1, f2, f3, f4, f5⟩ := hf it (by simp)
    exact wpAny_pyNext_range_end (I.ok.hd hc) st (by have : n ≤ i := hg; omega) fun h' eb => ⟨rfl, I.turned (t' := s.toks) (fun b o hb e => eb b o hb e) f0 f1 f3 f4 f5⟩
  self := fun _ _ _ _ _ st h => wpAny_pyIter_rangeiter st h
end L2
namespace L2
open PySem PySem.Spec PyProof.Rows
section
variable {X : Cx} {tg : Expr}
def iList (K : PySem.W.Frag) (tl : TE) : TI := fun σ H R => tl σ H fun x H1 => ∃ a, x = .ref a ∧ (∃ xs, SqL K H1 a xs) ∧ R (Itl K a) H1
def iTup (K : PySem.W.Frag) (tl : TE) : TI := fun σ H R => tl σ H fun x H1 => ∃ a, x = .ref a ∧ (∃ xs, SqT K H1 a xs) ∧ R (Itt K a) H1
theorem pi_list {l : Expr} {tl : TE} (hl : PE X l tl) : PI X tg l (iList X.K tl) := by
  intro pins s σ H R I h
  refine thn (hl pins s σ H _ I h) fun v s1 ⟨x, H1, I1, r1, q1⟩ => ?_
  obtain ⟨a, e, ⟨xs, hq⟩, q⟩ := q1
  subst e
  cases r1
  obtain ⟨its, rv, p, hz⟩ := I1.list hq
  refine wpAny_pyIter_list p.isList ?_
  refine ⟨s1.heap.objs.size, [s1.heap.objs.size], _, _, H1, rfl, I1.kept (t' := s1.toks) fun b o e => Heap.get?_push_of_some _ e, turn_list a _, ⟨_, Heap.get?_push_size _ rfl, rfl, rfl⟩, fun b hb => ?_, q⟩
  have e : b = s1.heap.objs.size := by simpa using hb
  subst e
  exact I1.fpOk (Nat.le_refl _) (I1.hok.fresh (Nat.le_refl _))
theorem pi_tup {l : Expr} {tl : TE} (hl : PE X l tl) : PI X tg l (iTup X.K tl) := by
  intro pins s σ H R I h
  refine thn (hl pins s σ H _ I h) fun v s1 ⟨x, H1, I1, r1, q1⟩ => ?_
  obtain ⟨a, e, ⟨xs, hq⟩, q⟩ := q1
  subst e
  cases r1
  obtain ⟨its, rv, p, hz⟩ := I1.tuple hq
  refine wpAny_pyIter_tuple (show s1.heap.IsTuple a its.toArray from p) ?_
  refine ⟨s1.heap.objs.size, [s1.heap.objs.size], _, _, H1, rfl, I1.kept (t' := s1.toks) fun b o e => Heap.get?_push_of_some _ e, turn_tuple a _, ⟨_, Heap.get?_push_size _ rfl, rfl, rfl⟩, fun b hb => ?_, q⟩
  have e : b = s1.heap.objs.size := by simpa using hb
  subst e
  exact I1.fpOk (Nat.le_refl _) (I1.hok.fresh (Nat.le_refl _))
theorem range_it {pins : List (Addr × Obj)} {σ : St} {H : Hp} {s : Shared} {R : It → Hp → Prop} {E : Value → Shared → Prop} {lo hi : Int} {t u v : Tok} {tk : Nat} (I : Inv X pins σ H s) (h1 : -(2 ^ 62) ≤ lo) (h2 : lo < 2 ^ 62) (h3 : -(2 ^ 62) ≤ hi) (h4 : hi < 2 ^ 62)
    (q : R (Itr lo (hi - lo).toNat) H) : wpAny (model X.prog X.w) X.A (pyIter (.ref s.heap.objs.size)) (PIE X pins σ tg R) E { s with heap := s.heap.push { cls := .type "range", data := .fields #[.int lo t, .int hi u, .int 1 v] }, toks := tk } := by
  refine wpAny_pyIter_range (IsRange.new ..) (small_one h1 h2 h3 h4) ?_
  have I1 : Inv X pins σ H { s with heap := s.heap.push { cls := .type "range", data := .fields #[.int lo t, .int hi u, .int 1 v] }, toks := tk } := I.kept fun b o e => Heap.get?_push_of_some _ e
  refine ⟨(s.heap.push { cls := .type "range", data := .fields #[.int lo t, .int hi u, .int 1 v] }).objs.size, [(s.heap.push { cls := .type "range", data := .fields #[.int lo t, .int hi u, .int 1 v] }).objs.size], _, _, H, rfl,
    I1.kept (t' := tk) fun b o e => Heap.get?_push_of_some _ e, turn_range _ lo (hi - lo).toNat, ?_, fun b hb => ?_, q⟩
  · have e1 : lo + ((0 : Nat) : Int) * 1 = lo := by simp
    have e2 : (((hi - lo).toNat : Nat) : Int) - ((0 : Nat) : Int) = Builtin.Range.rangeSize lo hi 1 := by rw [rangeSize_one]; split <;> omega
    show IsRangeIter _ _ (lo + ((0 : Nat) : Int) * 1) ((((hi - lo).toNat : Nat) : Int) - ((0 : Nat) : Int)) 1
    rw [e1, e2]
    exact Heap.get?_push_size _ rfl
  · have e : b = (s.heap.push { cls := .type "range", data := .fields #[.int lo t, .int hi u, .int 1 v] }).objs.size := by simpa using hb
    subst e
    exact I1.fpOk (Nat.le_refl _) (I1.hok.fresh (Nat.le_refl _))
def iRng1 (ta : TA) : TI := fun σ H R => ta σ H fun vs H1 => ∃ j : Int, vs = [.int j] ∧ -(2 ^ 62) ≤ j ∧ j < 2 ^ 62 ∧ R (Itr 0 j.toNat) H1
def iRng2 (ta : TA) : TI := fun σ H R => ta σ H fun vs H1 => ∃ i j : Int, vs = [.int i, .int j] ∧ (-(2 ^ 62) ≤ i ∧ i < 2 ^ 62 ∧ -(2 ^ 62) ≤ j ∧ j < 2 ^ 62) ∧ R (Itr i (j - i).toNat) H1
theorem pi_range1 {a : Expr} {ta : TA} {p pos : Pos} (hg : Gl X "range") (hm : X.mg "range" = none) (ha : PA X [a] ta) (hs : starEach [a] X.env = [(false, eval a X.env)] := by rfl) : PI X tg (.Call (.Name "range" p) [a] [] pos) (iRng1 ta) := by
  intro pins s σ H R I h
  refine Call_ (ld_blt I hg hm boot_range (PyProof.Rows.callWith_type1 (thn (ha pos pins s σ H _ I h) fun us s1 ⟨vs, H1, I1, r1, q1⟩ => ?_) hs rfl))
  obtain ⟨j, e, q1, q2, q⟩ := q1
  subst e
  cases r1 with
  | cons r rr =>
    cases rr
    obtain ⟨t, rfl⟩ := r
    exact call_range_1 (range_it I1 (by omega) (by omega) q1 q2 (by simpa using q))
theorem pi_range2 {a b : Expr} {ta : TA} {p pos : Pos} (hg : Gl X "range") (hm : X.mg "range" = none) (ha : PA X [a, b] ta) (hs : starEach [a, b] X.env = [(false, eval a X.env), (false, eval b X.env)] := by rfl) (hs2 : starEach [b] X.env = [(false, eval b X.env)] := by rfl) :
    PI X tg (.Call (.Name "range" p) [a, b] [] pos) (iRng2 ta) := by
  intro pins s σ H R I h
  refine Call_ (ld_blt I hg hm boot_range (PyProof.Rows.callWith_type1 (thn (ha pos pins s σ H _ I h) fun us s1 ⟨vs, H1, I1, r1, q1⟩ => ?_) (by rw [hs, hs2]) (by rw [hs2]; rfl)))
  obtain ⟨i, j, e, ⟨q1, q2, q3, q4⟩, q⟩ := q1
  subst e
  cases r1 with
  | cons r rr =>
    cases rr with
    | cons r' rr =>
      cases rr
      obtain ⟨t, rfl⟩ := r
      obtain ⟨t', rfl⟩ := r'
      exact call_range_2 (range_it I1 q1 q2 q3 q4 q)
def tFor (wi : TI) (g : TG) (tb : TS) : TS := fun D σ H => wi σ H fun J H1 => ∃ W : Nat → Nat → St → Hp → Prop, (∃ m, W 0 m σ H1) ∧ ∀ i m σ H, W i m σ H →
  (J.stop i H ∧ D.nx σ H) ∨ (J.go i H ∧ ∃ N : St → Hp → Prop, (∀ σ' H', N σ' H' → ∃ m', m' < m ∧ W (i + 1) m' σ' H') ∧ ∀ x H', J.yld i H x H' → g x σ H' fun σ2 H2 => tb { D with nx := N, ct := N, bk := D.nx } σ2 H2)
def pinsAt (fp : List Addr) (h : Heap) : List (Addr × Obj) := fp.filterMap fun b => (h.get? b).map fun o => (b, o)
theorem mem_pinsAt {fp : List Addr} {h : Heap} {b : Addr} {o : Obj} (hb : b ∈ fp) (e : h.get? b = some o) : (b, o) ∈ pinsAt fp h := List.mem_filterMap.mpr ⟨b, hb, by rw [e]; rfl⟩
theorem of_pinsAt {fp : List Addr} {h : Heap} {p : Addr × Obj} (hp : p ∈ pinsAt fp h) : p.1 ∈ fp ∧ h.get? p.1 = some p.2 := by
  obtain ⟨b, hb, e⟩ := List.mem_filterMap.mp hp
  cases q : h.get? b with
  | none => rw [q] at e; cases e
  | some o =>
    rw [q] at e
    have e' : (b, o) = p := Option.some.inj e
    subst e'
    exact ⟨hb, q⟩
theorem Inv.pinned {pins : List (Addr × Obj)} {σ : St} {H : Hp} {s : Shared} {fp : List Addr} (I : Inv X pins σ H s) (hf : ∀ b ∈ fp, FpOk X pins H b) (ho : ∀ b ∈ fp, ∃ o, s.heap.get? b = some o ∧ ∀ v, o.data ≠ .cell v) : Inv X (pins ++ pinsAt fp s.heap) σ H s :=
  I.pins_of fun p hp => (List.mem_append.mp hp).elim (fun z => I.pin p (List.mem_append_right _ z)) fun z => by
    obtain ⟨hb, e⟩ := of_pinsAt z
    obtain ⟨f0, f1, f2, _⟩ := hf p.1 hb
    obtain ⟨o, e', d⟩ := ho p.1 hb
    rw [e] at e'; cases e'
    exact ⟨e, f0, f1, f2, d⟩
theorem Inv.unpinned {pins pl : List (Addr × Obj)} {σ : St} {H : Hp} {s : Shared} (I : Inv X (pins ++ pl) σ H s) : Inv X pins σ H s := I.pins_of fun p hp => I.pin p (List.mem_append_right _ (List.mem_append_left _ hp))
theorem ps_for {iter : Expr} {body : List Stmt} {wi : TI} {g : TG} {tb : TS} {pos : Pos} (hp : PassesOwn (model X.prog X.w) X.A X.env X.xe) (hc : X.calm = true) (hi : PI X tg iter wi) (hg : PG X tg g) (hb : PSs X body tb)
    (hs : ∀ x, foldedSetIterable iter X.env x = pure x := by intro _; rfl) : PS X (.For tg iter body [] pos) (tFor wi g tb) := by
  intro pins s σ H D I h
  refine wpAny_For (thn (hi pins s σ H _ I h) fun v s1 h1 => thn h1 fun itv s2 h2 => ?_) hs
  obtain ⟨it, fp, tn, J, H2, e, I2, T, st2, f2, W, ⟨m0, w0⟩, turn⟩ := h2
  subst e
  -- what stays true of the iterator's objects through the loop
  have stat : ∀ {H' : Hp}, (∀ b ∈ fp, H' b = none) → ∀ b ∈ fp, FpOk X pins H' b := fun hn b hb => ⟨hn b hb, (f2 b hb).2⟩
  refine codeAny_forLoop_any (fun n s' => ∃ i σ' H', Inv X pins σ' H' s' ∧ tn i s'.heap ∧ (∀ b ∈ fp, H' b = none) ∧ W i n σ' H') ?_ m0 ⟨0, σ, H2, I2, st2, fun b hb => (f2 b hb).1, w0⟩
  rintro n s3 ⟨i, σ3, H3, I3, st3, fr3, w3⟩
  rcases turn i n σ3 H3 w3 with ⟨stop, qn⟩ | ⟨go, N, hN, step⟩
  · refine wpAny_passesOwn hp (thn (T.done X rfl rfl rfl hc i pins s3 σ3 H3 X.xe I3 (stat fr3) st3 stop) fun r s4 ⟨hr, I4⟩ => ?_)
    subst hr
    exact wpAny_execs_nil ⟨σ3, H3, I4, qn⟩
  · refine wpAny_passesOwn hp (thn (T.item X rfl rfl rfl hc i pins s3 σ3 H3 X.xe I3 (stat fr3) st3 go) fun r s4 ⟨u, hr, h4⟩ => ?_)
    subst hr
    refine wpAny_passesOwn hp (thn h4 fun _ s5 ⟨x, H5, I5, r5, y5, st5, fr5⟩ => ?_)
    have I5' := I5.pinned (stat fr5) (T.obj _ _ st5)
    refine wpAny_passesOwn hp (thn (hg _ s5 σ3 H5 x u _ I5' r5 (step x H5 y5)) fun _ s6 ⟨σ6, H6, I6, q6⟩ => ?_)
    refine wpAny_passesOwn hp (thn (hb _ s6 σ6 H6 _ I6 q6) fun f s7 q7 => ?_)
    have again : ∀ {σ7 : St} {H7 : Hp}, Inv X (pins ++ pinsAt fp s5.heap) σ7 H7 s7 → N σ7 H7 → ∃ m, m < n ∧ ∃ i σ' H', Inv X pins σ' H' s7 ∧ tn i s7.heap ∧ (∀ b ∈ fp, H' b = none) ∧ W i m σ' H' := fun {σ7 H7} I7 n7 => by
      obtain ⟨m', hm, w7⟩ := hN σ7 H7 n7
      refine ⟨m', hm, i + 1, σ7, H7, I7.unpinned, T.keep _ _ _ st5 fun b hb o e => (I7.pin (b, o) (List.mem_append_right _ (List.mem_append_right _ (mem_pinsAt hb e)))).1, fun b hb => ?_, w7⟩
      obtain ⟨o, e, d⟩ := T.obj _ _ st5 b hb
      exact (I7.pin (b, o) (List.mem_append_right _ (List.mem_append_right _ (mem_pinsAt hb e)))).2.1
    cases f with
    | next => obtain ⟨σ7, H7, I7, n7⟩ := q7; exact again I7 n7
    | cont => obtain ⟨σ7, H7, I7, n7⟩ := q7; exact again I7 n7
    | brk => obtain ⟨σ7, H7, I7, q7⟩ := q7; exact ⟨σ7, H7, I7.unpinned, q7⟩
    | ret v => obtain ⟨x7, σ7, H7, I7, r7, q7⟩ := q7; exact ⟨x7, σ7, H7, I7.unpinned, r7, q7⟩
end
theorem for_list {K : PySem.W.Frag} {a : Addr} {xs : List V} {g : TG} {tb : TS} {D : Ends} {σ : St} {H : Hp} (Pv : Nat → St → Hp → Prop) (h0 : Pv 0 σ H) (hl : ∀ i σ H, i ≤ xs.length → Pv i σ H → SqL K H a xs)
    (hs : ∀ i x σ H, xs[i]? = some x → Pv i σ H → g x σ H fun σ2 H2 => tb { D with nx := Pv (i + 1), ct := Pv (i + 1), bk := D.nx } σ2 H2) (hd : ∀ σ H, Pv xs.length σ H → D.nx σ H) :
    ∃ W : Nat → Nat → St → Hp → Prop, (∃ m, W 0 m σ H) ∧ ∀ i m σ H, W i m σ H →
      ((Itl K a).stop i H ∧ D.nx σ H) ∨ ((Itl K a).go i H ∧ ∃ N : St → Hp → Prop, (∀ σ' H', N σ' H' → ∃ m', m' < m ∧ W (i + 1) m' σ' H') ∧ ∀ x H', (Itl K a).yld i H x H' → g x σ H' fun σ2 H2 => tb { D with nx := N, ct := N, bk := D.nx } σ2 H2) := by
  refine ⟨fun i m σ H => m = xs.length - i ∧ i ≤ xs.length ∧ Pv i σ H, ⟨xs.length, by simp, Nat.zero_le _, h0⟩, ?_⟩
  rintro i m σ H ⟨rfl, hi, p⟩
  have q := hl i σ H hi p
  by_cases hlt : i < xs.length
  · refine .inr ⟨⟨xs, xs[i], q, by simp [hlt]⟩, Pv (i + 1), fun σ' H' p' => ⟨xs.length - (i + 1), by omega, rfl, hlt, p'⟩, fun x H' y => ?_⟩
    obtain ⟨e, y⟩ := y
    subst e
    exact hs i x σ _ (y xs q) p
  · have e : i = xs.length := by omega
    subst e
    exact .inl ⟨⟨xs, q, Nat.le_refl _⟩, hd σ H p⟩
theorem for_tup {K : PySem.W.Frag} {a : Addr} {xs : List V} {g : TG} {tb : TS} {D : Ends} {σ : St} {H : Hp} (Pv : Nat → St → Hp → Prop) (h0 : Pv 0 σ H) (hl : ∀ i σ H, i ≤ xs.length → Pv i σ H → SqT K H a xs)
    (hs : ∀ i x σ H, xs[i]? = some x → Pv i σ H → g x σ H fun σ2 H2 => tb { D with nx := Pv (i + 1), ct := Pv (i + 1), bk := D.nx } σ2 H2) (hd : ∀ σ H, Pv xs.length σ H → D.nx σ H) :
    ∃ W : Nat → Nat → St → Hp → Prop, (∃ m, W 0 m σ H) ∧ ∀ i m σ H, W i m σ H →
      ((Itt K a).stop i H ∧ D.nx σ H) ∨ ((Itt K a).go i H ∧ ∃ N : St → Hp → Prop, (∀ σ' H', N σ' H' → ∃ m', m' < m ∧ W (i + 1) m' σ' H') ∧ ∀ x H', (Itt K a).yld i H x H' → g x σ H' fun σ2 H2 => tb { D with nx := N, ct := N, bk := D.nx } σ2 H2) := by
  refine ⟨fun i m σ H => m = xs.length - i ∧ i ≤ xs.length ∧ Pv i σ H, ⟨xs.length, by simp, Nat.zero_le _, h0⟩, ?_⟩
  rintro i m σ H ⟨rfl, hi, p⟩
  have q := hl i σ H hi p
  by_cases hlt : i < xs.length
  · refine .inr ⟨⟨xs, xs[i], q, by simp [hlt]⟩, Pv (i + 1), fun σ' H' p' => ⟨xs.length - (i + 1), by omega, rfl, hlt, p'⟩, fun x H' y => ?_⟩
    obtain ⟨e, y⟩ := y
    subst e
    exact hs i x σ _ (y xs q) p
  · have e : i = xs.length := by omega
    subst e
    exact .inl ⟨⟨xs, q, Nat.le_refl _⟩, hd σ H p⟩
theorem for_range {lo : Int} {n : Nat} {g : TG} {tb : TS} {D : Ends} {σ : St} {H : Hp} (Pv : Nat → St → Hp → Prop) (h0 : Pv 0 σ H)
    (hs : ∀ i σ H, i < n → Pv i σ H → g (.int (lo + i)) σ H fun σ2 H2 => tb { D with nx := Pv (i + 1), ct := Pv (i + 1), bk := D.nx } σ2 H2) (hd : ∀ σ H, Pv n σ H → D.nx σ H) :
    ∃ W : Nat → Nat → St → Hp → Prop, (∃ m, W 0 m σ H) ∧ ∀ i m σ H, W i m σ H →
      ((Itr lo n).stop i H ∧ D.nx σ H) ∨ ((Itr lo n).go i H ∧ ∃ N : St → Hp → Prop, (∀ σ' H', N σ' H' → ∃ m', m' < m ∧ W (i + 1) m' σ' H') ∧ ∀ x H', (Itr lo n).yld i H x H' → g x σ H' fun σ2 H2 => tb { D with nx := N, ct := N, bk := D.nx } σ2 H2) := by
  refine ⟨fun i m σ H => m = n - i ∧ i ≤ n ∧ Pv i σ H, ⟨n, by simp, Nat.zero_le _, h0⟩, ?_⟩
  rintro i m σ H ⟨rfl, hi, p⟩
  by_cases hlt : i < n
  · refine .inr ⟨hlt, Pv (i + 1), fun σ' H' p' => ⟨n - (i + 1), by omega, rfl, hlt, p'⟩, fun x H' y => ?_⟩
    obtain ⟨e, y⟩ := y
    subst e y
    exact hs i σ _ hlt p
  · have e : i = n := by omega
    subst e
    exact .inl ⟨Nat.le_refl _, hd σ H p⟩
end L2
namespace L2
open PySem PySem.Spec PyProof.Rows
abbrev R2 := V → V → Hp → VK → Prop
def OpR (X : Cx) (f : Value → Value → Sem Value) (r : R2) : Prop :=
  ∀ (pins : List (Addr × Obj)) (s : Shared) (σ : St) (H : Hp) (x y : V) (v u : Value) (Q : VK), Inv X pins σ H s → RelV x v → RelV y u → r x y H Q →
    wpAny (model X.prog X.w) X.A (f v u) (EP X pins σ Q) X.xe s
def UnR (X : Cx) (f : Value → Sem Value) (r : V → Hp → VK → Prop) : Prop :=
  ∀ (pins : List (Addr × Obj)) (s : Shared) (σ : St) (H : Hp) (x : V) (v : Value) (Q : VK), Inv X pins σ H s → RelV x v → r x H Q →
    wpAny (model X.prog X.w) X.A (f v) (EP X pins σ Q) X.xe s
def CallR (X : Cx) (f : Value) (r : List V → Hp → VK → Prop) : Prop :=
  ∀ (pins : List (Addr × Obj)) (s : Shared) (σ : St) (H : Hp) (xs : List V) (us : List Value) (Q : VK), Inv X pins σ H s → Vals xs us → r xs H Q →
    wpAny (model X.prog X.w) X.A (call f us) (EP X pins σ Q) X.xe s
def TruR (X : Cx) (r : V → Hp → (Bool → Hp → Prop) → Prop) : Prop :=
  ∀ (pins : List (Addr × Obj)) (s : Shared) (σ : St) (H : Hp) (x : V) (v : Value) (Q : Bool → Hp → Prop), Inv X pins σ H s → RelV x v → r x H Q →
    wpAny (model X.prog X.w) X.A (truthy v) (TP X pins σ Q) X.xe s
def tOp (r : R2) (ta tb : TE) : TE := fun σ H Q => ta σ H fun x H1 => tb σ H1 fun y H2 => r x y H2 Q
def tUn (r : V → Hp → VK → Prop) (ta : TE) : TE := fun σ H Q => ta σ H fun x H1 => r x H1 Q
def rI (C : Int → Int → Prop) (g : Int → Int → V) : R2 := fun x y H Q => ∃ i j, x = .int i ∧ y = .int j ∧ C i j ∧ Q (g i j) H
def rI0 (g : Int → Int → V) : R2 := fun x y H Q => ∃ i j, x = .int i ∧ y = .int j ∧ Q (g i j) H
def rU (g : Int → V) : V → Hp → VK → Prop := fun x H Q => ∃ i, x = .int i ∧ Q (g i) H
section
variable {X : Cx} {a b c : Expr} {ta tb tc : TE} {pos : Pos}
theorem binT (ha : PE X a ta) (hb : PE X b tb) {pins : List (Addr × Obj)} {s : Shared} {σ : St} {H : Hp} {R : V → V → Hp → Prop} (I : Inv X pins σ H s)
    (h : ta σ H fun x H1 => tb σ H1 fun y H2 => R x y H2) {Q : Value → Shared → Prop} {f : Value → Value → Sem Value}
    (hf : ∀ v u s2 x y H2, Inv X pins σ H2 s2 → RelV x v → RelV y u → R x y H2 → wpAny (model X.prog X.w) X.A (f v u) Q X.xe s2) :
    wpAny (model X.prog X.w) X.A (eval a X.env) (fun v s₁ => wpAny (model X.prog X.w) X.A (eval b X.env) (fun u s₂ => wpAny (model X.prog X.w) X.A (f v u) Q X.xe s₂) X.xe s₁) X.xe s := by
  refine thn (ha pins s σ H _ I h) fun v s1 ⟨x, H1, I1, r1, q1⟩ => ?_
  refine thn (hb pins s1 σ H1 _ I1 q1) fun u s2 ⟨y, H2, I2, r2, q2⟩ => ?_
  exact hf v u s2 x y H2 I2 r1 r2 q2
theorem pe_op {op : Operator} {r : R2} (ho : OpR X (binaryOp op) r) (ha : PE X a ta) (hb : PE X b tb) : PE X (.BinOp a op b pos) (tOp r ta tb) := by
  intro pins s σ H Q I h
  exact wpAny_BinOp (binT ha hb I h fun v u s2 x y H2 I2 rx ry q => ho pins s2 σ H2 x y v u Q I2 rx ry q)
theorem pe_un {op : UnaryOp} {r : V → Hp → VK → Prop} (ho : UnR X (unaryOp op) r) (ha : PE X a ta) : PE X (.UnaryOp op a pos) (tUn r ta) := by
  intro pins s σ H Q I h
  exact UnaryOp_ (thn (ha pins s σ H _ I h) fun v s1 ⟨x, H1, I1, r1, q1⟩ => ho pins s1 σ H1 x v Q I1 r1 q1)
theorem opI {f : Value → Value → Sem Value} {C : Int → Int → Prop} {g : Int → Int → Int}
    (rule : ∀ (i j : Int) (t u : Tok) (s : Shared) (Q : Value → Shared → Prop) (E : Value → Shared → Prop), C i j → Q (.int (g i j) s.toks) { s with toks := s.toks + 1 } → wpAny (model X.prog X.w) X.A (f (.int i t) (.int j u)) Q E s) :
    OpR X f (rI C fun i j => .int (g i j)) := by
  intro pins s σ H x y v u Q I rx ry h
  obtain ⟨i, j, rfl, rfl, hc, q⟩ := h
  obtain ⟨t, rfl⟩ := rx
  obtain ⟨t', rfl⟩ := ry
  exact rule i j t t' s _ _ hc ⟨.int (g i j), H, I.tok _, ⟨_, rfl⟩, q⟩
theorem opI0 {f : Value → Value → Sem Value} {g : Int → Int → Int}
    (rule : ∀ (i j : Int) (t u : Tok) (s : Shared) (Q : Value → Shared → Prop) (E : Value → Shared → Prop), Q (.int (g i j) s.toks) { s with toks := s.toks + 1 } → wpAny (model X.prog X.w) X.A (f (.int i t) (.int j u)) Q E s) :
    OpR X f (rI0 fun i j => .int (g i j)) := by
  intro pins s σ H x y v u Q I rx ry h
  obtain ⟨i, j, rfl, rfl, q⟩ := h
  obtain ⟨t, rfl⟩ := rx
  obtain ⟨t', rfl⟩ := ry
  exact rule i j t t' s _ _ ⟨.int (g i j), H, I.tok _, ⟨_, rfl⟩, q⟩
theorem opB0 {f : Value → Value → Sem Value} {g : Int → Int → Bool}
    (rule : ∀ (i j : Int) (t u : Tok) (s : Shared) (Q : Value → Shared → Prop) (E : Value → Shared → Prop), Q (.bool (g i j)) s → wpAny (model X.prog X.w) X.A (f (.int i t) (.int j u)) Q E s) :
    OpR X f (rI0 fun i j => .bl (g i j)) := by
  intro pins s σ H x y v u Q I rx ry h
  obtain ⟨i, j, rfl, rfl, q⟩ := h
  obtain ⟨t, rfl⟩ := rx
  obtain ⟨t', rfl⟩ := ry
  exact rule i j t t' s _ _ ⟨.bl (g i j), H, I, rfl, q⟩
def CDiv (i j : Int) : Prop := 0 < j ∧ j < 1073741824
def CMul (i j : Int) : Prop := (-(2 ^ 64) < i ∧ i < 2 ^ 64) ∨ (-(2 ^ 64) < j ∧ j < 2 ^ 64)
theorem CMul.ok {i j : Int} (h : CMul i j) : IntMulOk i j := by
  rcases h with ⟨h1, h2⟩ | ⟨h1, h2⟩
  · exact .of_left (intBits_le_64 h1 h2)
  · exact .of_right (intBits_le_64 h1 h2)
theorem op_add : OpR X (binaryOp .Add) (rI0 fun i j => .int (i + j)) := opI0 fun _ _ _ _ _ _ _ q => add_int q
theorem op_sub : OpR X (binaryOp .Sub) (rI0 fun i j => .int (i - j)) := opI0 fun _ _ _ _ _ _ _ q => sub_int q
theorem op_mul : OpR X (binaryOp .Mult) (rI CMul fun i j => .int (i * j)) := opI fun _ _ _ _ _ _ _ hc q => mul_int q hc.ok
theorem op_fdiv : OpR X (binaryOp .FloorDiv) (rI CDiv fun i j => .int (i / j)) := opI fun i j _ _ _ _ _ hc q => by
  have h1 : (0 : Int) < j := hc.1
  have h2 : j < 1073741824 := hc.2
  exact floordiv_int (by omega) (by rw [Int.fdiv_eq_ediv_of_nonneg i (by omega)]; exact q) (.inl (PyProof.noPylong_small (by omega)))
theorem op_mod : OpR X (binaryOp .Mod) (rI (fun _ j => 0 < j) fun i j => .int (i % j)) := opI fun i j _ _ _ _ _ hc q => by
  have h1 : (0 : Int) < j := hc
  exact mod_int' (by omega) (by rw [Int.fmod_eq_emod_of_nonneg i (by omega)]; exact q)
theorem unI {f : Value → Sem Value} {g : Int → Int}
    (rule : ∀ (i : Int) (t : Tok) (s : Shared) (Q : Value → Shared → Prop) (E : Value → Shared → Prop), Q (.int (g i) s.toks) { s with toks := s.toks + 1 } → wpAny (model X.prog X.w) X.A (f (.int i t)) Q E s) :
    UnR X f (rU fun i => .int (g i)) := by
  intro pins s σ H x v Q I rx h
  obtain ⟨i, rfl, q⟩ := h
  obtain ⟨t, rfl⟩ := rx
  exact rule i t s _ _ ⟨.int (g i), H, I.tok _, ⟨_, rfl⟩, q⟩
theorem un_neg : UnR X (unaryOp .USub) (rU fun i => .int (-i)) := unI fun _ _ _ _ _ q => neg_int q
end
def scal : V → V → Bool
  | .non, .non => true | .non, .int _ => true | .int _, .non => true | .non, .bl _ => true | .bl _, .non => true | .non, .str _ => true | .str _, .non => true
  | .int _, .int _ => true | .bl _, .bl _ => true | .str _, .str _ => true | .byt _, .byt _ => true
  | .int _, .str _ => true | .str _, .int _ => true | .bl _, .str _ => true | .str _, .bl _ => true
  | _, _ => false
def rEq : R2 := fun x y H Q => scal x y = true ∧ Q (.bl (decide (x = y))) H
def rNe : R2 := fun x y H Q => scal x y = true ∧ Q (.bl (!decide (x = y))) H
theorem dec_int {i j : Int} : decide (V.int i = V.int j) = (i == j) := by
  rw [Bool.eq_iff_iff]
  simp
theorem dec_bl {i j : Bool} : decide (V.bl i = V.bl j) = (i == j) := by
  rw [Bool.eq_iff_iff]
  simp
theorem dec_str {i j : Str} : decide (V.str i = V.str j) = (i == j) := by
  rw [Bool.eq_iff_iff]
  simp
theorem dec_byt {i j : Array UInt8} : decide (V.byt i = V.byt j) = (i.toList == j.toList) := by
  rw [Bool.eq_iff_iff]
  cases i
  cases j
  simp
section
variable {X : Cx} {a b c : Expr} {ta tb tc : TE} {pos : Pos}
theorem fin_bl {pins : List (Addr × Obj)} {σ : St} {H : Hp} {s : Shared} {Q : VK} {k k' : Bool} (I : Inv X pins σ H s) (q : Q (.bl k) H) (e : k = k') : EP X pins σ Q (.bool k') s := by
  subst e
  exact ⟨.bl k, H, I, rfl, q⟩
theorem op_eq : OpR X (compareOp .Eq) rEq := by
  intro pins s σ H x y v u Q I rx ry h
  obtain ⟨hs, q⟩ := h
  cases x with
  | non =>
    cases rx
    cases y with
    | non => cases ry; exact PySem.EqNone.eq_none_none (fin_bl I q (by simp))
    | bl j => cases ry; exact PySem.EqNone.eq_none_bool (fin_bl I q (by simp))
    | int j => obtain ⟨t', rfl⟩ := ry; exact PySem.EqNone.eq_none_int (fin_bl I q (by simp))
    | str j => obtain ⟨t', rfl⟩ := ry; exact PySem.EqNone.eq_none_str (fin_bl I q (by simp))
    | _ => exact absurd (show false = true from hs) Bool.false_ne_true
  | bl i =>
    cases rx
    cases y with
    | non => cases ry; exact PySem.EqNone.eq_bool_none (fin_bl I q (by simp))
    | bl j => cases ry; exact eq_bool (fin_bl I q dec_bl)
    | str j => obtain ⟨t', rfl⟩ := ry; exact PySem.EqMixed.eq_bool_str (fin_bl I q (by simp))
    | _ => exact absurd (show false = true from hs) Bool.false_ne_true
  | int i =>
    obtain ⟨t, rfl⟩ := rx
    cases y with
    | non => cases ry; exact PySem.EqNone.eq_int_none (fin_bl I q (by simp))
    | int j => obtain ⟨t', rfl⟩ := ry; exact eq_int (fin_bl I q dec_int)
    | str j => obtain ⟨t', rfl⟩ := ry; exact PySem.EqMixed.eq_int_str (fin_bl I q (by simp))
    | _ => exact absurd (show false = true from hs) Bool.false_ne_true
  | str i =>
    obtain ⟨t, rfl⟩ := rx
    cases y with
    | non => cases ry; exact PySem.EqNone.eq_str_none (fin_bl I q (by simp))
    | bl j => cases ry; exact PySem.EqMixed.eq_str_bool (fin_bl I q (by simp))
    | int j => obtain ⟨t', rfl⟩ := ry; exact PySem.EqMixed.eq_str_int (fin_bl I q (by simp))
    | str j => obtain ⟨t', rfl⟩ := ry; exact eq_str (fin_bl I q dec_str)
    | _ => exact absurd (show false = true from hs) Bool.false_ne_true
  | byt i =>
    obtain ⟨t, rfl⟩ := rx
    cases y with
    | byt j => obtain ⟨t', rfl⟩ := ry; exact PySem.W.eq_bytes (fin_bl I q dec_byt)
    | _ => exact absurd (show false = true from hs) Bool.false_ne_true
  | _ => cases y <;> exact absurd (show false = true from hs) Bool.false_ne_true
theorem op_ne : OpR X (compareOp .NotEq) rNe := by
  intro pins s σ H x y v u Q I rx ry h
  obtain ⟨hs, q⟩ := h
  cases x with
  | non =>
    cases rx
    cases y with
    | non => cases ry; exact PySem.EqNone.ne_none_none (fin_bl I q (by simp))
    | bl j => cases ry; exact PySem.EqNone.ne_none_bool (fin_bl I q (by simp))
    | int j => obtain ⟨t', rfl⟩ := ry; exact PySem.EqNone.ne_none_int (fin_bl I q (by simp))
    | str j => obtain ⟨t', rfl⟩ := ry; exact PySem.EqNone.ne_none_str (fin_bl I q (by simp))
    | _ => exact absurd (show false = true from hs) Bool.false_ne_true
  | bl i =>
    cases rx
    cases y with
    | non => cases ry; exact PySem.EqNone.ne_bool_none (fin_bl I q (by simp))
    | bl j => cases ry; exact ne_bool (fin_bl I q (congrArg not dec_bl))
    | str j => obtain ⟨t', rfl⟩ := ry; exact PySem.EqMixed.ne_bool_str (fin_bl I q (by simp))
    | _ => exact absurd (show false = true from hs) Bool.false_ne_true
  | int i =>
    obtain ⟨t, rfl⟩ := rx
    cases y with
    | non => cases ry; exact PySem.EqNone.ne_int_none (fin_bl I q (by simp))
    | int j => obtain ⟨t', rfl⟩ := ry; exact ne_int (fin_bl I q (congrArg not dec_int))
    | str j => obtain ⟨t', rfl⟩ := ry; exact PySem.EqMixed.ne_int_str (fin_bl I q (by simp))
    | _ => exact absurd (show false = true from hs) Bool.false_ne_true
  | str i =>
    obtain ⟨t, rfl⟩ := rx
    cases y with
    | non => cases ry; exact PySem.EqNone.ne_str_none (fin_bl I q (by simp))
    | bl j => cases ry; exact PySem.EqMixed.ne_str_bool (fin_bl I q (by simp))
    | int j => obtain ⟨t', rfl⟩ := ry; exact PySem.EqMixed.ne_str_int (fin_bl I q (by simp))
    | str j => obtain ⟨t', rfl⟩ := ry; exact ne_str (fin_bl I q (congrArg not dec_str))
    | _ => exact absurd (show false = true from hs) Bool.false_ne_true
  | byt i =>
    obtain ⟨t, rfl⟩ := rx
    cases y with
    | byt j => obtain ⟨t', rfl⟩ := ry; exact PySem.W.ne_bytes (fin_bl I q (congrArg not dec_byt))
    | _ => exact absurd (show false = true from hs) Bool.false_ne_true
  | _ => cases y <;> exact absurd (show false = true from hs) Bool.false_ne_true
theorem op_lt : OpR X (compareOp .Lt) (rI0 fun i j => .bl (decide (i < j))) := opB0 fun _ _ _ _ _ _ _ q => lt_int q
theorem op_le : OpR X (compareOp .LtE) (rI0 fun i j => .bl (decide (i ≤ j))) := opB0 fun _ _ _ _ _ _ _ q => le_int q
theorem op_gt : OpR X (compareOp .Gt) (rI0 fun i j => .bl (decide (j < i))) := opB0 fun _ _ _ _ _ _ _ q => gt_int q
theorem nomark (b : Expr) {op : CmpOp} (h : op ≠ .In := by decide) (h2 : op ≠ .NotIn := by decide) : behindInMarks op b = false := by
  have e1 : (op == CmpOp.In) = false := by cases op <;> first | rfl | exact absurd rfl h
  have e2 : (op == CmpOp.NotIn) = false := by cases op <;> first | rfl | exact absurd rfl h2
  cases b <;> simp [behindInMarks, e1, e2]
theorem pe_cmpR {op : CmpOp} {r : R2} (ho : OpR X (compareOp op) r) (ha : PE X a ta) (hb : PE X b tb) (hm : behindInMarks op b = false) : PE X (.Compare a [op] [b] pos) (tOp r ta tb) := by
  intro pins s σ H Q I h
  exact wpAny_Compare1 (binT ha hb I h fun v u s2 x y H2 I2 rx ry q => ho pins s2 σ H2 x y v u Q I2 rx ry q) hm
def tTest (t : TE) : TT := fun σ H Q => t σ H fun x H' => ∃ k, x = .bl k ∧ Q k H'
theorem pt_cmpR {op : CmpOp} {r : R2} (ho : OpR X (compareOp op) r) (ha : PE X a ta) (hb : PE X b tb) (hm : behindInMarks op b = false) : PT X (.Compare a [op] [b] pos) (tTest (tOp r ta tb)) := by
  intro pins s σ H Q I h
  refine wpAny_isTrue_Compare1 (thn (ha pins s σ H _ I h) fun v s1 ⟨x, H1, I1, r1, q1⟩ => thn (hb pins s1 σ H1 _ I1 q1) fun u s2 ⟨y, H2, I2, r2, q2⟩ =>
    thn (ho pins s2 σ H2 x y v u _ I2 r1 r2 q2) fun c s3 ⟨z, H3, I3, r3, k, e, q3⟩ => ?_) hm
  subst e
  cases r3
  exact wpAny_truthy_bool ⟨H3, I3, q3⟩
def tChain (r r' : R2) (ta tb tc : TE) : TE := fun σ H Q => ta σ H fun x H1 => tb σ H1 fun y H2 => r x y H2 fun z H3 => ∃ k, z = .bl k ∧
  (if k = true then tc σ H3 fun w' H4 => r' y w' H4 Q else Q (.bl false) H3)
theorem pt_chain {op op' : CmpOp} {r r' : R2} (ho : OpR X (compareOp op) r) (ho' : OpR X (compareOp op') r') (ha : PE X a ta) (hb : PE X b tb) (hc : PE X c tc)
    (hm : lastMarks [op, op'] [b, c] = false := by with_unfolding_all rfl) : PT X (.Compare a [op, op'] [b, c] pos) (tTest (tChain r r' ta tb tc)) := by
  intro pins s σ H Q I h
  refine isTrue_chain (thn (ha pins s σ H _ I h) fun v s1 ⟨x, H1, I1, r1, q1⟩ => test_link (thn (hb pins s1 σ H1 _ I1 q1) fun u s2 ⟨y, H2, I2, r2, q2⟩ =>
    thn (ho pins s2 σ H2 x y v u _ I2 r1 r2 q2) fun d s3 ⟨z, H3, I3, r3, k, e, q3⟩ => ?_)) hm
  subst e
  cases r3
  refine wpAny_truthy_bool ?_
  cases k with
  | false =>
    obtain ⟨k', e', q'⟩ := q3
    cases e'
    exact ite_ff ⟨H3, I3, q'⟩
  | true =>
    refine ite_tt (test_last (thn (hc pins s3 σ H3 _ I3 q3) fun w' s4 ⟨z', H4, I4, r4, q4⟩ => thn (ho' pins s4 σ H4 y z' u w' _ I4 r2 r4 q4) fun d' s5 ⟨z2, H5, I5, r5, k2, e2, q5⟩ => ?_))
    subst e2
    cases r5
    exact wpAny_truthy_bool ⟨H5, I5, q5⟩
def TruV (K : PySem.W.Frag) (x : V) (H : Hp) (k : Bool) : Prop :=
  match x with
  | .non => k = false
  | .bl b => k = b
  | .int i => k = (i != 0)
  | .str y => y.length ≤ sizeLine ∧ k = ((y.length : Int) != 0)
  | .byt y => y.size ≤ sizeLine ∧ k = ((y.size : Int) != 0)
  | .ref p => (∃ xs, SqL K H p xs ∧ k = !xs.isEmpty) ∨ (∃ xs, SqT K H p xs ∧ k = !xs.isEmpty) ∨ ∃ kvs, H p = some (.dK kvs) ∧ k = !kvs.isEmpty
  | _ => False
theorem isEmpty_kv {κ : Type} {kvs : List (κ × V)} {vs : List (κ × Value)} (r : KV kvs vs) : (!vs.isEmpty) = !kvs.isEmpty := by
  cases r <;> rfl
theorem isEmpty_of {xs : List V} {its : List Value} (r : Vals xs its) : (!its.toArray.isEmpty) = !xs.isEmpty := by
  cases r <;> simp
theorem line63 : (sizeLine : Nat) < 2 ^ 63 := by rw [sizeLine_eq]; decide
theorem tru_ok : TruR X (fun x H Q => ∃ k, TruV X.K x H k ∧ Q k H) := by
  intro pins s σ H x v Q I rx h
  obtain ⟨k, e, q⟩ := h
  have hl := line63
  have hs : sizeLine = 16777216 := sizeLine_eq
  cases x with
  | non =>
    cases rx
    have e' : k = false := e
    subst e'
    exact truthy_none ⟨H, I, q⟩
  | bl b =>
    cases rx
    have e' : k = b := e
    subst e'
    exact wpAny_truthy_bool ⟨H, I, q⟩
  | int i =>
    obtain ⟨t, rfl⟩ := rx
    have e' : k = (i != 0) := e
    subst e'
    exact PySem.P.truthy_int ⟨H, I, q⟩
  | str y =>
    obtain ⟨t, rfl⟩ := rx
    obtain ⟨hy, e'⟩ : y.length ≤ sizeLine ∧ k = ((y.length : Int) != 0) := e
    subst e'
    exact PySem.P.truthy_str (by omega) ⟨H, I.tok _, q⟩
  | byt y =>
    obtain ⟨t, rfl⟩ := rx
    obtain ⟨hy, e'⟩ : y.size ≤ sizeLine ∧ k = ((y.size : Int) != 0) := e
    subst e'
    exact PySem.W.truthy_bytes (by omega) ⟨H, I.tok _, q⟩
  | ref p =>
    cases rx
    have e' : (∃ xs, SqL X.K H p xs ∧ k = !xs.isEmpty) ∨ (∃ xs, SqT X.K H p xs ∧ k = !xs.isEmpty) ∨ ∃ kvs, H p = some (.dK kvs) ∧ k = !kvs.isEmpty := e
    rcases e' with ⟨xs, hx, e'⟩ | ⟨xs, hx, e'⟩ | ⟨kvs, hx, e'⟩
    · subst e'
      obtain ⟨its, r, pl, hz⟩ := I.list hx
      have hlen := r.length
      exact wpAny_truthy_list pl.isList (by simp only [List.size_toArray]; omega) ⟨H, I.tok _, by rw [isEmpty_of r]; exact q⟩
    · subst e'
      obtain ⟨its, r, pl, hz⟩ := I.tuple hx
      have hlen := r.length
      exact truthy_tuple pl (by simp only [List.size_toArray]; omega) ⟨H, I.tok _, by rw [isEmpty_of r]; exact q⟩
    · subst e'
      obtain ⟨hz, hS, vs, r, m⟩ : kvs.length ≤ sizeLine ∧ (p == sysModules) = false ∧ ∃ vs, KV kvs vs ∧ s.heap.DictOf (mixKind X.prog X.w) p vs := I.hok p _ hx
      have hlen : kvs.length = vs.length := Paired.length r
      exact wpAny_truthy_dict hS m (by omega) ⟨H, I.tok _, by rw [isEmpty_kv r]; exact q⟩
  | _ => exact (show False from e).elim
theorem pt_truth (ha : PE X a ta) (he : ∀ whole, isTrue a X.env whole = (do let v ← whole; standAt a.pos; holding [v] (truthy v))) :
    PT X a (fun σ H Q => ta σ H fun x H' => ∃ k, TruV X.K x H' k ∧ Q k H') := by
  intro pins s σ H Q I h
  exact isTrue_plain (thn (ha pins s σ H _ I h) fun v s1 ⟨x, H1, I1, r1, q1⟩ => tru_ok pins s1 σ H1 x v Q I1 r1 q1) (he _)
theorem vals1 {x : V} {us : List Value} (r : Vals [x] us) : ∃ u, us = [u] ∧ RelV x u := by
  cases r with
  | cons r1 r2 => cases r2; exact ⟨_, rfl, r1⟩
theorem vals2 {x y : V} {us : List Value} (r : Vals [x, y] us) : ∃ u w', us = [u, w'] ∧ RelV x u ∧ RelV y w' := by
  cases r with
  | cons r1 r2 =>
    cases r2 with
    | cons r3 r4 => cases r4; exact ⟨_, _, rfl, r1, r3⟩
theorem call_max2 (hc : X.calm = true) : CallR X (.builtin "max") (fun xs H Q => ∃ i j, xs = [.int i, .int j] ∧ Q (.int (if j > i then j else i)) H) := by
  intro pins s σ H xs us Q I r h
  obtain ⟨i, j, rfl, q⟩ := h
  obtain ⟨u, w', rfl, ⟨t, rfl⟩, ⟨t', rfl⟩⟩ := vals2 r
  refine max_two_ints (I.ok.hd hc) fun h' tk k => ⟨_, H, I.kept k, ?_, q⟩
  by_cases hj : j > i
  · rw [if_pos hj, if_pos hj]; exact ⟨_, rfl⟩
  · rw [if_neg hj, if_neg hj]; exact ⟨_, rfl⟩
theorem call_min2 (hc : X.calm = true) : CallR X (.builtin "min") (fun xs H Q => ∃ i j, xs = [.int i, .int j] ∧ Q (.int (if j < i then j else i)) H) := by
  intro pins s σ H xs us Q I r h
  obtain ⟨i, j, rfl, q⟩ := h
  obtain ⟨u, w', rfl, ⟨t, rfl⟩, ⟨t', rfl⟩⟩ := vals2 r
  refine min_two_ints (I.ok.hd hc) fun h' tk k => ⟨_, H, I.kept k, ?_, q⟩
  by_cases hj : j < i
  · rw [if_pos hj, if_pos hj]; exact ⟨_, rfl⟩
  · rw [if_neg hj, if_neg hj]; exact ⟨_, rfl⟩
end
end L2
namespace L2
open PySem PySem.Spec PyProof.Rows
structure ObjM (h : Heap) (x dx C : Addr) (mA : Str → Option Value) : Prop where
  obj : h.get? x = some (PySem.W.instObj C dx)
  ns : h.Ns1 dx mA
  ne : dx ≠ x
theorem lookIn_ns {h : Heap} {dx : Addr} {mA : Str → Option Value} (n : h.Ns1 dx mA) : ∃ od, h.get? dx = some od ∧ ∀ name, PySem.W.lookIn name od = some (mA name) := by
  obtain ⟨o, es, ep, ho, hd, hk, _, hm⟩ := n
  refine ⟨o, ho, fun name => ?_⟩
  have e := hm name
  unfold nsFind findBy at e
  rw [← Array.find?_toList] at e
  unfold PySem.W.lookIn
  rw [hd]
  dsimp only
  split
  · rename_i y q
    rw [q] at e
    exact congrArg some e
  · rename_i q
    rw [q] at e
    have a : es.toList.any (·.refKey) = false := by
      rw [List.any_eq_false]
      intro y hy
      obtain ⟨z, t, hkey⟩ := hk y (Array.mem_toList_iff.mp hy)
      simp [DictEntry.refKey, hkey]
    have a' : ¬ es.toList.any (·.refKey) = true := by rw [a]; exact Bool.false_ne_true
    rw [if_neg a']
    exact congrArg some e
theorem ObjM.look {h : Heap} {x dx C : Addr} {mA : Str → Option Value} (I : ObjM h x dx C mA) : ∃ od, PySem.W.InstAt h x (PySem.W.instObj C dx) C (some od) ∧ ∀ name, PySem.W.lookIn name od = some (mA name) :=
  let ⟨od, ho, hl⟩ := lookIn_ns I.ns
  ⟨od, ⟨I.obj, rfl, rfl, ho⟩, hl⟩
section
variable {prog : Program} {w : World} {A : Around} {E : Value → Shared → Prop} {s : Shared} {K : PySem.W.Frag} {x dx C f : Addr} {mA : Str → Option Value} {name : Str} {v : Value}
theorem get_map {expr : Bool} {Q : Value → Shared → Prop} (X : K.In s.heap) (I : ObjM s.heap x dx C mA) (hg : PySem.W.plainGet K C name = true) (hh : PySem.W.hasDictIn K C = true)
    (ha : PySem.W.findIn K (.ref C) name = some none) (hv : mA name = some v) (hv' : PySem.W.handedIn v = true) (h : Q v { s with toks := s.toks + 1 }) :
    wpAny (model prog w) A (getAttr (.ref x) name expr) Q E s := by
  obtain ⟨od, J, hl⟩ := I.look
  exact PySem.W.get_value X J (PySem.W.plainGet_of hg).1 (PySem.W.findObj_own hh ha rfl (by rw [hl, hv])) hv' h
theorem get_meth {pl : Sem Bool} {Q : Value × List Value → Shared → Prop} (X : K.In s.heap) (I : ObjM s.heap x dx C mA) (hg : PySem.W.plainGet K C name = true)
    (hf : PySem.W.findIn K (.ref C) name = some (some (.ref f))) (ht : PySem.W.isFn K (.ref f) = true) (hv : mA name = none) (h : Q (.ref f, [.ref x]) s) :
    wpAny (model prog w) A (getMethod (.ref x) name pl) Q E s := by
  obtain ⟨od, J, hl⟩ := I.look
  exact PySem.W.method_fn X J (PySem.W.plainGet_of hg).1 (PySem.W.plainGet_of hg).2 hf (beq_iff_eq.mp ht) (by show (PySem.W.lookIn name od).map (·.isSome) = some false; rw [hl, hv]; rfl) h
theorem set_map {ns : List Str} {Q : Unit → Shared → Prop} (X : K.In s.heap) (I : ObjM s.heap x dx C mA)
    (hs : PySem.W.findIn K (.ref C) "__setattr__" = some (some (.builtin "object.__setattr__"))) (hp : PySem.W.plainOver K C = true) (ht : PySem.W.takerIn K C name = some none) (hh : PySem.W.hasDictIn K C = true)
    (hw : PySem.Within mA ns) (hsz : ns.length ≤ sizeLine)
    (h : ∀ h', ObjM h' x dx C (fun y => if y = name then some v else mA y) → Heap.SameBut dx s.heap h' → Q () { s with heap := h', toks := s.toks + 2 }) :
    wpAny (model prog w) A (setAttr (.ref x) name v) Q E s := by
  obtain ⟨od, J, hl⟩ := I.look
  refine PySem.W.set_plain X J hs (PySem.W.osa_open (s := { s with toks := s.toks + 1 }) (r := none) X J hp ht fun b => ?_)
  obtain ⟨cd, hc, hd'⟩ := PySem.W.any_some hh
  have hx : s.heap.get? x = some ⟨.ref C, some dx, .plain, #[]⟩ := I.obj
  refine wpAny_bind (wpAny_pure (wpAny_bind (wpAny_bind (wpAny_loadPart hx (wpAny_bind (PySem.W.Looks.here (s := { s with toks := s.toks + 1 }) (PySem.W.looks_clsIn X hc) ?_))))))
  rw [hd']
  refine wpAny_pure (a := some dx) (wpAny_bind (wpAny_pure (wpAny_bind ?_)))
  refine wpAny_nsSet1 (s := { s with toks := s.toks + 1 }) I.ns fun h' hn2 hs2 => ?_
  obtain ⟨oD, esD, epD, hoD, hdD, hcD⟩ := hn2.count (PySem.Within.cons name v hw)
  refine wpAny_bind (wpAny_lookBehind hoD (by rw [hdD]; exact pastItsLine_dict (Nat.le_trans hcD (by rw [List.length_cons]; omega))) ?_)
  exact wpAny_pure (h _ ⟨(hs2.2 _ (Ne.symm I.ne)).trans I.obj, hn2, I.ne⟩ hs2)
theorem make_map {R : Result → Shared → Prop} {vs : List Value} {kw : List (Str × Value)} (X : K.In s.heap) (hm : PySem.W.makesIn K C = true)
    (hi : PySem.W.findIn K (.ref C) "__init__" = some (some (.ref f))) (hf : PySem.W.typeIn K (.ref f) = some (.type "function"))
    (h : codeAny (model prog w) (A.under (.builtin "type.__call__" ⟨.ref C :: vs, kw⟩)) (.call (.ref f) ⟨.ref (s.heap.objs.size + 1) :: vs, kw⟩) (PySem.W.InitBack (s.heap.objs.size + 1) R)
      { s with heap := (s.heap.push PySem.W.emptyDict).push (PySem.W.instObj C s.heap.objs.size) }) :
    codeAny (model prog w) A (.call (.ref C) ⟨vs, kw⟩) R s := by
  obtain ⟨hh, g, d, t, os⟩ := s
  exact PySem.W.make_core (PySem.W.makes_of X hm) (PySem.W.looks_findIn X hi) (fun self => PySem.W.bind_fn X self hf) (.inl rfl) h
end
def putF (f : Str) (v : V) : List (Str × V) → List (Str × V)
  | [] => [(f, v)]
  | (g, x) :: r => if g = f then (g, v) :: r else (g, x) :: putF f v r
theorem lookup_putF (f g : Str) (v : V) : ∀ fs : List (Str × V), (putF f v fs).lookup g = if g = f then some v else fs.lookup g
  | [] => by
    show List.lookup g [(f, v)] = _
    by_cases h : g = f
    · have hb : (g == f) = true := beq_iff_eq.mpr h
      simp only [List.lookup, hb, if_pos h]
    · have hb : (g == f) = false := beq_eq_false_iff_ne.mpr h
      simp only [List.lookup, hb, if_neg h]
  | (k, x) :: r => by
    have ih := lookup_putF f g v r
    rw [show putF f v ((k, x) :: r) = (if k = f then (k, v) :: r else (k, x) :: putF f v r) from rfl]
    by_cases hk : k = f
    · rw [if_pos hk]
      by_cases h : g = k
      · have hb : (g == k) = true := beq_iff_eq.mpr h
        simp only [List.lookup, hb, if_pos (h.trans hk)]
      · have hb : (g == k) = false := beq_eq_false_iff_ne.mpr h
        simp only [List.lookup, hb, if_neg (fun e : g = f => h (e.trans hk.symm))]
    · rw [if_neg hk]
      by_cases h : g = k
      · have hb : (g == k) = true := beq_iff_eq.mpr h
        simp only [List.lookup, hb, if_neg (fun e : g = f => hk (h.symm.trans e))]
      · have hb : (g == k) = false := beq_eq_false_iff_ne.mpr h
        simp only [List.lookup, hb]
        exact ih
theorem keys_putF (f : Str) (v : V) : ∀ fs : List (Str × V), f ∈ (putF f v fs).map (·.1) ∧ ∀ g, g ∈ fs.map (·.1) → g ∈ (putF f v fs).map (·.1)
  | [] => ⟨by simp [putF], fun g h => by simp at h⟩
  | (k, x) :: r => by
    obtain ⟨i1, i2⟩ := keys_putF f v r
    rw [show putF f v ((k, x) :: r) = (if k = f then (k, v) :: r else (k, x) :: putF f v r) from rfl]
    by_cases hk : k = f
    · rw [if_pos hk]
      subst hk
      exact ⟨by simp, fun g h => by simpa using h⟩
    · rw [if_neg hk]
      refine ⟨?_, fun g h => ?_⟩
      · rw [List.map_cons]
        exact List.mem_cons_of_mem _ i1
      · rw [List.map_cons] at h ⊢
        rcases List.mem_cons.mp h with e | e
        · exact List.mem_cons.mpr (.inl e)
        · exact List.mem_cons_of_mem _ (i2 g e)
theorem length_putF (f : Str) (v : V) : ∀ fs : List (Str × V), (putF f v fs).length ≤ fs.length + 1
  | [] => by simp [putF]
  | (k, x) :: r => by
    have ih := length_putF f v r
    rw [show putF f v ((k, x) :: r) = (if k = f then (k, v) :: r else (k, x) :: putF f v r) from rfl]
    by_cases hk : k = f
    · rw [if_pos hk, List.length_cons, List.length_cons]; omega
    · rw [if_neg hk, List.length_cons, List.length_cons]; omega
theorem RelO.some_of {v : V} {o : Option Value} (r : RelO (some v) o) : ∃ u, o = some u ∧ RelV v u := by
  cases o with
  | none => exact (show False from r).elim
  | some u => exact ⟨u, rfl, r⟩
theorem RelO.none_of {o : Option Value} (r : RelO none o) : o = none := by
  cases o with
  | none => rfl
  | some u => exact (show False from r).elim
theorem handed_of {v : V} {u : Value} (r : RelV v u) : PySem.W.handedIn u = true := by
  cases v with
  | non => cases (show u = Value.none from r); rfl
  | bl b => cases (show u = Value.bool b from r); rfl
  | int i => obtain ⟨t, e⟩ := (show ∃ t, u = Value.int i t from r); cases e; rfl
  | str x => obtain ⟨t, e⟩ := (show ∃ t, u = Value.str x t from r); cases e; rfl
  | byt b => obtain ⟨t, e⟩ := (show ∃ t, u = Value.bytes b t from r); cases e; rfl
  | flt b => obtain ⟨t, e⟩ := (show ∃ t, u = Value.float b t from r); cases e; rfl
  | ref a => cases (show u = Value.ref a from r); rfl
  | ty n => cases (show u = Value.type n from r); rfl
section
variable {P : Program} {w : World} {H H' : Hp} {h h' : Heap} {a C dx : Addr} {fs fs' : List (Str × V)}
theorem ins_get (hok : HOk P w H h) (e : H a = some (.ins C dx fs)) : ∃ mA, ObjM h a dx C mA ∧ (∀ f, RelO (fs.lookup f) (mA f)) ∧ PySem.Within mA (fs.map (·.1)) ∧ fs.length ≤ 1000 ∧ H dx = some (.own a) := by
  obtain ⟨d, z, ne, ob, mA, n, r, q⟩ := (show ObjOk P w H h a (.ins C dx fs) from hok a _ e)
  exact ⟨mA, ⟨ob, n, ne⟩, r, q, z, d⟩
end
structure Cls (K : PySem.W.Frag) (C : Addr) : Prop where
  pg : PySem.W.plainGet K C Str.empty = true
  hd : PySem.W.hasDictIn K C = true
  po : PySem.W.plainOver K C = true
  sa : PySem.W.findIn K (.ref C) "__setattr__" = some (some (.builtin "object.__setattr__"))
theorem Cls.get {K : PySem.W.Frag} {C : Addr} (c : Cls K C) (f : Str) : PySem.W.plainGet K C f = true := c.pg
def NoAttr (K : PySem.W.Frag) (C : Addr) (f : Str) : Prop := PySem.W.findIn K (.ref C) f = some none
theorem NoAttr.taker {K : PySem.W.Frag} {C : Addr} {f : Str} (n : NoAttr K C f) : PySem.W.takerIn K C f = some none := by
  unfold PySem.W.takerIn
  rw [show PySem.W.findIn K (.ref C) f = some none from n]
  rfl
structure Meth (K : PySem.W.Frag) (C : Addr) (m : Str) (f : Addr) : Prop where
  at_ : PySem.W.findIn K (.ref C) m = some (some (.ref f))
  fn : PySem.W.isFn K (.ref f) = true
  kp : PySem.W.keepIn K (.ref f) = true
section
variable {X : Cx} {pins : List (Addr × Obj)} {σ : St} {H : Hp} {s : Shared} {a C dx : Addr} {fs : List (Str × V)} {f : Str} {v : V} {A : Around} {E : Value → Shared → Prop}
theorem getattr_ok {b : Bool} {Q : Value → Shared → Prop} (I : Inv X pins σ H s) (e : H a = some (.ins C dx fs)) (c : Cls X.K C) (n : NoAttr X.K C f) (l : fs.lookup f = some v)
    (h : ∀ u s', Inv X pins σ H s' → RelV v u → Q u s') : wpAny (model X.prog X.w) A (getAttr (.ref a) f b) Q E s := by
  obtain ⟨mA, O, r, _, _, _⟩ := ins_get I.hok e
  obtain ⟨u, hu, ru⟩ := RelO.some_of (v := v) (o := mA f) (by rw [← l]; exact r f)
  exact get_map I.kIn O (c.get f) c.hd n hu (handed_of ru) (h u _ (I.tok _) ru)
theorem getmeth_ok {m : Str} {g : Addr} {pl : Sem Bool} {Q : Value × List Value → Shared → Prop} (I : Inv X pins σ H s) (e : H a = some (.ins C dx fs)) (c : Cls X.K C) (k : Meth X.K C m g) (l : fs.lookup m = none)
    (h : Q (.ref g, [.ref a]) s) : wpAny (model X.prog X.w) A (getMethod (.ref a) m pl) Q E s := by
  obtain ⟨mA, O, r, _, _, _⟩ := ins_get I.hok e
  have hn : mA m = none := RelO.none_of (by rw [← l]; exact r m)
  exact get_meth I.kIn O (c.get m) k.at_ k.fn hn h
theorem setattr_ok {y : V} {u : Value} {Q : Unit → Shared → Prop} (I : Inv X pins σ H s) (e : H a = some (.ins C dx fs)) (c : Cls X.K C) (n : NoAttr X.K C f) (hl : fs.length < 1000) (ry : RelV y u)
    (h : ∀ s', Inv X pins σ (upd H a (.ins C dx (putF f y fs))) s' → Q () s') : wpAny (model X.prog X.w) A (setAttr (.ref a) f u) Q E s := by
  obtain ⟨mA, O, r, wi, _, ho⟩ := ins_get I.hok e
  have hz : (fs.map (·.1)).length ≤ sizeLine := by rw [List.length_map, sizeLine_eq]; omega
  refine set_map I.kIn O c.sa c.po n.taker c.hd wi hz fun h' O' sb => h _ ?_
  have hd : ∃ o, h'.get? dx = some o := let ⟨o, _, _, e', _⟩ := O'.ns; ⟨o, e'⟩
  refine I.write (x := a) (e := dx) (by rw [e]; exact True.intro) (.inr ho) (fun b q hb z => (sb.2 b hb).trans z) hd ?_
  refine ⟨by rw [upd_ne O.ne]; exact ho, ?_, O.ne, O'.obj, _, O'.ns, fun g => ?_, fun g hg => ?_⟩
  · have := length_putF f y fs; omega
  · show RelO ((putF f y fs).lookup g) (if g = f then some u else mA g)
    rw [lookup_putF]
    by_cases q : g = f
    · rw [if_pos q, if_pos q]; exact ry
    · rw [if_neg q, if_neg q]; exact r g
  · by_cases q : g = f
    · rw [q]; exact (keys_putF f y fs).1
    · refine (keys_putF f y fs).2 g (wi g fun z => hg ?_)
      show (if g = f then some u else mA g) = none
      rw [if_neg q]; exact z
theorem Inv.made (I : Inv X pins σ H s) : Inv X pins σ (upd (upd H s.heap.objs.size (.own (s.heap.objs.size + 1))) (s.heap.objs.size + 1) (.ins C s.heap.objs.size []))
    { s with heap := (s.heap.push PySem.W.emptyDict).push (PySem.W.instObj C s.heap.objs.size) } := by
  have e1 : (s.heap.push PySem.W.emptyDict).get? s.heap.objs.size = some PySem.W.emptyDict := Heap.get?_push_size s.heap rfl
  have e2 : ((s.heap.push PySem.W.emptyDict).push (PySem.W.instObj C s.heap.objs.size)).get? (s.heap.objs.size + 1) = some (PySem.W.instObj C s.heap.objs.size) := by
    have := Heap.get?_push_size (s.heap.push PySem.W.emptyDict) (o := PySem.W.instObj C s.heap.objs.size) rfl
    rwa [Heap.size_push] at this
  have e3 : (s.heap.push PySem.W.emptyDict).Ns s.heap.objs.size (fun _ => none) := ⟨PySem.W.emptyDict, #[], _, e1, rfl, (fun e he => absurd he (by simp)), fun _ => rfl⟩
  have I1 := I.laid (a := s.heap.objs.size) (o := .own (s.heap.objs.size + 1)) (h' := s.heap.push PySem.W.emptyDict) (t' := s.toks) (fun b u q => Heap.get?_push_of_some _ q) (Nat.le_refl _) ⟨_, e1⟩
  refine I1.laid (a := s.heap.objs.size + 1) (o := .ins C s.heap.objs.size []) (t' := s.toks) (fun b u q => Heap.get?_push_of_some _ q) (Nat.le_of_eq (Heap.size_push _ _)) ?_
  have ne : s.heap.objs.size ≠ s.heap.objs.size + 1 := Nat.ne_of_lt (Nat.lt_succ_self _)
  refine ⟨by rw [upd_ne ne, upd_same], Nat.zero_le _, ne, e2, fun _ => none, (Heap.Ns1.of_empty e3).at fun o q => Heap.get?_push_of_some _ q, fun _ => True.intro, fun y hy => absurd rfl hy⟩
theorem attr_of {prog : Program} {w : World} {env : Env} {e : Expr} {f : Str} {pos : Pos} {s : Shared} {Q : Value → Shared → Prop} (hb : attributeBase e f env (eval e env) = eval e env)
    (h : wpAny (model prog w) A (eval e env) (fun o s₁ => wpAny (model prog w) A (getAttr o f true) Q E s₁) E s) : wpAny (model prog w) A (eval (.Attribute e f pos) env) Q E s :=
  Attribute_any_ h (by rw [arm_eval_Attribute, hb])
end
def tFld (K : PySem.W.Frag) (ta : TE) (f : Str) : TE := fun σ H Q => ta σ H fun x H1 => ∃ a C dx fs v, x = .ref a ∧ H1 a = some (.ins C dx fs) ∧ Cls K C ∧ NoAttr K C f ∧ fs.lookup f = some v ∧ Q v H1
def sFld (K : PySem.W.Frag) (ta tv : TE) (f : Str) : TS := fun D σ H => tv σ H fun y H1 => ta σ H1 fun x H2 => ∃ a C dx fs, x = .ref a ∧ H2 a = some (.ins C dx fs) ∧ Cls K C ∧ NoAttr K C f ∧ fs.length < 1000 ∧
  D.nx σ (upd H2 a (.ins C dx (putF f y fs)))
section
variable {X : Cx} {o e value : Expr} {f : Str} {pos pos' tpos : Pos} {ta tv : TE}
theorem pe_fld (he : PE X e ta) (hb : attributeBase e f X.env (eval e X.env) = eval e X.env) : PE X (.Attribute e f pos) (tFld X.K ta f) := by
  intro pins s σ H Q I h
  refine attr_of hb (thn (he pins s σ H _ I h) fun u s1 ⟨x, H1, I1, rx, a, C, dx, fs, v, ex, ea, c, n, l, q⟩ => ?_)
  subst ex
  obtain rfl : u = Value.ref a := rx
  exact getattr_ok I1 ea c n l fun u' s2 I2 ru => ⟨v, H1, I2, ru, q⟩
theorem ps_fld (ha : PE X o ta) (hv : PE X value tv) (hs : swapsWith value (some (.Attribute o f pos')) pos.line X.env = pure false) : PS X (.Assign [.Attribute o f pos'] value pos) (sFld X.K ta tv f) := by
  intro pins s σ H D I h
  refine plainObj_wpAny_Assign_Attribute (thn (hv pins s σ H _ I h) fun u s1 ⟨y, H1, I1, ry, q⟩ => thn (ha pins s1 σ H1 _ I1 q) fun ov s2 ⟨x, H2, I2, rx, a, C, dx, fs, ex, ea, c, n, l, q2⟩ => ?_) hs
  subst ex
  obtain rfl : ov = Value.ref a := rx
  exact setattr_ok I2 ea c n l ry fun s3 I3 => ⟨σ, _, I3, q2⟩
end
end L2
namespace L2
open PySem PySem.Spec PyProof.Rows
structure Room (k : Nat) (A : Around) : Prop where
  hd : A.handled = none
  dp : A.depth + 3 * k + 5 < recursionLimit
  un : A.units + 16 * k + 200 < cLine
theorem Room.mono {j k : Nat} {A : Around} (r : Room k A) (h : j ≤ k) : Room j A := ⟨r.hd, by have := r.dp; omega, by have := r.un; omega⟩
theorem Room.deeper {k : Nat} {A : Around} (r : Room (k + 1) A) (env : Env) : Room k (A.deeper env) :=
  ⟨r.hd, by have := r.dp; show A.depth + 1 + 3 * k + 5 < _; omega, by have := r.un; show A.units + 3 + 16 * k + 200 < _; omega⟩
theorem Room.in1 {k : Nat} {A : Around} (r : Room (k + 1) A) : Room k A.in1 :=
  ⟨r.hd, by have := r.dp; show A.depth + 3 * k + 5 < _; omega, by have := r.un; show A.units + 1 + 16 * k + 200 < _; omega⟩
theorem make_depth {A : Around} {C : Addr} {us : List Value} {kw : List (Str × Value)} : (A.under (.builtin "type.__call__" ⟨.ref C :: us, kw⟩)).depth = A.depth + 1 := by
  first | rfl | simp [Around.under, Code.weight, Code.isCreation, Code.isGuard, Code.isCaller, Code.frames, Code.isFrame, guardIds]
theorem make_units {A : Around} {C : Addr} {us : List Value} {kw : List (Str × Value)} : (A.under (.builtin "type.__call__" ⟨.ref C :: us, kw⟩)).units = A.units + 1 := by
  first | rfl | simp [Around.under, Code.cUnits, Code.frames, Code.isFrame]
theorem Room.make {k : Nat} {A : Around} (r : Room (k + 1) A) (C : Addr) (us : List Value) (kw : List (Str × Value)) : Room k (A.under (.builtin "type.__call__" ⟨.ref C :: us, kw⟩)) :=
  ⟨r.hd, by have := r.dp; rw [make_depth]; omega, by have := r.un; rw [make_units]; omega⟩
theorem Room.depth {k : Nat} {A : Around} (r : Room k A) : A.depth < recursionLimit := by have := r.dp; omega
theorem Room.units {k : Nat} {A : Around} (r : Room k A) : A.units + 64 < cLine := by have := r.un; omega
def tNil : TA := fun _ H Q => Q [] H
def tCons (ta : TE) (tr : TA) : TA := fun σ H Q => ta σ H fun x H1 => tr σ H1 fun xs H2 => Q (x :: xs) H2
section
variable {X : Cx} {e : Expr} {es : List Expr} {te : TE} {t : TA} {pos : Pos}
theorem pa_nil : PA X [] tNil := fun _ _ _ _ H Q I h => Calls.spliced_nil ⟨[], H, I, .nil, h⟩
theorem pa_cons (ha : PE X e te) (hr : PA X es t) (hs : starEach (e :: es) X.env = (false, eval e X.env) :: starEach es X.env := by rfl) : PA X (e :: es) (tCons te t) := by
  intro pos pins s σ H Q I h
  rw [hs]
  show wpAny _ _ (spliced ((false, eval e X.env) :: backTo pos (starEach es X.env))) _ _ s
  refine Calls.spliced_cons (thn (ha pins s σ H _ I h) fun u s1 ⟨x, H1, I1, r1, q1⟩ => ?_)
  exact thn (hr pos pins s1 σ H1 _ I1 q1) fun us s2 ⟨xs, H2, I2, r2, q2⟩ => ⟨x :: xs, H2, I2, .cons r1 r2, q2⟩
def tTup (t : TA) : TE := fun σ H Q => t σ H fun xs H1 => xs.length ≤ sizeLine ∧ ∀ p, H1 p = none → Q (.ref p) (upd H1 p (.tup xs))
def tLst (t : TA) : TE := fun σ H Q => t σ H fun xs H1 => xs.length ≤ sizeLine ∧ ∀ p, H1 p = none → Q (.ref p) (upd H1 p (.lst xs))
theorem pe_tup {x1} (h : PA X es t) : PE X (.Tuple es x1 pos) (tTup t) := by
  intro pins s σ H Q I hq
  refine wpAny_Tuple_spliced (thn (h pos pins s σ H _ I hq) fun us s1 ⟨xs, H1, I1, r, z, q⟩ => ⟨by rw [← r.length]; exact z, ?_⟩)
  have hf : H1 s1.heap.objs.size = none := I1.hok.fresh (Nat.le_refl _)
  refine ⟨.ref s1.heap.objs.size, upd H1 s1.heap.objs.size (.tup xs), I1.laid (t' := s1.toks) (fun b u e => Heap.get?_push_of_some _ e) (Nat.le_refl _) ?_, rfl, q _ hf⟩
  exact ⟨z, us, r, ⟨_, Heap.get?_push_size _ rfl, rfl, _, rfl⟩⟩
theorem pe_lst (h : PA X es t) : PE X (.List es pos) (tLst t) := by
  intro pins s σ H Q I hq
  refine wpAny_List_spliced (thn (h pos pins s σ H _ I hq) fun us s1 ⟨xs, H1, I1, r, z, q⟩ => ⟨by rw [← r.length]; exact z, ?_⟩)
  have hf : H1 s1.heap.objs.size = none := I1.hok.fresh (Nat.le_refl _)
  refine ⟨.ref s1.heap.objs.size, upd H1 s1.heap.objs.size (.lst xs), I1.laid (t' := s1.toks) (fun b u e => Heap.get?_push_of_some _ e) (Nat.le_refl _) ?_, rfl, q _ hf⟩
  exact ⟨z, us, 0, r, Heap.get?_push_size _ rfl⟩
end
abbrev Sp := List V → Hp → VK → XK → Prop
abbrev CXT := List Env → Hp → Shared → XK → Value → Shared → Prop
structure Env0 (P : Program) (w : World) (K : PySem.W.Frag) (mg : Str → Option Value) (base : Heap) (A : Around) (outer : List Env) (s : Shared) (H : Hp) : Prop where
  frames : A.frames = some outer
  mod : Mod K mg base
  bs : ∀ b o, base.get? b = some o → s.heap.get? b = some o ∧ H b = none
  bsz : base.objs.size ≤ s.heap.objs.size
  funs : s.heap.FunFrames base outer
  frf : ∀ b ∈ frs outer, H b = none
  hok : HOk P w H s.heap
  bare : AllBare s.gens
def CE (outer : List Env) (P : Program) (w : World) (H : Hp) (s : Shared) (Q : VK) (u : Value) (s' : Shared) : Prop :=
  ∃ v H', s'.os = s.os ∧ AllBare s'.gens ∧ Un (frs outer) [] H H' s.heap s'.heap ∧ HOk P w H' s'.heap ∧ RelV v u ∧ Q v H'
def CR (CX : CXT) (outer : List Env) (P : Program) (w : World) (H : Hp) (s : Shared) (Q : VK) (E : XK) (r : Result) (s' : Shared) : Prop :=
  match r with
  | .ok (.ret u) => CE outer P w H s Q u s'
  | .ok _ => False
  | .error e => CX outer H s E e s'
structure FnOk (P : Program) (w : World) (K : PySem.W.Frag) (mg : Str → Option Value) (base : Heap) (CX : CXT) (k : Nat) (f : Addr) (fd : FuncData) (ps : List Str) (sp : Sp) : Prop where
  len : ∀ vs H Q E, sp vs H Q E → vs.length = ps.length
  run : ∀ (A : Around) (outer : List Env) (s : Shared) (H : Hp) (args : Args) (us : List Value) (vs : List V) (Q : VK) (E : XK), Room k A → Env0 P w K mg base A outer s H → BindsTo s fd args (ps.zip us) → Vals vs us → sp vs H Q E →
    codeAny (model P w) A (.call (.ref f) args) (CR CX outer P w H s Q E) s
theorem Env0.make {P : Program} {w : World} {K : PySem.W.Frag} {mg : Str → Option Value} {base : Heap} {A : Around} {outer : List Env} {s : Shared} {H : Hp} (e : Env0 P w K mg base A outer s H) (C : Addr) (us : List Value) (kw : List (Str × Value)) :
    Env0 P w K mg base (A.under (.builtin "type.__call__" ⟨.ref C :: us, kw⟩)) outer s H := ⟨by first | exact e.frames | (simpa [Around.under, Code.envs, Code.isFrame, pushEnvs] using e.frames), e.mod, e.bs, e.bsz, e.funs, e.frf, e.hok, e.bare⟩
section
variable {X : Cx} {pins : List (Addr × Obj)} {σ : St} {H : Hp} {s s' : Shared}
theorem Inv.env0 (I : Inv X pins σ H s) : Env0 X.prog X.w X.K X.mg X.base X.A X.stack s H :=
  ⟨I.ok.frames, I.ok.mod, I.bs, Nat.le_trans I.ok.bsz I.sz, I.stack, I.stkFree, I.hok, I.bare⟩
theorem Inv.after {Q : VK} {u : Value} (I : Inv X pins σ H s) (h : CE X.stack X.prog X.w H s Q u s') : EP X pins σ Q u s' := by
  obtain ⟨v, H', os, bare, un, hok, r, q⟩ := h
  obtain ⟨hh, g, d, t, os'⟩ := s'
  obtain rfl : os' = s.os := os
  exact ⟨v, H', I.call (h' := hh) (g' := g) (d' := d) (t' := t) (ch := []) un hok bare (fun b z => absurd z (by simp)), r, q⟩
end
def tCall (sp : Sp) (dvs : List V) (E : XK) (t : TA) : TE := fun σ H Q => t σ H fun vs H1 => sp (vs ++ dvs) H1 Q E
def tMeth (C : Addr) (m : Str) (sp : Sp) (dvs : List V) (E : XK) (ta : TE) (t : TA) : TE := fun σ H Q => ta σ H fun x H1 => ∃ a dx fs, x = .ref a ∧ H1 a = some (.ins C dx fs) ∧ fs.lookup m = none ∧
  t σ H1 fun vs H2 => sp (x :: (vs ++ dvs)) H2 Q E
def tMake (C : Addr) (sp : Sp) (dvs : List V) (E : XK) (t : TA) : TE := fun σ H Q => t σ H fun vs H1 => ∀ x dx, H1 x = none → H1 dx = none → dx ≠ x →
  sp (.ref x :: (vs ++ dvs)) (upd (upd H1 dx (.own x)) x (.ins C dx [])) (fun v H2 => v = .non ∧ Q (.ref x) H2) E
def Binds (K : PySem.W.Frag) (fd : FuncData) (ps : List Str) (ds : List Value) : Prop :=
  ∀ (s : Shared) (us : List Value), K.In s.heap → (us ++ ds).length = ps.length → BindsTo s fd ⟨us, []⟩ (ps.zip (us ++ ds))
theorem Binds.all {K : PySem.W.Frag} {fd : FuncData} {ps : List Str} (h : ∀ us : List Value, us.length = ps.length → bindArgs fd ⟨us, []⟩ = pure (ps.zip us)) : Binds K fd ps [] := fun s us _ hl => by
  rw [List.append_nil] at hl ⊢
  exact .of_eq (h us hl)
def Passes (CX : CXT) (X : Cx) (E : XK) : Prop := ∀ (pins : List (Addr × Obj)) (σ : St) (H : Hp) (s : Shared) (e : Value) (s' : Shared), Inv X pins σ H s → CX X.stack H s E e s' → X.xe e s'
section
variable {X : Cx} {CX : CXT} {k : Nat} {f C : Addr} {fd : FuncData} {ps : List Str} {sp : Sp} {dvs : List V} {ds : List Value} {E : XK} {x m : Str} {p pos apos : Pos} {e o : Expr} {es : List Expr} {ta : TE} {t : TA}
theorem run_fn {pins : List (Addr × Obj)} {σ : St} {H : Hp} {s : Shared} {Q : VK} {us : List Value} {vs : List V} (F : FnOk X.prog X.w X.K X.mg X.base CX k f fd ps sp) (hr : Room k X.A) (hb : Binds X.K fd ps ds) (hd : Vals dvs ds) (hx : Passes CX X E)
    (I : Inv X pins σ H s) (r : Vals vs us) (h : sp (vs ++ dvs) H Q E) : wpAny (model X.prog X.w) X.A (call (.ref f) us) (EP X pins σ Q) X.xe s := by
  have r2 : Vals (vs ++ dvs) (us ++ ds) := r.append hd
  have hl : (us ++ ds).length = ps.length := by rw [← r2.length]; exact F.len _ _ _ _ h
  refine wpAny_call (codeAny_mono (F.run X.A X.stack s H ⟨us, []⟩ (us ++ ds) (vs ++ dvs) Q E hr I.env0 (hb s us I.kIn hl) r2 h) fun r s' hq => ?_)
  cases r with
  | error e => exact hx pins σ H s e s' I hq
  | ok fl =>
    cases fl with
    | ret u => exact I.after hq
    | next => exact False.elim hq
    | brk => exact False.elim hq
    | cont => exact False.elim hq
theorem pe_call (F : FnOk X.prog X.w X.K X.mg X.base CX k f fd ps sp) (hr : Room k X.A) (hg : Gl X x) (hm : X.mg x = some (.ref f)) (hk : PySem.W.keepIn X.K (.ref f) = true) (hb : Binds X.K fd ps ds) (hd : Vals dvs ds) (hx : Passes CX X E)
    (ha : PA X (e :: es) t) (hdb : (x == ("__debug__" : Str)) = false := by decide) (he : starEach (e :: es) X.env = (false, eval e X.env) :: starEach es X.env := by rfl) (hpl : (backTo pos (starEach es X.env)).any (·.1) = false := by rfl) :
    PE X (.Call (.Name x p) (e :: es) [] pos) (tCall sp dvs E t) := by
  intro pins s σ H Q I h
  refine wpAny_Call_Name_kw (ld_glob I hg hm ?_ hdb)
  refine PySem.W.callWith_K (h₀ := X.base) I.ok.mod.kin hk (thn (ha pos pins s σ H _ I h) fun us s1 ⟨vs, H1, I1, r, q⟩ => ⟨I1.kIn, ?_⟩) he hpl
  exact run_fn F hr hb hd hx I1 r q
theorem pe_meth {pl : Sem Bool} (he : PE X o ta) (c : Cls X.K C) (hm : Meth X.K C m f) (F : FnOk X.prog X.w X.K X.mg X.base CX k f fd ps sp) (hr : Room k X.A) (hb : Binds X.K fd ps ds) (hd : Vals dvs ds) (hx : Passes CX X E) (ha : PA X (e :: es) t)
    (hst : starEach (e :: es) X.env = (false, eval e X.env) :: starEach es X.env := by rfl) (hpl : (backTo pos (starEach es X.env)).any (·.1) = false := by rfl)
    (ht : eval (.Call (.Attribute o m apos) (e :: es) [] pos) X.env = (do
      let ov ← eval o X.env
      standAt apos.atName
      let (f, first) ← holding [ov] (getMethod ov m pl)
      callWith pos f first (backTo pos (starEach (e :: es) X.env)) (backToKw pos (keywordEach [] X.env))) := by rfl) :
    PE X (.Call (.Attribute o m apos) (e :: es) [] pos) (tMeth C m sp dvs E ta t) := by
  intro pins s σ H Q I h
  refine PySem.W.methodCall_KW (pl := pl) (thn (he pins s σ H _ I h) fun u s1 ⟨x, H1, I1, rx, a, dx, fs, ex, ea, l, q⟩ => ?_) ht
  subst ex
  obtain rfl : u = Value.ref a := rx
  refine getmeth_ok I1 ea c hm l ?_
  refine PySem.W.callWith_K (first := [.ref a]) (h₀ := X.base) I.ok.mod.kin hm.kp (thn (ha pos pins s1 σ H1 _ I1 q) fun us s2 ⟨vs, H2, I2, r, q2⟩ => ⟨I2.kIn, ?_⟩) hst hpl
  exact run_fn (us := .ref a :: us) (vs := .ref a :: vs) F hr hb hd hx I2 (.cons rfl r) q2
theorem pe_meth0 {pl : Sem Bool} (he : PE X o ta) (c : Cls X.K C) (hm : Meth X.K C m f) (F : FnOk X.prog X.w X.K X.mg X.base CX k f fd ps sp) (hr : Room k X.A) (hb : Binds X.K fd ps ds) (hd : Vals dvs ds) (hx : Passes CX X E)
    (ht : eval (.Call (.Attribute o m apos) [] [] pos) X.env = (do
      let ov ← eval o X.env
      standAt apos.atName
      let (f, first) ← holding [ov] (getMethod ov m pl)
      callWith pos f first (backTo pos (starEach [] X.env)) (backToKw pos (keywordEach [] X.env))) := by rfl) :
    PE X (.Call (.Attribute o m apos) [] [] pos) (tMeth C m sp dvs E ta tNil) := by
  intro pins s σ H Q I h
  refine PySem.W.methodCall_KW (pl := pl) (thn (he pins s σ H _ I h) fun u s1 ⟨x, H1, I1, rx, a, dx, fs, ex, ea, l, q⟩ => ?_) ht
  subst ex
  obtain rfl : u = Value.ref a := rx
  refine getmeth_ok I1 ea c hm l ?_
  exact PySem.W.callWith_K0 (first := [.ref a]) I1.kIn hm.kp (run_fn (us := [.ref a]) (vs := [.ref a]) F hr hb hd hx I1 (.cons rfl .nil) q)
structure Mk (K : PySem.W.Frag) (C f : Addr) : Prop where
  makes : PySem.W.makesIn K C = true
  init : PySem.W.findIn K (.ref C) "__init__" = some (some (.ref f))
  fn : PySem.W.isFn K (.ref f) = true
  kp : PySem.W.keepIn K (.ref C) = true
theorem run_make {pins : List (Addr × Obj)} {σ : St} {H : Hp} {s : Shared} {Q : VK} {us : List Value} {vs : List V} (M : Mk X.K C f) (F : FnOk X.prog X.w X.K X.mg X.base CX k f fd ps sp) (hr : Room (k + 1) X.A) (hb : Binds X.K fd ps ds) (hd : Vals dvs ds)
    (hx : Passes CX X E) (I : Inv X pins σ H s) (r : Vals vs us)
    (h : ∀ x dx, H x = none → H dx = none → dx ≠ x → sp (.ref x :: (vs ++ dvs)) (upd (upd H dx (.own x)) x (.ins C dx [])) (fun v H2 => v = .non ∧ Q (.ref x) H2) E) :
    wpAny (model X.prog X.w) X.A (call (.ref C) us) (EP X pins σ Q) X.xe s := by
  have hq := h (s.heap.objs.size + 1) s.heap.objs.size (I.hok.fresh (Nat.le_succ _)) (I.hok.fresh (Nat.le_refl _)) (Nat.ne_of_lt (Nat.lt_succ_self _))
  have I2 := Inv.made (C := C) I
  have r2 : Vals (V.ref (s.heap.objs.size + 1) :: (vs ++ dvs)) (Value.ref (s.heap.objs.size + 1) :: (us ++ ds)) := .cons rfl (r.append hd)
  have hl : (Value.ref (s.heap.objs.size + 1) :: us ++ ds).length = ps.length := by
    have e := r2.length
    rw [F.len _ _ _ _ hq] at e
    exact e.symm
  refine wpAny_call (make_map (f := f) I.kIn M.makes M.init (beq_iff_eq.mp M.fn) (codeAny_mono (F.run _ X.stack _ _ ⟨Value.ref (s.heap.objs.size + 1) :: us, []⟩ (Value.ref (s.heap.objs.size + 1) :: (us ++ ds)) _ _ E (hr.make C us [])
    (I2.env0.make C us []) (hb _ (Value.ref (s.heap.objs.size + 1) :: us) I2.kIn hl) r2 hq) fun r s' hq' => ?_))
  cases r with
  | error e => exact hx pins σ _ _ e s' I2 hq'
  | ok fl =>
    cases fl with
    | ret u =>
      obtain ⟨v, H', I3, rv, ev, q3⟩ := I2.after hq'
      subst ev
      exact ⟨rv, ⟨V.ref (s.heap.objs.size + 1), H', I3, rfl, q3⟩⟩
    | next => exact False.elim hq'
    | brk => exact False.elim hq'
    | cont => exact False.elim hq'
theorem pe_make0 (M : Mk X.K C f) (F : FnOk X.prog X.w X.K X.mg X.base CX k f fd ps sp) (hr : Room (k + 1) X.A) (hg : Gl X x) (hm : X.mg x = some (.ref C)) (hb : Binds X.K fd ps ds) (hd : Vals dvs ds) (hx : Passes CX X E)
    (hdb : (x == ("__debug__" : Str)) = false := by decide) : PE X (.Call (.Name x p) [] [] pos) (tMake C sp dvs E tNil) := by
  intro pins s σ H Q I h
  refine wpAny_Call_Name_kw (ld_glob I hg hm ?_ hdb)
  exact PySem.W.callWith_K0 I.kIn M.kp (run_make (us := []) M F hr hb hd hx I .nil h)
end
structure FnScope (N P : List Str) (sc : Scope) : Prop where
  kind : sc.kind = .function
  co : sc.isCoroutine = false
  gen : sc.isGenerator = false
  nd : N.Nodup
  pre : N.take P.length = P
  par : ∀ x ∈ P, sc.names.lookup x = some .local ∨ sc.names.lookup x = some .cell
  nofree : ∀ y ∈ sc.names, y.2 ≠ .free
theorem bindL_out {kindOf : Str → Option NameKind} {x : Str} : ∀ {binds : List (Str × Value)} {m : Str → Option Value}, (∀ v, (x, v) ∉ binds) → bindL kindOf binds m x = m x
  | [], _, _ => rfl
  | (n, v) :: r, m, h => by
    unfold bindL
    rw [bindL_out fun w hw => h w (List.mem_cons_of_mem _ hw)]
    split
    · have : x ≠ n := by rintro rfl; exact h v List.mem_cons_self
      simp [this]
    · rfl
theorem bindC_out {kindOf : Str → Option NameKind} {x : Str} : ∀ {binds : List (Str × Value)} {m : Str → Option Value}, (∀ v, (x, v) ∉ binds) → bindC kindOf binds m x = m x
  | [], _, _ => rfl
  | (n, v) :: r, m, h => by
    unfold bindC
    rw [bindC_out fun w hw => h w (List.mem_cons_of_mem _ hw)]
    split
    · rfl
    · have : x ≠ n := by rintro rfl; exact h v List.mem_cons_self
      simp [this]
theorem bindL_get {kindOf : Str → Option NameKind} {x : Str} {v : Value} : ∀ {P : List Str} {vs : List Value} {i : Nat} {m : Str → Option Value}, P.Nodup → P[i]? = some x → vs[i]? = some v → kindOf x = some .local →
    bindL kindOf (P.zip vs) m x = some v
  | [], _, _, _, _, h, _, _ => by simp at h
  | _ :: _, [], _, _, _, _, h, _ => by simp at h
  | p :: P, w :: vs, 0, m, nd, h1, h2, hk => by
    simp at h1 h2; subst h1; subst h2
    show bindL kindOf ((p, w) :: P.zip vs) m p = _
    unfold bindL
    rw [bindL_out fun v hv => (List.nodup_cons.mp nd).1 (List.of_mem_zip hv).1, if_pos hk]
    simp
  | p :: P, w :: vs, i + 1, m, nd, h1, h2, hk => by
    show bindL kindOf ((p, w) :: P.zip vs) m x = _
    unfold bindL
    exact bindL_get (i := i) (List.nodup_cons.mp nd).2 (by simpa using h1) (by simpa using h2) hk
theorem bindC_get {kindOf : Str → Option NameKind} {x : Str} {v : Value} : ∀ {P : List Str} {vs : List Value} {i : Nat} {m : Str → Option Value}, P.Nodup → P[i]? = some x → vs[i]? = some v → kindOf x ≠ some .local →
    bindC kindOf (P.zip vs) m x = some v
  | [], _, _, _, _, h, _, _ => by simp at h
  | _ :: _, [], _, _, _, _, h, _ => by simp at h
  | p :: P, w :: vs, 0, m, nd, h1, h2, hk => by
    simp at h1 h2; subst h1; subst h2
    show bindC kindOf ((p, w) :: P.zip vs) m p = _
    unfold bindC
    rw [bindC_out fun v hv => (List.nodup_cons.mp nd).1 (List.of_mem_zip hv).1, if_neg hk]
    simp
  | p :: P, w :: vs, i + 1, m, nd, h1, h2, hk => by
    show bindC kindOf ((p, w) :: P.zip vs) m x = _
    unfold bindC
    exact bindC_get (i := i) (List.nodup_cons.mp nd).2 (by simpa using h1) (by simpa using h2) hk
def start (N : List Str) (vs : List V) : St := vs.map some ++ List.replicate (N.length - vs.length) none
def cxOf (CX : CXT) (P : Program) (w : World) (K : PySem.W.Frag) (mg : Str → Option Value) (base : Heap) (N : List Str) (qual : Str) (scope : Scope) (f : Addr) (cd : Value) (A : Around) (outer : List Env) (s : Shared) (H : Hp) (E : XK) : Cx where
  prog := P
  w := w
  K := K
  mg := mg
  base := base
  A := A.deeper (envOfC qual scope s.heap.objs.size f cd)
  N := N
  s_0 := s
  H_0 := H
  env := envOfC qual scope s.heap.objs.size f cd
  outer := outer
  stack := envOfC qual scope s.heap.objs.size f cd :: outer
  ex := []
  calm := true
  fn := fun _ => true
  pn := []
  xe := fun e s' => wpAny (model P w) (A.deeper (envOfC qual scope s.heap.objs.size f cd)) (leaving (envOfC qual scope s.heap.objs.size f cd) e) (fun _ s'' => CX outer H s E e s'') (fun e' s'' => CX outer H s E e' s'') s'
theorem cell_has {sc : Scope} {n : Nat} {x : Str} (h : sc.names.lookup x = some .cell) : ∃ c, (cellsFrom n sc.names []).lookup x = some c := by
  have q := PySem.W.cellsFrom_some sc.names n [] (.inl h)
  exact Option.isSome_iff_exists.mp q
theorem inv_start {CX : CXT} {P : Program} {w : World} {K : PySem.W.Frag} {mg : Str → Option Value} {base : Heap} {N ps : List Str} {qual : Str} {scope : Scope} {f : Addr} {cd : Value} {A : Around} {outer : List Env} {s s1 : Shared} {H : Hp} {E : XK} {us : List Value} {vs : List V}
    (S : FnScope N ps scope) (hd : A.handled = none) (e0 : Env0 P w K mg base A outer s H) (hl : vs.length = ps.length) (r : Vals vs us)
    (x : InCallC s s.heap.objs.size (bindL (envOfC qual scope s.heap.objs.size f cd).kindOf (ps.zip us) fun _ => none) (cellsFrom (s.heap.objs.size + 1) scope.names []) (bindC (envOfC qual scope s.heap.objs.size f cd).kindOf (ps.zip us) fun _ => none) s1) :
    Inv (cxOf CX P w K mg base N qual scope f cd A outer s H E) [] (start N vs) H s1 := by
  have hpl : ps.length ≤ N.length := by have := congrArg List.length S.pre; rw [List.length_take] at this; omega
  obtain ⟨h1, tk, rfl, hk⟩ := x.done
  have noA : ∀ b : Addr, b ∉ (cxOf CX P w K mg base N qual scope f cd A outer s H E).ex := fun b z => absurd (show b ∈ ([] : List Addr) from z) (by simp)
  refine ⟨⟨e0.mod, S.kind, rfl, rfl, Nat.le_refl _, fun y z c h1 h2 => ?_, fun y hy => ?_, fun y c _ h => ?_, fun _ => hd, Around.frames_deeper e0.frames, .inr ⟨rfl, rfl⟩, fun b z => absurd z (noA b), e0.bs, e0.bsz, fun b _ _ => noA b, fun b z => absurd z (noA b), e0.funs, e0.frf⟩,
    rfl, e0.bare, Un.kept hk, ⟨_, x.toInCall.ns, fun i y v h1 h2 h3 => ?_⟩, fun y c h => ⟨_, x.cell y c h⟩, e0.hok.fresh (Nat.le_refl _), fun y c h => ?_, fun p hp => absurd (show p ∈ ([] : List (Addr × Obj)) from hp) (by simp), e0.hok.kept hk, ?_⟩
  · exact name_of_addr x.apart (PySem.mem_of_lookup h1) (PySem.mem_of_lookup h2)
  · have hy : scope.names.lookup y = some .cell ∨ scope.names.lookup y = some .free := hy
    rcases hy with hy | hy
    · exact cell_has hy
    · exact absurd rfl (S.nofree _ (PySem.mem_of_lookup hy))
  · exact Nat.le_of_lt (x.above y c (PySem.mem_of_lookup h))
  · have hi : i < vs.length := by
      unfold start at h2
      by_cases hi : i < vs.length
      · exact hi
      · rw [List.getElem?_append_right (by simpa using hi)] at h2
        rw [List.getElem?_replicate] at h2
        split at h2 <;> cases h2
    have ha : vs[i]? = some v := by
      unfold start at h2
      rw [List.getElem?_append_left (by simpa using hi), List.getElem?_map] at h2
      cases e : vs[i]? with
      | none => rw [e] at h2; cases h2
      | some a => rw [e] at h2; cases h2; rfl
    obtain ⟨u, hu, rv⟩ := r.get ha
    have hp : ps[i]? = some y := by
      rw [← S.pre, List.getElem?_take_of_lt (by omega)]; exact h1
    have ndP : ps.Nodup := by rw [← S.pre]; exact S.nd.sublist (List.take_sublist _ _)
    refine ⟨u, rv, ?_⟩
    rcases S.par y (List.mem_of_getElem? hp) with k | k
    · exact .inl ⟨k, bindL_get ndP hp hu k⟩
    · obtain ⟨c, e⟩ := cell_has (n := s.heap.objs.size + 1) k
      refine .inr ⟨.inl k, c, e, ?_⟩
      have q := x.cell y c e
      rw [bindC_get ndP hp hu (by show scope.names.lookup y ≠ _; rw [k]; decide)] at q
      exact q
  · exact e0.hok.fresh (Nat.le_of_lt (x.above y c (PySem.mem_of_lookup h)))
  · unfold start
    show _ = N.length
    rw [List.length_append, List.length_map, List.length_replicate]
    omega
theorem fn_of {CX : CXT} {P : Program} {w : World} {K : PySem.W.Frag} {mg : Str → Option Value} {base : Heap} {k : Nat} {f : Addr} {name qual : Str} {params : Arguments} {body : List Stmt} {scope : Scope} {dV kV doc pm cdv ct oc : Value} {an od : Option Addr}
    {osl : Array (Option Value)} {N ps : List Str} {sp : Sp} (lk : K.lookup f = some ⟨oc, od, .func (PySem.W.fnOf name qual params body scope dV kV doc pm an cdv ct), osl⟩) (hcd : PySem.W.codeIn K cdv qual = true) (S : FnScope N ps scope)
    (len : ∀ vs H Q E, sp vs H Q E → vs.length = ps.length)
    (hbody : ∀ (A : Around) (outer : List Env) (s : Shared) (H : Hp) (vs : List V) (Q : VK) (E : XK), Room k (A.deeper (envOfC qual scope s.heap.objs.size f cdv)) → sp vs H Q E →
      ∃ t, PSs (cxOf CX P w K mg base N qual scope f cdv A outer s H E) body t ∧ t { nx := fun _ H' => Q .non H', rt := Q } (start N vs) H) :
    FnOk P w K mg base CX (k + 1) f (PySem.W.fnOf name qual params body scope dV kV doc pm an cdv ct) ps sp := by
  refine ⟨len, fun A outer s H args us vs Q E hr e0 hb r hsp => ?_⟩
  have hl := len _ _ _ _ hsp
  have KX : K.In s.heap := e0.mod.kin.keeps fun b o e => (e0.bs b o e).1
  have lim : s.heap.NoLimit := e0.mod.nolimit.keeps fun b o e => (e0.bs b o e).1
  have hkind : ∀ y ∈ ps.zip us, scope.names.lookup y.1 = some .local ∨ (scope.names.lookup y.1 = some .cell ∧ ((cellsFrom (s.heap.objs.size + 1) scope.names []).lookup y.1).isSome = true) := fun ⟨n, v⟩ hy => by
    rcases S.par n (List.of_mem_zip hy).1 with q | q
    · exact .inl q
    · exact .inr ⟨q, PySem.W.cellsFrom_some _ _ _ (.inl q)⟩
  refine codeAny_call_function hr.depth (KX _ _ lk) rfl S.co S.gen rfl (PySem.W.codeRec_of KX hcd) (hb _ _ _ _ ?_)
  refine wpAny_newFunctionEnv_cells S.kind hkind fun env he s1 x => ?_
  subst he
  refine ⟨lim.keeps x.toInCall.keep, codeAny_func ?_⟩
  obtain ⟨t, ht, hq⟩ := hbody A outer s H vs Q E (hr.deeper _) hsp
  have I : Inv (cxOf CX P w K mg base N qual scope f cdv A outer s H E) [] (start N vs) H s1 := inv_start S hr.hd e0 hl r x
  refine wpAny_mono (ht [] s1 (start N vs) H _ I hq) (fun fl s' hs => ?_) fun e s' hs => hs
  have fin : ∀ {σ' : St} {H' : Hp} {v : V} {u : Value}, Inv (cxOf CX P w K mg base N qual scope f cdv A outer s H E) [] σ' H' s' → RelV v u → Q v H' → CE outer P w H s Q u s' :=
    fun {σ' H' v u} J rv q => ⟨v, H', J.os, J.bare, J.base, J.hok, rv, q⟩
  cases fl with
  | ret u =>
    obtain ⟨v, σ', H', J, rv, q⟩ := hs
    exact fin J rv q
  | next =>
    obtain ⟨σ', H', J, q⟩ := hs
    exact fin (v := V.non) (u := Value.none) J rfl q
  | brk =>
    obtain ⟨_, _, _, q⟩ := hs
    exact False.elim q
  | cont =>
    obtain ⟨_, _, _, q⟩ := hs
    exact False.elim q
end L2
namespace L2
open PySem PySem.Spec PyProof.Rows
section
variable {X : Cx} {x : Str} {p pos : Pos} {e : Expr} {es : List Expr} {t : TA} {id T : String} {r : List V → Hp → VK → Prop}
def tCB (r : List V → Hp → VK → Prop) (t : TA) : TE := fun σ H Q => t σ H fun vs H1 => r vs H1 Q
theorem pe_callB (hc : CallR X (.builtin id) r) (hg : Gl X x) (hm : X.mg x = none) (hv : bootBuiltins x = some (.builtin id)) (ha : PA X (e :: es) t) (hn : x ≠ "__name__" := by decide) (hdb : (x == ("__debug__" : Str)) = false := by decide)
    (he : starEach (e :: es) X.env = (false, eval e X.env) :: starEach es X.env := by rfl) (hpl : (backTo pos (starEach es X.env)).any (·.1) = false := by rfl) : PE X (.Call (.Name x p) (e :: es) [] pos) (tCB r t) := by
  intro pins s σ H Q I h
  refine wpAny_Call_Name_kw (ld_blt I hg hm hv ?_ hn hdb)
  exact PyProof.Rows.callWith_builtin1 (thn (ha pos pins s σ H _ I h) fun us s1 ⟨vs, H1, I1, r1, q1⟩ => hc pins s1 σ H1 vs us Q I1 r1 q1) he hpl
end
end L2
namespace HT
open PySem PyProof.Rows
section
open PySem.SeqAt
open PySem.MeetsSeq PySem.MeetsSeq2 PySem.MeetsSeq3
end
end HT
namespace L2
open PySem PySem.Spec PyProof.Rows
def ixN (n : Nat) (i : Int) : Option Nat := if 0 ≤ i then (if i < n then some i.toNat else none) else if -(n : Int) ≤ i then some (i + n).toNat else none
def atI {α : Type} (xs : List α) (i : Int) : Option α := (ixN xs.length i).bind fun j => xs[j]?
theorem ixN_seq {n : Nat} {i : Int} {j : Nat} (h : ixN n i = some j) : seqIndex? i n = some j ∧ j < n ∧ -(n : Int) ≤ i ∧ i < n := by
  unfold ixN at h
  by_cases h0 : 0 ≤ i
  · rw [if_pos h0] at h
    by_cases h1 : i < n
    · rw [if_pos h1] at h
      have e : i.toNat = j := Option.some.inj h
      exact ⟨by rw [seqIndex_of h0 h1, e], by omega, by omega, h1⟩
    · rw [if_neg h1] at h; cases h
  · rw [if_neg h0] at h
    by_cases h1 : -(n : Int) ≤ i
    · rw [if_pos h1] at h
      have e : (i + n).toNat = j := Option.some.inj h
      exact ⟨by rw [seqIndex_neg (by omega) h1, e], by omega, h1, by omega⟩
    · rw [if_neg h1] at h; cases h
theorem atI_get {α : Type} {xs : List α} {i : Int} {v : α} (h : atI xs i = some v) : ∃ j, seqIndex? i xs.length = some j ∧ xs[j]? = some v ∧ j < xs.length ∧ -(xs.length : Int) ≤ i ∧ i < xs.length := by
  unfold atI at h
  cases e : ixN xs.length i with
  | none => rw [e] at h; cases h
  | some j =>
    rw [e] at h
    obtain ⟨h1, h2, h3, h4⟩ := ixN_seq e
    exact ⟨j, h1, h, h2, h3, h4⟩
theorem atI_nat {α : Type} {xs : List α} {j : Nat} {v : α} (h : xs[j]? = some v) : atI xs (j : Int) = some v := by
  have hj : j < xs.length := (List.getElem?_eq_some_iff.mp h).1
  have e : ixN xs.length (j : Int) = some j := by
    unfold ixN
    rw [if_pos (by omega), if_pos (by omega)]; simp
  unfold atI; rw [e]; exact h
theorem atI_last {α : Type} (xs : List α) (v : α) : atI (xs ++ [v]) (-1) = some v := by
  have hl : (xs ++ [v]).length = xs.length + 1 := by simp
  have e : ixN (xs ++ [v]).length (-1) = some xs.length := by
    unfold ixN
    rw [hl, if_neg (by decide), if_pos (by omega)]
    congr 1
    omega
  unfold atI
  rw [e]
  show (xs ++ [v])[xs.length]? = some v
  simp
def PlainIx (b : Expr) : Prop := ∀ o i, subscripted b false o i = operate [o, i] (getItem o i)
def IxR (X : Cx) (r : R2) : Prop :=
  ∀ (value slice : Expr) (pins : List (Addr × Obj)) (s : Shared) (σ : St) (H : Hp) (x y : V) (v u : Value) (Q : VK), Inv X pins σ H s → RelV x v → RelV y u → r x y H Q →
    subscripted slice false v u = operate [v, u] (getItem v u) → wpAny (model X.prog X.w) X.A (subscriptTail value slice v u) (EP X pins σ Q) X.xe s
def MtR (X : Cx) (id : String) (r : V → List V → Hp → VK → Prop) : Prop :=
  ∀ (pins : List (Addr × Obj)) (s : Shared) (σ : St) (H : Hp) (x : V) (xs : List V) (v : Value) (us : List Value) (Q : VK), Inv X pins σ H s → RelV x v → Vals xs us → r x xs H Q →
    wpAny (model X.prog X.w) X.A (call (.builtin id) (v :: us)) (EP X pins σ Q) X.xe s
section
variable {X : Cx} {a b : Expr} {ta tb : TE} {pos : Pos}
theorem pe_ix {r : R2} (hr : IxR X r) (ha : PE X a ta) (hb : PE X b tb) (hs : PlainIx b) : PE X (.Subscript a b pos) (tOp r ta tb) := by
  intro pins s σ H Q I h
  exact Subscript_ (binT ha hb I h fun v u s2 x y H2 I2 rx ry q => hr a b pins s2 σ H2 x y v u Q I2 rx ry q (hs _ _))
def rIxL (K : PySem.W.Frag) : R2 := fun x y H Q => ∃ p xs i v, x = .ref p ∧ y = .int i ∧ SqL K H p xs ∧ atI xs i = some v ∧ Q v H
theorem ix_list : IxR X (rIxL X.K) := by
  intro value slice pins s σ H x y v u Q I rx ry h hs
  obtain ⟨p, xs, i, z, rfl, rfl, hq, he, q⟩ := h
  cases rx
  obtain ⟨t, rfl⟩ := ry
  obtain ⟨its, r, pl, hz⟩ := I.list hq
  obtain ⟨j, h1, h2, h3, h4, h5⟩ := atI_get he
  obtain ⟨w, ew, rw'⟩ := r.get h2
  have hl := r.length
  have hn := line63
  have fin : EP X pins σ Q w s := ⟨z, H, I, rw', q⟩
  by_cases h0 : 0 ≤ i
  · have hj : i.toNat = j := by
      rw [seqIndex_of h0 h5] at h1
      exact Option.some.inj h1
    exact item_listR pl.isList h0 (by omega) (by rw [hj]; simpa using ew) fin hs
  · have hj : (i + (its.toArray.size : Int)).toNat = j := by
      rw [seqIndex_neg (by omega) h4] at h1
      rw [List.size_toArray, ← hl]
      exact Option.some.inj h1
    exact subscriptTail_builtinR (x := w) pl.isList.typeIs slot_list_getitem.lookup
      (wpAny_getItem_list_neg (Q := fun r s' => r = w ∧ EP X pins σ Q r s') pl.isList (by omega) (by rw [List.size_toArray] <;> omega) (by omega) (by rw [hj]; simpa using ew) ⟨rfl, fin⟩) hs
theorem call_len_seq : CallR X (.builtin "len") (fun xs H Q => ∃ p ys, xs = [.ref p] ∧ (SqL X.K H p ys ∨ SqT X.K H p ys) ∧ Q (.int ys.length) H) := by
  intro pins s σ H xs us Q I r h
  obtain ⟨p, ys, rfl, hq, q⟩ := h
  obtain ⟨u, rfl, rx⟩ := vals1 r
  cases rx
  have hn := line63
  rcases hq with hq | hq
  · obtain ⟨its, r', pl, hz⟩ := I.list hq
    have hlen := r'.length
    exact Calls.call_len_list pl.isList (by simp only [List.size_toArray] <;> omega) ⟨.int ys.length, H, I.tok _, ⟨s.toks + 1, by rw [List.size_toArray, hlen]⟩, q⟩
  · obtain ⟨its, r', pl, hz⟩ := I.tuple hq
    have hlen := r'.length
    exact len_tuple pl (by simp only [List.size_toArray] <;> omega) ⟨.int ys.length, H, I.tok _, ⟨s.toks + 1, by rw [List.size_toArray, hlen]⟩, q⟩
def tyV (K : PySem.W.Frag) (T : String) (x : V) (H : Hp) : Prop := match x with
  | .str _ => T = "str"
  | .int _ => T = "int"
  | .ref p => (T = "list" ∧ ∃ xs, SqL K H p xs) ∨ (T = "tuple" ∧ ∃ o, K.lookup p = some o ∧ o.cls = .type "tuple" ∧ o.dict = none) ∨
      (T = "dict" ∧ ((∃ kvs, H p = some (.dK kvs)) ∨ ∃ kvs, H p = some (.dT kvs))) ∨ (T = "set" ∧ ∃ S n, H p = some (.set S n))
  | _ => False
theorem tyV_is {pins : List (Addr × Obj)} {σ : St} {H : Hp} {s : Shared} {T : String} {x : V} {v : Value} (I : Inv X pins σ H s) (r : RelV x v) (ty : tyV X.K T x H) :
    s.TypeIs v T ∧ ∀ a, v = .ref a → ∃ ob, s.heap.get? a = some ob ∧ ob.dict = none := by
  cases x with
  | str z =>
    obtain ⟨t, rfl⟩ := r
    cases (show T = "str" from ty)
    exact ⟨typeIs_str s z t, fun _ e => nomatch e⟩
  | int i =>
    obtain ⟨t, rfl⟩ := r
    cases (show T = "int" from ty)
    exact ⟨typeIs_int s i t, fun _ e => nomatch e⟩
  | ref p =>
    cases r
    rcases ty with ⟨rfl, xs, hq⟩ | ⟨rfl, o, hk, hc, hd⟩ | ⟨rfl, hk⟩ | ⟨rfl, S, n, hk⟩
    · obtain ⟨its, _, pl, _⟩ := I.list hq
      refine ⟨pl.isList.typeIs, fun a e => ?_⟩
      cases e
      obtain ⟨o, n, e, c, hd, _⟩ := pl
      exact ⟨o, e, hd⟩
    · refine ⟨⟨o, I.kIn p o hk, hc⟩, fun a e => ?_⟩
      cases e
      exact ⟨o, I.kIn _ o hk, hd⟩
    · have z : ∃ o, s.heap.get? p = some o ∧ o.ExactDict := by
        rcases hk with ⟨kvs, hk⟩ | ⟨kvs, hk⟩
        · obtain ⟨_, _, _, _, o, _, _, e, ex, _⟩ := I.hok p _ hk
          exact ⟨o, e, ex⟩
        · obtain ⟨_, _, _, _, o, _, _, e, ex, _⟩ := I.hok p _ hk
          exact ⟨o, e, ex⟩
      obtain ⟨o, e, ex⟩ := z
      refine ⟨⟨o, e, ex.1⟩, fun a e2 => ?_⟩
      cases e2
      exact ⟨o, e, ex.2.1⟩
    · obtain ⟨o, _, _, _, e, ex, _⟩ := I.hok p _ hk
      refine ⟨⟨o, e, ex.1⟩, fun a e2 => ?_⟩
      cases e2
      exact ⟨o, e, ex.2.1⟩
  | _ => exact False.elim ty
def tBM0 (K : PySem.W.Frag) (T : String) (r : V → List V → Hp → VK → Prop) (to : TE) : TE := fun σ H Q => to σ H fun x H1 => tyV K T x H1 ∧ r x [] H1 Q
def tBM (K : PySem.W.Frag) (T : String) (r : V → List V → Hp → VK → Prop) (to : TE) (t : TA) : TE := fun σ H Q => to σ H fun x H1 => tyV K T x H1 ∧ t σ H1 fun xs H2 => r x xs H2 Q
variable {o e : Expr} {es : List Expr} {to : TE} {t : TA} {name : Str} {apos cpos : Pos} {T id : String} {r : V → List V → Hp → VK → Prop}
theorem pe_bm0 (pa : PlainAttrs T) (slot : Slot T name id) (hty : typeOf (.builtin id) = pure (.type "method_descriptor")) (hm : MtR X id r) (ho : PE X o to)
    (hbase : attributeBase o name X.env (eval o X.env) = eval o X.env := by rfl) (hline : (apos.endLine == cpos.line) = true := by rfl) : PE X (.Call (.Attribute o name apos) [] [] cpos) (tBM0 X.K T r to) := by
  intro pins s σ H Q I h
  refine wpAny_Call_method0_late hbase hline (thn (ho pins s σ H _ I h) fun v s1 ⟨x, H1, I1, r1, ty, q1⟩ => ?_)
  obtain ⟨h1, h2⟩ := tyV_is I1 r1 ty
  exact ⟨T, id, pa, slot, hty, h1, h2, Calls.callWith_builtin rfl (PySem.evalArgs_none (hm pins s1 σ H1 x [] v [] Q I1 r1 .nil q1))⟩
theorem pe_bm (pa : PlainAttrs T) (slot : Slot T name id) (hty : typeOf (.builtin id) = pure (.type "method_descriptor")) (hm : MtR X id r) (ho : PE X o to) (ha : PA X (e :: es) t)
    (hbase : attributeBase o name X.env (eval o X.env) = eval o X.env := by rfl)
    (hfew : ((backTo cpos (starEach (e :: es) X.env)).all (fun x => !x.1) && (backToKw cpos (keywordEach [] X.env)).all (fun x => x.1.isSome)
      && decide ((e :: es).length + ([] : List Keyword).length + (if ([] : List Keyword).isEmpty then 0 else 1) < 30)) = true := by rfl)
    (hline : (apos.endLine == cpos.line) = true := by rfl) (hs : starEach (e :: es) X.env = (false, eval e X.env) :: starEach es X.env := by rfl) (hplain : (backTo cpos (starEach es X.env)).any (·.1) = false := by rfl) :
    PE X (.Call (.Attribute o name apos) (e :: es) [] cpos) (tBM X.K T r to t) := by
  intro pins s σ H Q I h
  refine wpAny_Call_method_late hbase hfew hline rfl (thn (ho pins s σ H _ I h) fun v s1 ⟨x, H1, I1, r1, ty, q1⟩ => ?_)
  obtain ⟨h1, h2⟩ := tyV_is I1 r1 ty
  refine ⟨T, id, pa, slot, hty, h1, h2, ?_⟩
  have hA := ha cpos pins s1 σ H1 _ I1 q1
  rw [hs] at hA ⊢
  refine Calls.callWith_builtin (by show (false || (backTo cpos (starEach es X.env)).any (·.1)) = false; rw [hplain] <;> rfl) (Calls.evalArgs_plain ?_)
  exact thn hA fun us s2 ⟨vs, H2, I2, r2, q2⟩ => hm pins s2 σ H2 x vs v us Q I2 r1 r2 q2
end
end L2
namespace L2
open PySem PySem.Spec PyProof.Rows
def MtM (X : Cx) (id : String) (r : V → List V → Hp → VK → Prop) : Prop :=
  ∀ (pins : List (Addr × Obj)) (s : Shared) (σ : St) (H : Hp) (x : V) (xs : List V) (v : Value) (us : List Value) (Q : VK), Inv X pins σ H s → RelV x v → Vals xs us → r x xs H Q →
    wpAny (model X.prog X.w) X.A (call (.builtin id) (v :: us)) (EP X pins σ Q) X.xe s
theorem Vals.one : ∀ {x : V} {us : List Value}, Vals [x] us → ∃ u, us = [u] ∧ RelV x u
  | _, _, .cons r .nil => ⟨_, rfl, r⟩
theorem Vals.zero : ∀ {us : List Value}, Vals [] us → us = []
  | _, .nil => rfl
theorem Vals.dropLast {xs : List V} {us : List Value} (h : Vals xs us) : Vals xs.dropLast us.dropLast := by
  induction h with
  | nil => exact .nil
  | cons r t ih =>
    cases t with
    | nil => exact .nil
    | cons q t' => exact .cons r ih
theorem erase_last {α : Type} (l : List α) : l.eraseIdx (l.length - 1) = l.dropLast := by
  induction l with
  | nil => rfl
  | cons a r ih =>
    cases r with
    | nil => rfl
    | cons b r =>
      have e : (a :: b :: r).length - 1 = ((b :: r).length - 1) + 1 := by
        have h1 : (a :: b :: r).length = r.length + 2 := rfl
        have h2 : (b :: r).length = r.length + 1 := rfl
        omega
      rw [e, List.eraseIdx_cons_succ, ih]
      all_goals rfl
section
variable {X : Cx} {pins : List (Addr × Obj)} {σ : St} {H : Hp} {s : Shared} {l b : Addr} {xs ys zs : List V}
theorem Inv.lset {its its' : List Value} {n : Nat} {f : Array Value → Array Value} {t' : Nat} (I : Inv X pins σ H s) (hH : H l = some (.lst xs))
    (e : s.heap.get? l = some { cls := .type "list", data := .seq its.toArray n }) (hf : f its.toArray = its'.toArray) (hv : Vals ys its') (hz : ys.length ≤ sizeLine) :
    Inv X pins σ (upd H l (.lst ys)) { s with heap := s.heap.update l (Obj.mapSeq f), toks := t' } := by
  have q := PySem.IsL.update e f
  rw [hf] at q
  refine I.write (x := l) (e := l) (by rw [hH]; exact trivial) (.inl rfl) (fun b' u hb hu => (Heap.get?_update_other s.heap (Obj.mapSeq f) (Ne.symm hb)).trans hu) ⟨_, q⟩ ?_
  exact ⟨hz, its', _, hv, q⟩
theorem Inv.lstM (I : Inv X pins σ H s) (hH : H l = some (.lst xs)) : xs.length ≤ sizeLine ∧ ∃ (its : List Value) (n : Nat), Vals xs its ∧ xs.length = its.length ∧ s.heap.get? l = some { cls := .type "list", data := .seq its.toArray n } := by
  obtain ⟨z, its, n, r, e⟩ := I.hok l _ hH
  exact ⟨z, its, n, r, r.length, e⟩
end
section
variable {X : Cx}
def rAppend : V → List V → Hp → VK → Prop := fun x vs H Q => ∃ l xs y, x = .ref l ∧ vs = [y] ∧ H l = some (.lst xs) ∧ xs.length < sizeLine ∧ Q .non (upd H l (.lst (xs ++ [y])))
theorem mt_append : MtM X "list.append" rAppend := by
  intro pins s σ H x vs v us Q I rx rv h
  obtain ⟨l, xs, y, rfl, rfl, hH, hz, q⟩ := h
  cases rx
  obtain ⟨u, rfl, ru⟩ := rv.one
  obtain ⟨z, its, n, r, hl, e⟩ := I.lstM hH
  refine call_meets F.slot_list_append ⟨_, e, rfl⟩ F.entry_list_append (F.args_list_append_2 _ _) (PySem.list_append l its.toArray n u (by rw [List.size_toArray]; omega)) ⟨e, ?_⟩
  refine ⟨.non, _, I.lset (its' := its ++ [u]) hH e (by simp) (r.append (.cons ru .nil)) ?_, rfl, q⟩
  rw [List.length_append, List.length_singleton]
  omega
def rPop : V → List V → Hp → VK → Prop := fun x vs H Q => ∃ l xs y, x = .ref l ∧ vs = [] ∧ H l = some (.lst xs) ∧ xs[xs.length - 1]? = some y ∧ Q y (upd H l (.lst xs.dropLast))
theorem mt_pop : MtM X "list.pop" rPop := by
  intro pins s σ H x vs v us Q I rx rv h
  obtain ⟨l, xs, y, rfl, rfl, hH, hy, q⟩ := h
  cases rx
  have hus := rv.zero
  subst hus
  obtain ⟨z, its, n, r, hl, e⟩ := I.lstM hH
  obtain ⟨u, hu, ru⟩ := r.get hy
  have hy' : its.toArray[its.toArray.size - 1]? = some u := by
    show its.toArray[its.length - 1]? = some u
    rw [← Array.getElem?_toList, ← hl]
    exact hu
  refine call_meets F.slot_list_pop ⟨_, e, rfl⟩ F.entry_list_pop (F.args_list_pop_1 _) (MeetsSeq.list_pop_last l its.toArray n u hy' (by rw [List.size_toArray]; omega)) ⟨e, ?_⟩
  refine ⟨y, _, I.lset (its' := its.dropLast) hH e ?_ r.dropLast ?_, ru, q⟩
  · show its.toArray.eraseIdxIfInBounds (its.toArray.size - 1) = its.dropLast.toArray
    rw [List.size_toArray, List.eraseIdxIfInBounds_toArray, erase_last]
  · rw [List.length_dropLast]
    omega
end
end L2
namespace L2
open PySem PySem.Spec PyProof.Rows
theorem Vals.ints : ∀ {ns : List Int} {us : List Value}, Vals (ns.map V.int) us → IntsAre us ns
  | [], us, h => by
    rw [List.map_nil] at h
    cases h
    exact IntsAre.nil
  | n :: ns, us, h => by
    rw [List.map_cons] at h
    cases h with
    | cons r t =>
      obtain ⟨k, rfl⟩ := r
      exact IntsAre.cons n k (Vals.ints t)
theorem vals_of_ints : ∀ {us : List Value} {ns : List Int}, IntsAre us ns → Vals (ns.map V.int) us
  | _, _, .nil => by rw [List.map_nil]; exact Paired.nil
  | _, _, .cons n t h => by rw [List.map_cons]; exact Paired.cons (show RelV (V.int n) (Value.int n t) from ⟨t, rfl⟩) (vals_of_ints h)
theorem Vals.ref1 {a : Addr} {us : List Value} (r : Vals [V.ref a] us) : us = [Value.ref a] := by
  cases r with
  | cons r t =>
    cases t
    cases r
    rfl
mutual
inductive Dp (K : PySem.W.Frag) (H : Hp) : V → PyData → Prop
  | non : Dp K H .non .none
  | bl (b : Bool) : Dp K H (.bl b) (.bool b)
  | int (i : Int) : Dp K H (.int i) (.int i)
  | str (x : Str) : Dp K H (.str x) (.str x)
  | lst {a : Addr} {xs : List V} {ds : List PyData} : SqL K H a xs → DpAll K H xs ds → Dp K H (.ref a) (.list ds)
  | tup {a : Addr} {xs : List V} {ds : List PyData} : SqT K H a xs → DpAll K H xs ds → Dp K H (.ref a) (.tuple ds)
inductive DpAll (K : PySem.W.Frag) (H : Hp) : List V → List PyData → Prop
  | nil : DpAll K H [] []
  | cons {v : V} {vs : List V} {d : PyData} {ds : List PyData} : Dp K H v d → DpAll K H vs ds → DpAll K H (v :: vs) (d :: ds)
end
section
variable {X : Cx} {pins : List (Addr × Obj)} {σ : St} {H : Hp} {s : Shared}
mutual
theorem Dp.reads (I : Inv X pins σ H s) : ∀ (d : PyData) (v : V) (u : Value), Dp X.K H v d → RelV v u → ∃ as, Reads s.heap u d as
  | .none, _, _, h, r => by
    cases h
    cases r
    exact ⟨_, Reads.none⟩
  | .bool b, _, _, h, r => by
    cases h
    cases r
    exact ⟨_, Reads.bool b⟩
  | .int i, _, _, h, r => by
    cases h
    obtain ⟨t, rfl⟩ := r
    exact ⟨_, Reads.int i t⟩
  | .str x, _, _, h, r => by
    cases h
    obtain ⟨t, rfl⟩ := r
    exact ⟨_, Reads.str x t⟩
  | .list ds, _, _, h, r => by
    cases h with
    | lst hs ha =>
      cases r
      obtain ⟨its, rv, ⟨o, n, ho, hc, _, hd⟩, _⟩ := I.list hs
      obtain ⟨as, hr⟩ := Dp.readsAll I ds _ its ha rv
      exact ⟨_, Reads.list ho hc hd hr⟩
  | .tuple ds, _, _, h, r => by
    cases h with
    | tup hs ha =>
      cases r
      obtain ⟨its, rv, ⟨o, ho, hc, n, hd⟩, _⟩ := I.tuple hs
      obtain ⟨as, hr⟩ := Dp.readsAll I ds _ its ha rv
      exact ⟨_, Reads.tuple ho hc hd hr⟩
  | .dict _, _, _, h, _ => by cases h
theorem Dp.readsAll (I : Inv X pins σ H s) : ∀ (ds : List PyData) (vs : List V) (us : List Value), DpAll X.K H vs ds → Vals vs us → ∃ as, ReadsAll s.heap us ds as
  | [], _, _, h, r => by
    cases h
    cases r
    exact ⟨_, ReadsAll.nil⟩
  | d :: ds, _, _, h, r => by
    cases h with
    | cons h1 h2 =>
      cases r with
      | cons r1 r2 =>
        obtain ⟨as, q1⟩ := Dp.reads I d _ _ h1 r1
        obtain ⟨bs, q2⟩ := Dp.readsAll I ds _ _ h2 r2
        exact ⟨_, ReadsAll.cons q1 q2⟩
end
end
section
variable {X : Cx}
def rEqD (K : PySem.W.Frag) : R2 := fun x y H Q => ∃ d e, Dp K H x d ∧ Dp K H y e ∧ SeqAt.shaped d = true ∧ SeqAt.shaped e = true ∧ Q (.bl (PyData.eqv d e)) H
theorem op_eqD (hu : X.A.units + 64 < cLine) : OpR X (compareOp .Eq) (rEqD X.K) := by
  intro pins s σ H x y v u Q I rx ry h
  obtain ⟨d, e, hd, he, sd, se, q⟩ := h
  obtain ⟨as, r1⟩ := Dp.reads I d x v hd rx
  obtain ⟨bs, r2⟩ := Dp.reads I e y u he ry
  exact SeqAt.compareEq_shaped r1 r2 sd se hu ⟨.bl _, H, I, rfl, q⟩
end
end L2
namespace L2
open PySem PySem.Spec PyProof.Rows
abbrev CellAt (h : Heap) (c : Addr) (v : Option Value) : Prop := h.IsCell c v
def relS (scope sc : Scope) : Scope :=
  { scope with names := scope.names.map fun (n, k) => if (k == .free && sc.kind == .function && sc.names.lookup n == some .cell) then (n, .cell) else (n, k) }
def cloFrom (cells : List (Str × Addr)) : List (Str × NameKind) → List (Str × Addr) → List (Str × Addr)
  | [], acc => acc
  | (n, k) :: r, acc => if k == .free then cloFrom cells r ((n, (cells.lookup n).getD 0) :: acc) else cloFrom cells r acc
theorem closure_loop (env : Env) (f : Str × NameKind → List (Str × Addr) → Sem (ForInStep (List (Str × Addr))))
    (hf : ∀ n k c, f (n, k) c = if k == .free then (do let a ← cellOf env n; pure (.yield ((n, a) :: c))) else pure (.yield c)) :
    ∀ (names : List (Str × NameKind)) (acc : List (Str × Addr)), (∀ y ∈ names, y.2 = .free → ∃ c, env.cells.lookup y.1 = some c) → forIn names acc f = pure (cloFrom env.cells names acc)
  | [], acc, _ => by rw [List.forIn_nil]; rfl
  | (n, k) :: r, acc, h => by
    rw [List.forIn_cons, hf]
    have ih := fun acc => closure_loop env f hf r acc fun y hy => h y (List.mem_cons_of_mem _ hy)
    unfold cloFrom
    by_cases hk : (k == NameKind.free) = true
    · rw [if_pos hk, if_pos hk]
      obtain ⟨c, hc⟩ := h (n, k) List.mem_cons_self (by simpa using hk)
      have e : cellOf env n = pure c := by unfold cellOf; rw [hc]
      rw [e]
      have e2 : (env.cells.lookup n).getD 0 = c := by rw [hc]; rfl
      rw [e2]
      exact ih _
    · rw [if_neg hk, if_neg hk]
      exact ih _
theorem closure_ok {scope : Scope} {env : Env} (h : ∀ y ∈ scope.names, y.2 = .free → ∃ c, env.cells.lookup y.1 = some c) : closureFor scope env = pure (cloFrom env.cells scope.names []) := by
  simp only [closureFor]
  rw [closure_loop env _ (fun n k c => rfl) scope.names [] h]
  rfl
theorem mem_lookup {α : Type} : ∀ {l : List (Str × α)} {n : Str} {c : α}, (n, c) ∈ l → ∃ c', l.lookup n = some c'
  | (k, v) :: r, n, c, h => by
    rw [List.lookup_cons]
    cases hb : n == k with
    | true => exact ⟨_, rfl⟩
    | false =>
      rcases List.mem_cons.mp h with e | h
      · cases e; simp at hb
      · exact mem_lookup h
theorem cloFrom_mem {cells : List (Str × Addr)} : ∀ {names : List (Str × NameKind)} {acc : List (Str × Addr)} {n : Str} {c : Addr}, (n, c) ∈ cloFrom cells names acc → (n, c) ∈ acc ∨ ((n, .free) ∈ names ∧ c = (cells.lookup n).getD 0)
  | [], _, _, _, h => .inl h
  | (m, k) :: r, acc, n, c, h => by
    unfold cloFrom at h
    split at h
    · rename_i hk
      have hk : k = .free := by simpa using hk
      rcases cloFrom_mem h with h | ⟨h1, h2⟩
      · rcases List.mem_cons.mp h with e | h
        · cases e; exact .inr ⟨hk ▸ List.mem_cons_self, rfl⟩
        · exact .inl h
      · exact .inr ⟨List.mem_cons_of_mem _ h1, h2⟩
    · rcases cloFrom_mem h with h | ⟨h1, h2⟩
      · exact .inl h
      · exact .inr ⟨List.mem_cons_of_mem _ h1, h2⟩
theorem cloFrom_acc {cells : List (Str × Addr)} : ∀ {names : List (Str × NameKind)} {acc : List (Str × Addr)} {p : Str × Addr}, p ∈ acc → p ∈ cloFrom cells names acc
  | [], _, _, h => h
  | (m, k) :: r, acc, p, h => by
    unfold cloFrom
    split
    · exact cloFrom_acc (List.mem_cons_of_mem _ h)
    · exact cloFrom_acc h
theorem cloFrom_has {cells : List (Str × Addr)} : ∀ {names : List (Str × NameKind)} {acc : List (Str × Addr)} {n : Str}, (n, .free) ∈ names → (n, (cells.lookup n).getD 0) ∈ cloFrom cells names acc
  | (m, k) :: r, acc, n, h => by
    unfold cloFrom
    rcases List.mem_cons.mp h with e | h
    · cases e
      exact cloFrom_acc List.mem_cons_self
    · split
      · exact cloFrom_has h
      · exact cloFrom_has h
theorem cells_mem : ∀ {names : List (Str × NameKind)} {h : Heap} {acc : List (Str × Addr)} {x : Str} {c : Addr}, (x, c) ∈ cellsFrom h.objs.size names acc →
    (x, c) ∈ acc ∨ ((x, .cell) ∈ names ∧ h.objs.size ≤ c ∧ CellAt (pushCells h names) c none)
  | [], _, _, _, _, h => .inl h
  | (n, k) :: r, h, acc, x, c, hm => by
    unfold cellsFrom at hm
    unfold pushCells
    split at hm
    · rename_i hk
      rw [if_pos hk]
      have hk : k = .cell := by simpa using hk
      rw [← Heap.size_push h { cls := .type "cell", data := .cell none }] at hm
      rcases cells_mem hm with hm | ⟨h1, h2, h3⟩
      · rcases List.mem_cons.mp hm with e | hm
        · cases e
          exact .inr ⟨hk ▸ List.mem_cons_self, Nat.le_refl _, _, pushCells_keeps r _ _ _ (Heap.get?_push_size _ rfl), rfl⟩
        · exact .inl hm
      · rw [Heap.size_push] at h2
        exact .inr ⟨List.mem_cons_of_mem _ h1, Nat.le_of_succ_le h2, h3⟩
    · rename_i hk
      rw [if_neg hk]
      rcases cells_mem hm with hm | ⟨h1, h2, h3⟩
      · exact .inl hm
      · exact .inr ⟨List.mem_cons_of_mem _ h1, h2, h3⟩
theorem cells_acc : ∀ {names : List (Str × NameKind)} {n : Nat} {acc : List (Str × Addr)} {p : Str × Addr}, p ∈ acc → p ∈ cellsFrom n names acc
  | [], _, _, _, h => h
  | (m, k) :: r, n, acc, p, h => by
    unfold cellsFrom
    split
    · exact cells_acc (List.mem_cons_of_mem _ h)
    · exact cells_acc h
theorem cells_has : ∀ {names : List (Str × NameKind)} {n : Nat} {acc : List (Str × Addr)} {x : Str}, (x, .cell) ∈ names → ∃ c, (x, c) ∈ cellsFrom n names acc
  | (m, k) :: r, n, acc, x, h => by
    unfold cellsFrom
    rcases List.mem_cons.mp h with e | h
    · cases e
      exact ⟨n, cells_acc List.mem_cons_self⟩
    · split
      · exact cells_has h
      · exact cells_has h
theorem cells_inj : ∀ {names : List (Str × NameKind)} {h : Heap} {acc : List (Str × Addr)} {x y : Str} {c : Addr}, (∀ p ∈ acc, p.2 < h.objs.size) → (∀ x y c, (x, c) ∈ acc → (y, c) ∈ acc → x = y) →
    (x, c) ∈ cellsFrom h.objs.size names acc → (y, c) ∈ cellsFrom h.objs.size names acc → x = y
  | [], _, _, _, _, _, _, hi, h1, h2 => hi _ _ _ h1 h2
  | (n, k) :: r, h, acc, x, y, c, hl, hi, h1, h2 => by
    unfold cellsFrom at h1 h2
    split at h1
    · rename_i hk
      rw [if_pos hk] at h2
      rw [← Heap.size_push h { cls := .type "cell", data := .cell none }] at h1 h2
      refine cells_inj (h := h.push _) (fun p hp => ?_) (fun x y c a b => ?_) h1 h2
      · rw [Heap.size_push]
        rcases List.mem_cons.mp hp with rfl | hp
        · exact Nat.lt_succ_self _
        · exact Nat.lt_succ_of_lt (hl p hp)
      · rcases List.mem_cons.mp a with e | a <;> rcases List.mem_cons.mp b with e' | b
        · cases e; cases e'; rfl
        · cases e; exact absurd (hl _ b) (Nat.lt_irrefl _)
        · cases e'; exact absurd (hl _ a) (Nat.lt_irrefl _)
        · exact hi _ _ _ a b
    · rename_i hk
      rw [if_neg hk] at h2
      exact cells_inj hl hi h1 h2
theorem newEnv_comp {M : Model} {A : Around} {E : Value → Shared → Prop} {s : Shared} {scope : Scope} {globals : Addr} {closure : List (Str × Addr)} {qual : Str} {func : Option Addr} {code : Value} {around : Env} {builtins : Addr} {Q : Env → Shared → Prop}
    (h : Q (newEnv scope s.heap.objs.size globals (cellsFrom (s.heap.objs.size + 1) scope.names closure) qual func code (some around) builtins)
      { s with heap := pushCells (s.heap.push { cls := .type "dict", data := .dict #[] }) scope.names }) :
    wpAny M A (newFunctionEnv scope globals closure [] qual func code (some around) builtins) Q E s := by
  simp only [newFunctionEnv, Option.isSome_some, if_true]
  refine wpAny_bind (wpAny_alloc ?_)
  refine wpAny_bind (wpAny_layCells _ (fun n k c => rfl) scope.names closure _ _ ?_)
  rw [show ({ s with heap := s.heap.push { cls := .type "dict", data := .dict #[] } } : Shared).heap.objs.size = s.heap.objs.size + 1 from Heap.size_push ..]
  rw [List.forIn_nil]
  exact wpAny_bind (wpAny_pure (wpAny_pure h))
theorem lookup_relS {sc : Scope} : ∀ {names : List (Str × NameKind)} {x : Str} {k : NameKind},
    (names.map fun (n, k) => if (k == NameKind.free && sc.kind == .function && sc.names.lookup n == some .cell) then (n, NameKind.cell) else (n, k)).lookup x = some k →
    ∃ k', names.lookup x = some k' ∧ (k = k' ∨ (k' = .free ∧ k = .cell))
  | [], _, _, h => by simp at h
  | (n, k₀) :: r, x, k, h => by
    have ih := @lookup_relS sc r x k
    have h' : List.lookup x ((if (k₀ == NameKind.free && sc.kind == .function && sc.names.lookup n == some .cell) = true then (n, NameKind.cell) else (n, k₀)) :: (r.map _)) = some k := h
    cases hx : x == n with
    | true =>
      simp only [List.lookup_cons, hx]
      by_cases hc : (k₀ == NameKind.free && sc.kind == .function && sc.names.lookup n == some .cell) = true
      · rw [if_pos hc] at h'
        simp only [List.lookup_cons, hx] at h'
        cases h'
        simp only [Bool.and_eq_true, beq_iff_eq] at hc
        exact ⟨k₀, rfl, .inr ⟨hc.1.1, rfl⟩⟩
      · rw [if_neg hc] at h'
        simp only [List.lookup_cons, hx] at h'
        cases h'
        exact ⟨_, rfl, .inl rfl⟩
    | false =>
      simp only [List.lookup_cons, hx]
      by_cases hc : (k₀ == NameKind.free && sc.kind == .function && sc.names.lookup n == some .cell) = true
      · rw [if_pos hc] at h'
        simp only [List.lookup_cons, hx] at h'
        exact ih h'
      · rw [if_neg hc] at h'
        simp only [List.lookup_cons, hx] at h'
        exact ih h'
structure BlkOk (N : List Str) (sc scope : Scope) (own : List (Str × Nat)) : Prop where
  kind : scope.kind = .function
  uniq : ∀ y ∈ scope.names, scope.names.lookup y.1 = some y.2
  ix : ∀ p ∈ own, N[p.2]? = some p.1
  free : ∀ y ∈ scope.names, y.2 = .free → sc.names.lookup y.1 = some .cell ∨ sc.names.lookup y.1 = some .free
  own : ∀ y ∈ scope.names, y.2 = .local ∨ y.2 = .cell → y.1 ∈ own.map (·.1) ∨ y.1 ∉ N
def wipe (σ : St) : List Nat → St
  | [] => σ
  | v :: vs => (wipe σ vs).set v none
theorem wipe_length (σ : St) : ∀ vs : List Nat, (wipe σ vs).length = σ.length
  | [] => rfl
  | v :: vs => by unfold wipe; rw [List.length_set, wipe_length σ vs]
theorem wipe_some {σ : St} {i : Nat} {x : V} : ∀ {vs : List Nat}, (wipe σ vs)[i]? = some (some x) → σ[i]? = some (some x) ∧ i ∉ vs
  | [], h => ⟨h, by simp⟩
  | v :: vs, h => by
    unfold wipe at h
    by_cases hi : v = i
    · subst hi
      by_cases hv : v < (wipe σ vs).length
      · rw [List.getElem?_set_self hv] at h; cases h
      · rw [List.getElem?_eq_none (by simpa using hv)] at h; cases h
    · rw [List.getElem?_set_ne hi] at h
      obtain ⟨h1, h2⟩ := wipe_some h
      exact ⟨h1, by simp only [List.mem_cons, not_or]; exact ⟨fun e => hi e.symm, h2⟩⟩
abbrev Cx.blk (X : Cx) (s : Shared) (H : Hp) (scope : Scope) (cenv : Env) (fp : List Addr) : Cx := { X with s_0 := s, H_0 := H, env := cenv, outer := X.stack, ex := fp, fn := fun x => scope.names.lookup x == some .cell, pn := [], xe := fun _ _ => False }
section
variable {X : Cx} {pins : List (Addr × Obj)} {σ : St} {H : Hp} {s : Shared}
theorem block_start {scope : Scope} {own : List (Str × Nat)} {fp : List Addr} (I : Inv X pins σ H s) (ok : BlkOk X.N X.env.scope scope own) (hN : X.N.Nodup) (hfp : ∀ b ∈ fp, FpOk X pins H b ∧ b < s.heap.objs.size) :
    Inv (X.blk s H scope (compEnvC scope (cellsFrom (s.heap.objs.size + 1) scope.names (cloFrom X.env.cells scope.names [])) s.heap.objs.size X.env) fp) [] (wipe σ (own.map (·.2))) H { s with heap := pushCells (s.heap.push { cls := .type "dict", data := .dict #[] }) scope.names } := by
  have hfree : ∀ y ∈ scope.names, y.2 = .free → ∃ c, X.env.cells.lookup y.1 = some c := fun y hy e => by
    rcases ok.free y hy e with k | k
    · exact I.ok.has _ (.inl k)
    · exact I.ok.has _ (.inr k)
  generalize hcenv : compEnvC scope (cellsFrom (s.heap.objs.size + 1) scope.names (cloFrom X.env.cells scope.names [])) s.heap.objs.size X.env = cenv
  have kp : ∀ b o, s.heap.get? b = some o → (pushCells (s.heap.push { cls := .type "dict", data := .dict #[] }) scope.names).get? b = some o := fun b o e => pushCells_keeps _ _ _ _ (Heap.get?_push_of_some _ e)
  have hL : cenv.locals = s.heap.objs.size := by rw [← hcenv]; rfl
  have hcl : cenv.cells = cellsFrom (s.heap.objs.size + 1) scope.names (cloFrom X.env.cells scope.names []) := by rw [← hcenv]; rfl
  have hsc : cenv.scope = relS scope X.env.scope := by rw [← hcenv]; rfl
  rw [← Heap.size_push s.heap { cls := .type "dict", data := .dict #[] }] at hcl
  have cm : ∀ {y c}, (y, c) ∈ cloFrom X.env.cells scope.names [] → X.env.cells.lookup y = some c ∧ c < s.heap.objs.size := fun {y c} hm => by
    rcases cloFrom_mem hm with hm | ⟨h1, rfl⟩
    · cases hm
    · obtain ⟨c, hc⟩ := hfree _ h1 rfl
      rw [hc]
      obtain ⟨w, z⟩ := I.cell _ _ hc
      exact ⟨rfl, z.lt⟩
  have mem : ∀ {y c}, cenv.cells.lookup y = some c → (X.env.cells.lookup y = some c ∧ c < s.heap.objs.size) ∨ (s.heap.objs.size + 1 ≤ c ∧ CellAt (pushCells (s.heap.push { cls := .type "dict", data := .dict #[] }) scope.names) c none) := fun {y c} e => by
    rw [hcl] at e
    rcases cells_mem (PySem.mem_of_lookup e) with hm | ⟨_, h2, h3⟩
    · exact .inl (cm hm)
    · rw [Heap.size_push] at h2; exact .inr ⟨h2, h3⟩
  have look : ∀ {y}, scope.names.lookup y = some .free → ∃ c, cenv.cells.lookup y = some c ∧ X.env.cells.lookup y = some c := fun {y} hl => by
    have hy : (y, NameKind.free) ∈ scope.names := PySem.mem_of_lookup hl
    obtain ⟨c', e'⟩ := mem_lookup (cells_acc (names := scope.names) (n := (s.heap.push { cls := .type "dict", data := .dict #[] }).objs.size) (cloFrom_has (cells := X.env.cells) (acc := []) hy))
    rw [← hcl] at e'
    refine ⟨c', e', ?_⟩
    rw [hcl] at e'
    rcases cells_mem (PySem.mem_of_lookup e') with hm | ⟨h1, _, _⟩
    · exact (cm hm).1
    · have := ok.uniq _ h1
      rw [hl] at this; cases this
  have okB : (X.blk s H scope cenv fp).Ok := by
    refine ⟨I.ok.mod, by show cenv.scope.kind = _; rw [hsc]; exact ok.kind, by show cenv.globals = _; rw [← hcenv]; exact I.ok.glob, by show cenv.builtins = _; rw [← hcenv]; exact I.ok.blt, by show s.heap.objs.size ≤ cenv.locals; rw [hL]; exact Nat.le_refl _,
      fun y z c e1 e2 => ?_, fun y hy => ?_, fun y c z e => ?_, I.ok.hd, I.ok.frames, .inl rfl, fun b hb => ⟨?_, fun y c e z => ?_⟩, I.bs, Nat.le_trans I.ok.bsz I.sz, fun b o e hb => ?_, fun b hb z => ?_, I.stack, I.stkFree⟩
    · have e1 : cenv.cells.lookup y = some c := e1
      have e2 : cenv.cells.lookup z = some c := e2
      rw [hcl] at e1 e2
      refine cells_inj (fun p hp => ?_) (fun y z c a b => I.ok.inj y z c (cm a).1 (cm b).1) (PySem.mem_of_lookup e1) (PySem.mem_of_lookup e2)
      rw [Heap.size_push]
      exact Nat.lt_succ_of_lt (cm (y := p.1) (c := p.2) hp).2
    · show ∃ c, cenv.cells.lookup y = some c
      have key : ∀ k, cenv.kindOf y = some k → (k = .cell ∨ k = .free) → ∃ c, cenv.cells.lookup y = some c := fun k hk hk' => by
        unfold Env.kindOf at hk
        rw [hsc] at hk
        obtain ⟨k', e, r⟩ := lookup_relS hk
        have : k' = .cell ∨ k' = .free := by
          rcases r with rfl | ⟨rfl, _⟩
          · exact hk'
          · exact .inr rfl
        rcases this with rfl | rfl
        · obtain ⟨c, hm⟩ := cells_has (n := (s.heap.push { cls := .type "dict", data := .dict #[] }).objs.size) (acc := cloFrom X.env.cells scope.names []) (PySem.mem_of_lookup e)
          obtain ⟨c', e'⟩ := mem_lookup hm
          exact ⟨c', by rw [hcl]; exact e'⟩
        · obtain ⟨c, h1, _⟩ := look e
          exact ⟨c, h1⟩
      rcases hy with hy | hy
      · exact key _ hy (.inl rfl)
      · exact key _ hy (.inr rfl)
    · have z : (scope.names.lookup y == some NameKind.cell) = true := z
      have z : scope.names.lookup y = some .cell := by simpa using z
      have e : cenv.cells.lookup y = some c := e
      rw [hcl] at e
      rcases cells_mem (PySem.mem_of_lookup e) with hm | ⟨_, h2, _⟩
      · rcases cloFrom_mem hm with hm | ⟨h1, _⟩
        · cases hm
        · have q := ok.uniq _ h1
          rw [z] at q; cases q
      · rw [Heap.size_push] at h2
        exact Nat.le_of_succ_le h2
    · show b ≠ cenv.locals
      rw [hL]; exact Nat.ne_of_lt (hfp b hb).2
    · have e : cenv.cells.lookup y = some c := e
      rcases mem e with ⟨h1, _⟩ | ⟨h1, _⟩
      · exact (hfp b hb).1.2.2.2.2.1 y c h1 z
      · have h2 : s.heap.objs.size + 1 ≤ b := by rw [← z]; exact h1
        exact absurd (Nat.lt_of_lt_of_le (hfp b hb).2 (Nat.le_of_succ_le h2)) (Nat.lt_irrefl _)
    · rcases (hfp b hb).1.2.2.2.1 with z | z
      · exact I.ok.noex b o e z
      · exact absurd (Nat.lt_of_lt_of_le (Heap.lt_size e) (Nat.le_trans I.ok.bsz z)) (Nat.lt_irrefl _)
    · rcases List.mem_cons.mp (I.stkSub b z) with z | z
      · exact (hfp b hb).1.2.1 z
      · exact (hfp b hb).1.2.2.1 z
  refine ⟨okB, rfl, I.bare, Un.kept kp, ⟨fun _ => none, ?_, fun i y av e1 e2 e3 => ?_⟩, fun y c e => ?_, ?_, fun y c e => ?_, fun p hp => ?_, I.hok.kept kp, by rw [wipe_length]; exact I.len⟩
  · show Heap.Ns _ cenv.locals _
    rw [hL]
    exact Heap.Ns.keeps (Heap.Ns.new ..) fun b o e => pushCells_keeps _ _ _ _ e
  · obtain ⟨e2, hne⟩ := wipe_some e2
    have hfr : scope.names.lookup y = some .free ∧ (cenv.kindOf y = some .cell ∨ cenv.kindOf y = some .free) := by
      have key : ∀ k, cenv.scope.names.lookup y = some k → k = .local ∨ k = .cell ∨ k = .free → scope.names.lookup y = some .free ∧ (cenv.kindOf y = some .cell ∨ cenv.kindOf y = some .free) := fun k hk hk' => by
        have hk0 := hk
        rw [hsc] at hk
        obtain ⟨k', e, r⟩ := lookup_relS hk
        have no : ¬ (k' = .local ∨ k' = .cell) := fun hh => by
          rcases ok.own _ (PySem.mem_of_lookup e) hh with e' | e'
          · obtain ⟨p, hp, hpy⟩ := List.mem_map.mp e'
            have e3 := ok.ix p hp
            have : p.1 = y := hpy
            rw [this] at e3
            exact hne (List.mem_map.mpr ⟨p, hp, nodup_ix hN e3 e1⟩)
          · exact e' (List.mem_of_getElem? e1)
        rcases r with rfl | ⟨rfl, rfl⟩
        · rcases hk' with rfl | rfl | rfl
          · exact absurd (.inl rfl) no
          · exact absurd (.inr rfl) no
          · exact ⟨e, .inr hk0⟩
        · exact ⟨e, .inl hk0⟩
      have e3 : Vis cenv.scope y := e3
      rcases e3 with e3 | e3 | e3
      · exact key _ e3 (.inl rfl)
      · exact key _ e3 (.inr (.inl rfl))
      · exact key _ e3 (.inr (.inr rfl))
    obtain ⟨m, hn, hl⟩ := I.loc
    have hvis : Vis X.env.scope y := (ok.free _ (PySem.mem_of_lookup hfr.1) rfl).elim (fun k => .inr (.inl k)) (fun k => .inr (.inr k))
    obtain ⟨w, r, q⟩ := hl i y av e1 e2 hvis
    refine ⟨w, r, .inr ⟨hfr.2, ?_⟩⟩
    obtain ⟨c, h1, h2⟩ := look hfr.1
    rcases q with ⟨k, _⟩ | ⟨_, c', e', z⟩
    · have k : X.env.scope.names.lookup y = some .local := k
      rcases ok.free _ (PySem.mem_of_lookup hfr.1) rfl with k' | k' <;> rw [show X.env.scope.names.lookup y = _ from k'] at k <;> cases k
    · rw [h2] at e'; cases e'
      exact ⟨c, h1, z.keeps kp⟩
  · have e : cenv.cells.lookup y = some c := e
    rcases mem e with ⟨h1, _⟩ | ⟨_, z⟩
    · obtain ⟨w, z⟩ := I.cell y c h1
      exact ⟨w, z.keeps kp⟩
    · exact ⟨_, z⟩
  · show H cenv.locals = none
    rw [hL]; exact I.hok.fresh (Nat.le_refl _)
  · have e : cenv.cells.lookup y = some c := e
    rcases mem e with ⟨h1, _⟩ | ⟨h1, _⟩
    · exact I.freeC y c h1
    · exact I.hok.fresh (Nat.le_of_succ_le h1)
  · exact absurd (show p ∈ ([] : List (Addr × Obj)) ++ [] from hp) (by simp)
theorem app_ok {E : Value → Shared → Prop} {D : Addr} {xs : List V} {y : V} {v : Value} {Q : Value → Shared → Prop} (I : Inv X pins σ H s) (hD : H D = some (.lst xs)) (hz : xs.length < sizeLine) (r : RelV y v)
    (h : ∀ s', Inv X pins σ (upd H D (.lst (xs ++ [y]))) s' → Q .none s') : wpAny (model X.prog X.w) X.A (call (.builtin "list.append") [.ref D, v]) Q E s := by
  obtain ⟨hz', its, n, ri, e⟩ := I.hok D _ hD
  have hl := ri.length
  refine append_at (hsz := by rw [List.size_toArray]; omega) e fun h' sb ho' => ?_
  refine h { s with heap := h' } (I.write (t' := s.toks) (by rw [hD]; trivial) (.inl rfl) (fun b u hb q => (sb.2 b hb).trans q) ⟨_, ho'⟩ ⟨by rw [List.length_append]; exact hz, its ++ [v], n + 1, ri.append (.cons r .nil), ?_⟩)
  rw [ho']
  simp
def PTs (X : Cx) (ifs : List Expr) (t : TT) : Prop :=
  ∀ (pins : List (Addr × Obj)) (s : Shared) (σ : St) (H : Hp) (Q : Bool → Hp → Prop), Inv X pins σ H s → t σ H Q →
    wpAny (model X.prog X.w) X.A (forIn ifs true fun c r => if r = true then do let ok ← isTrue c X.env (eval c X.env); pure (ForInStep.yield ok) else pure (ForInStep.yield r)) (TP X pins σ Q) X.xe s
theorem pts_one {c : Expr} {t : TT} (h : PT X c t) : PTs X [c] t := fun pins s σ H Q I hw => wpAny_tests_one (h pins s σ H Q I hw)
end
theorem thnF {α : Type} {t : Sem α} {Q Q' : α → Shared → Prop} {M : Model} {A : Around} {E : Value → Shared → Prop} {s : Shared} (h : wpAny M A t Q (fun _ _ => False) s) (hQ : ∀ a s, Q a s → Q' a s) : wpAny M A t Q' E s := wpAny_mono h hQ fun _ _ z => False.elim z
theorem compLoop_any {prog : Program} {w : World} {A : Around} {R : Result → Shared → Prop} {s : Shared} {elt target iter : Expr} {ifs : List Expr} {scope : Scope} {pos : Pos} {it acc : Value} {env : Env} (I : Nat → Shared → Prop)
    (turn : ∀ n s, I n s → wpAny (model prog w) A (pyNext it) (fun r s₁ => match r with
      | none => R (.ok .next) s₁
      | some v => wpAny (model prog w) A (letOwnedTupleGo target it v) (fun _ s₁' => wpAny (model prog w) A (assign target env v) (fun _ s₂ =>
          wpAny (model prog w) A (forIn ifs true fun c r => if r = true then do let ok ← isTrue c env (eval c env); pure (ForInStep.yield ok) else pure (ForInStep.yield r)) (fun ok s₃ =>
            if ok = true then wpAny (model prog w) A (eval elt env) (fun x s₄ =>
              wpAny (model prog w) A (call (.builtin "list.append") [acc, x]) (fun _ s₅ => ∃ m, m < n ∧ I m s₅) (notedBy (model prog w) A env fun e s' => R (.error e) s') s₄) (notedBy (model prog w) A env fun e s' => R (.error e) s') s₃
            else ∃ m, m < n ∧ I m s₃) (notedBy (model prog w) A env fun e s' => R (.error e) s') s₂) (notedBy (model prog w) A env fun e s' => R (.error e) s') s₁') (notedBy (model prog w) A env fun e s' => R (.error e) s') s₁) (notedBy (model prog w) A env fun e s' => R (.error e) s') s)
    (n : Nat) (h : I n s) :
    codeAny (model prog w) A (.compLoop (.ListComp elt [⟨target, iter, ifs, 0⟩] scope pos) 0 it acc env) R s := by
  refine codeAny_loop rfl I (fun n s hI => ?_) n h
  show wpAny _ A ((compTurn (.ListComp elt [⟨target, iter, ifs, 0⟩] scope pos) 0 it acc env).onRaise (fun x => do noteFrame x env; theTreesLotGoes x)) _ _ s
  refine wpAny_noted ?_
  rw [compTurn_list]
  refine wpAny_bind (wpAny_standAt (wpAny_bind (wpAny_mono (turn n s hI) (fun r s₁ h₁ => ?_) fun _ _ h' => h')))
  cases r with
  | none => exact wpAny_pure h₁
  | some v =>
    refine wpAny_bind (wpAny_mono h₁ (fun _ s₁' h₁' => ?_) fun _ _ h' => h')
    refine wpAny_bind (wpAny_mono h₁' (fun _ s₂ h₂ => wpAny_bind (wpAny_mono h₂ (fun ok s₃ h₃ => ?_) fun _ _ h' => h')) fun _ _ h' => h')
    cases ok with
    | false => exact wpAny_pure ⟨rfl, h₃⟩
    | true =>
      exact wpAny_bind (wpAny_bind (wpAny_mono h₃ (fun x s₄ h₄ => wpAny_bind (wpAny_mono h₄ (fun _ s₅ h₅ => wpAny_pure (wpAny_pure ⟨rfl, h₅⟩)) fun _ _ h' => h')) fun _ _ h' => h'))
section
variable {X : Cx}
def tLc (wi : TI) (g : TG) (tt : TT) (te : TE) (vs : List Nat) : TE := fun σ H Q => wi σ H fun J H1 => ∀ D, H1 D = none → ∃ W : Nat → Nat → Hp → Prop, (∃ m, W 0 m (upd H1 D (.lst []))) ∧ ∀ i m H, W i m H →
  (J.stop i H ∧ Q (.ref D) H) ∨ (J.go i H ∧ ∃ Nx : Hp → Prop, (∀ H', Nx H' → ∃ m', m' < m ∧ W (i + 1) m' H') ∧ ∀ x H', J.yld i H x H' → g x (wipe σ vs) H' fun σ2 H2 => wipe σ2 vs = wipe σ vs ∧ tt σ2 H2 fun b H3 =>
    if b = true then te σ2 H3 fun y H4 => ∃ acc, H4 D = some (.lst acc) ∧ acc.length < sizeLine ∧ Nx (upd H4 D (.lst (acc ++ [y]))) else Nx H3)
theorem lc_core {pins : List (Addr × Obj)} {s : Shared} {σ : St} {H : Hp} {Q : VK} {elt tg iter : Expr} {ifs : List Expr} {scope : Scope} {own : List (Str × Nat)} {pos pos' : Pos} {wi : TI} {g : TG} {tt : TT} {te : TE} {use : Option (Value → Sem Unit)} {Qf : Value → Shared → Prop}
    (hc : X.calm = true) (hN : X.N.Nodup) (I : Inv X pins σ H s) (hi : PI X tg iter wi) (ok : BlkOk X.N X.env.scope scope own)
    (hg : ∀ (s : Shared) (H : Hp) (C : Addr) (cl : List (Str × Addr)) (fp : List Addr), PG (X.blk s H scope (compEnvC scope cl C X.env) fp) tg g) (ht : ∀ (s : Shared) (H : Hp) (C : Addr) (cl : List (Str × Addr)) (fp : List Addr), PTs (X.blk s H scope (compEnvC scope cl C X.env) fp) ifs tt)
    (he : ∀ (s : Shared) (H : Hp) (C : Addr) (cl : List (Str × Addr)) (fp : List Addr), PE (X.blk s H scope (compEnvC scope cl C X.env) fp) elt te) (hs : ∀ x, foldedSetIterable iter X.env x = pure x)
    (h : tLc wi g tt te (own.map (·.2)) σ H Q)
    (hRR : ∀ D C s' m H', Inv X pins σ H' s' → Q (.ref D) H' → s'.heap.Ns C m → FpOk X pins H' C → compPost (model X.prog X.w) X.A X.xe use Qf (.ref D) C (.ok .next) s') :
    wpAny (model X.prog X.w) X.A (comprehension (.ListComp elt [⟨tg, iter, ifs, 0⟩] scope pos) scope X.env pos' (newList []) false (eval iter X.env) use) Qf X.xe s := by
  have hfree : ∀ y ∈ scope.names, y.2 = .free → ∃ c, X.env.cells.lookup y.1 = some c := fun y hy e => by
    rcases ok.free y hy e with k | k
    · exact I.ok.has _ (.inl k)
    · exact I.ok.has _ (.inr k)
  refine wpAny_comprehension_free (use := use) rfl hs (closure_ok hfree) ok.kind (fun y hy e => by rw [ok.uniq y hy, e])
    (thn (hi pins s σ H _ I h) fun xv s1 hx => thn hx fun itv s2 h2 => ?_)
  obtain ⟨it, fp, tn, J, H2, e, I2, T, st2, f2, q⟩ := h2
  subst e
  refine wpAny_newObj_type (newEnv_comp ?_) (by show 0 ≤ sizeLine; decide)
  generalize hD : s2.heap.objs.size = D
  have hDn : H2 D = none := I2.hok.fresh (Nat.le_of_eq hD)
  obtain ⟨W, ⟨m0, w0⟩, turn⟩ := q D hDn
  -- the new list
  generalize hs3 : ({ s2 with heap := s2.heap.push { cls := .type "list", data := .seq ([] : List Value).toArray } } : Shared) = s3
  have I3 : Inv X pins σ (upd H2 D (.lst [])) s3 := by
    rw [← hs3]
    refine I2.laid (t' := s2.toks) (fun b o e => Heap.get?_push_of_some _ e) (Nat.le_of_eq hD) ⟨Nat.zero_le _, [], 0, .nil, ?_⟩
    rw [← hD]
    exact Heap.get?_push_size _ rfl
  have h3 : s3.heap = s2.heap.push { cls := .type "list", data := .seq ([] : List Value).toArray } := by rw [← hs3]
  have sz : ∀ b ∈ fp, b < s2.heap.objs.size := fun b hb => by
    obtain ⟨o, e, _⟩ := T.obj _ _ st2 b hb
    exact Heap.lt_size e
  have f3 : ∀ b ∈ fp, FpOk X pins (upd H2 D (.lst [])) b ∧ b < s3.heap.objs.size := fun b hb => by
    have hlt := sz b hb
    refine ⟨⟨?_, (f2 b hb).2⟩, by rw [h3, Heap.size_push]; exact Nat.lt_succ_of_lt hlt⟩
    rw [upd_ne (by rw [← hD]; exact Nat.ne_of_lt hlt)]
    exact (f2 b hb).1
  have st3 : tn 0 s3.heap := T.keep _ _ _ st2 fun b _ o e => by rw [h3]; exact Heap.get?_push_of_some _ e
  have I4 := block_start I3 ok hN f3
  have pg := hg s3 (upd H2 D (.lst [])) s3.heap.objs.size (cellsFrom (s3.heap.objs.size + 1) scope.names (cloFrom X.env.cells scope.names [])) fp
  have pt := ht s3 (upd H2 D (.lst [])) s3.heap.objs.size (cellsFrom (s3.heap.objs.size + 1) scope.names (cloFrom X.env.cells scope.names [])) fp
  have pe := he s3 (upd H2 D (.lst [])) s3.heap.objs.size (cellsFrom (s3.heap.objs.size + 1) scope.names (cloFrom X.env.cells scope.names [])) fp
  show codeAny _ _ (.compStart (.ListComp elt [⟨tg, iter, ifs, 0⟩] scope pos) 0 (.ref it) (.ref D) (compEnvC scope (cellsFrom (s3.heap.objs.size + 1) scope.names (cloFrom X.env.cells scope.names [])) s3.heap.objs.size X.env)) (compPost (model X.prog X.w) X.A X.xe use Qf (.ref D) s3.heap.objs.size) { s3 with heap := pushCells (s3.heap.push { cls := .type "dict", data := .dict #[] }) scope.names }
  have nfp : ∀ b ∈ fp, (upd H2 D (.lst [])) b = none := fun b hb => (f3 b hb).1.1
  generalize hce : compEnvC scope (cellsFrom (s3.heap.objs.size + 1) scope.names (cloFrom X.env.cells scope.names [])) s3.heap.objs.size X.env = ce at I4 pg pt pe ⊢
  have cL : ce.locals = s3.heap.objs.size := by subst hce; rfl
  generalize hH3 : upd H2 D (.lst []) = H3 at I3 I4 pg pt pe w0 nfp f3
  generalize hs4 : ({ s3 with heap := pushCells (s3.heap.push { cls := .type "dict", data := .dict #[] }) scope.names } : Shared) = s4 at I4 ⊢
  have st4 : tn 0 s4.heap := T.keep _ _ _ st3 fun b _ o e => by rw [← hs4]; exact pushCells_keeps _ _ _ _ (Heap.get?_push_of_some _ e)
  have stat : ∀ {σ' : St} {H' : Hp} {s' : Shared}, Inv (X.blk s3 H3 scope ce fp) [] σ' H' s' → (∀ b ∈ fp, H' b = none) → ∀ b ∈ fp, FpOk (X.blk s3 H3 scope ce fp) [] H' b := fun {σ' H' s'} I' hn b hb =>
    ⟨hn b hb, (I'.ok.exf b hb).1, I'.ok.exfs b hb, .inl hb, fun x c e => (I'.ok.exf b hb).2 x c e, fun p hp => absurd (show p ∈ ([] : List (Addr × Obj)) ++ [] from hp) (by simp)⟩
  have loop : codeAny (model X.prog X.w) X.A (.compLoop (.ListComp elt [⟨tg, iter, ifs, 0⟩] scope pos) 0 (.ref it) (.ref D) ce) (compPost (model X.prog X.w) X.A X.xe use Qf (.ref D) s3.heap.objs.size) s4 := by
    refine compLoop_any (fun n s' => ∃ i H', Inv (X.blk s3 H3 scope ce fp) [] (wipe σ (own.map (·.2))) H' s' ∧ tn i s'.heap ∧ (∀ b ∈ fp, H' b = none) ∧ W i n H') ?_ m0 ⟨0, H3, I4, st4, nfp, w0⟩
    rintro n s5 ⟨i, H5, I5, st5, n5, w5⟩
    rcases turn i n H5 w5 with ⟨stop, qq⟩ | ⟨go, Nx, hNx, step⟩
    · have td := T.done (X.blk s3 H3 scope ce fp) rfl rfl rfl hc i [] s5 _ H5 (fun _ _ => False) I5 (stat I5 n5) st5 stop
      refine thnF td fun r s6 ⟨hr, I6⟩ => ?_
      subst hr
      -- back in the def's context
      have I7 : Inv X pins σ H5 s6 := I3.call' (ch := fp) I6.os I6.base I6.hok I6.bare fun b hb => ⟨(f3 b hb).1.2.2.2.1, (f3 b hb).1.2.1, (f3 b hb).1.2.2.2.2.1, (f3 b hb).1.2.2.2.2.2⟩
      have nC : H5 s3.heap.objs.size = none := by
        have z : H5 ce.locals = none := I6.free
        rw [cL] at z
        exact z
      obtain ⟨m, hn, _⟩ := I6.loc
      have hn : s6.heap.Ns ce.locals m := hn
      rw [cL] at hn
      exact hRR D s3.heap.objs.size s6 m H5 I7 qq hn (I3.fpOk (Nat.le_refl _) nC)
    · have ti := T.item (X.blk s3 H3 scope ce fp) rfl rfl rfl hc i [] s5 _ H5 (fun _ _ => False) I5 (stat I5 n5) st5 go
      refine thnF ti fun r s6 ⟨u, hr, h6⟩ => ?_
      subst hr
      refine thnF h6 fun _ s7 ⟨x, H7, I7, r7, y7, st7, n7⟩ => ?_
      have I7' := I7.pinned (stat I7 n7) (T.obj _ _ st7)
      refine thnF (pg _ s7 _ H7 x u _ I7' r7 (step x H7 y7)) fun _ s8 ⟨σ8, H8, I8, hw8, q8⟩ => ?_
      refine thnF (pt _ s8 σ8 H8 _ I8 q8) fun b s9 ⟨H9, I9, q9⟩ => ?_
      -- the turn's end
      have fin : ∀ {s' : Shared} {H' : Hp}, Inv (X.blk s3 H3 scope ce fp) ([] ++ pinsAt fp s7.heap) σ8 H' s' → Nx H' → ∃ m, m < n ∧ ∃ i H', Inv (X.blk s3 H3 scope ce fp) [] (wipe σ (own.map (·.2))) H' s' ∧ tn i s'.heap ∧ (∀ b ∈ fp, H' b = none) ∧ W i m H' := fun {s' H'} I' nx => by
        obtain ⟨m', hm, w'⟩ := hNx H' nx
        have pin' : ∀ b ∈ fp, ∀ o, s7.heap.get? b = some o → s'.heap.get? b = some o ∧ H' b = none := fun b hb o e =>
          let z := I'.pin (b, o) (List.mem_append_right _ (List.mem_append_right _ (mem_pinsAt hb e)))
          ⟨z.1, z.2.1⟩
        have hl : (wipe σ (own.map (·.2))).length = σ8.length := by rw [← hw8, wipe_length]
        refine ⟨m', hm, i + 1, H', (I'.unpinned (pins := [])).weak hl (fun j v e => ?_), T.keep _ _ _ st7 fun b hb o e => (pin' b hb o e).1, fun b hb => ?_, w'⟩
        · rw [← hw8] at e
          exact (wipe_some e).1
        · obtain ⟨o, e, _⟩ := T.obj _ _ st7 b hb
          exact (pin' b hb o e).2
      cases b with
      | false =>
        simp only [Bool.false_eq_true, if_false] at q9 ⊢
        exact fin I9 q9
      | true =>
        simp only [if_true] at q9 ⊢
        refine thnF (pe _ s9 σ8 H9 _ I9 q9) fun z s10 ⟨yv, H10, I10, r10, acc, hD10, hz10, nx⟩ => ?_
        exact app_ok (X := X.blk s3 H3 scope ce fp) I10 hD10 hz10 r10 fun s11 I11 => fin I11 nx
  exact codeAny_compStart_list loop (T.self X.A 0 _ _ _ st4 loop)
theorem pe_lc {elt tg iter : Expr} {ifs : List Expr} {scope : Scope} {own : List (Str × Nat)} {pos : Pos} {wi : TI} {g : TG} {tt : TT} {te : TE} (hc : X.calm = true) (hN : X.N.Nodup) (hi : PI X tg iter wi) (ok : BlkOk X.N X.env.scope scope own)
    (hg : ∀ (s : Shared) (H : Hp) (C : Addr) (cl : List (Str × Addr)) (fp : List Addr), PG (X.blk s H scope (compEnvC scope cl C X.env) fp) tg g) (ht : ∀ (s : Shared) (H : Hp) (C : Addr) (cl : List (Str × Addr)) (fp : List Addr), PTs (X.blk s H scope (compEnvC scope cl C X.env) fp) ifs tt)
    (he : ∀ (s : Shared) (H : Hp) (C : Addr) (cl : List (Str × Addr)) (fp : List Addr), PE (X.blk s H scope (compEnvC scope cl C X.env) fp) elt te) (hs : ∀ x, foldedSetIterable iter X.env x = pure x := by intro _; rfl) :
    PE X (.ListComp elt [⟨tg, iter, ifs, 0⟩] scope pos) (tLc wi g tt te (own.map (·.2))) := by
  intro pins s σ H Q I h
  rw [eval_ListComp]
  refine lc_core hc hN I hi ok hg ht he hs h fun D C s' m H' I' q hn f => ⟨m, hn, fun h'' sb => ?_⟩
  obtain ⟨f0, f1, f2, f3, f4, f5⟩ := f
  exact ⟨.ref D, H', I'.turned (t' := s'.toks) (fun b o hb e => (sb.2 b hb).trans e) f0 f1 f3 f4 f5, rfl, q⟩
end
def blkC (N : List Str) (sc scope : Scope) (own : List (Str × Nat)) : Bool :=
  (match scope.kind with | .function => true | _ => false) && (scope.names.all fun y => decide (scope.names.lookup y.1 = some y.2)) && (own.all fun p => decide (N[p.2]? = some p.1)) &&
    (scope.names.all fun y => match y.2 with
      | .free => (match sc.names.lookup y.1 with | some .cell => true | some .free => true | _ => false)
      | .local => decide (y.1 ∈ own.map (·.1)) || decide (y.1 ∉ N)
      | .cell => decide (y.1 ∈ own.map (·.1)) || decide (y.1 ∉ N)
      | _ => true)
theorem blkOk_by {N : List Str} {sc scope : Scope} {own : List (Str × Nat)} (h : blkC N sc scope own = true) : BlkOk N sc scope own := by
  unfold blkC at h
  simp only [Bool.and_eq_true, List.all_eq_true, decide_eq_true_eq] at h
  obtain ⟨⟨⟨h1, h2⟩, h3⟩, h4⟩ := h
  refine ⟨?_, h2, h3, fun y hy e => ?_, fun y hy e => ?_⟩
  · split at h1
    · assumption
    · cases h1
  · have q := h4 y hy
    simp only [e] at q
    split at q <;> first | exact .inl (by assumption) | exact .inr (by assumption) | cases q
  · have q := h4 y hy
    rcases e with e | e <;> (simp only [e, Bool.or_eq_true, decide_eq_true_eq] at q; exact q)
end L2
namespace L2
open PySem PySem.Spec PyProof.Rows
section
variable {κ : Type} [DecidableEq κ]
def valV (kvs : List (κ × V)) (k : κ) : Option V := (kvs.find? fun kv => decide (kv.1 = k)).map (·.2)
def putK (kvs : List (κ × V)) (k : κ) (v : V) : List (κ × V) :=
  if (kvs.any fun kv => decide (kv.1 = k)) = true then kvs.map (fun kv => if kv.1 = k then (kv.1, v) else kv) else kvs ++ [(k, v)]
theorem valV_pos {p : κ × V} {r : List (κ × V)} {k : κ} (e : p.1 = k) : valV (p :: r) k = some p.2 := by simp [valV, List.find?_cons, e]
theorem valV_neg {p : κ × V} {r : List (κ × V)} {k : κ} (e : ¬ p.1 = k) : valV (p :: r) k = valV r k := by simp [valV, List.find?_cons, e]
theorem valV_any (k : κ) : ∀ kvs : List (κ × V), (kvs.any fun kv => decide (kv.1 = k)) = (valV kvs k).isSome
  | [] => rfl
  | p :: r => by
    rw [List.any_cons]
    by_cases e : p.1 = k
    · simp only [valV_pos e, decide_eq_true e, Bool.true_or, Option.isSome_some]
    · rw [valV_neg e, decide_eq_false e, Bool.false_or]; exact valV_any k r
theorem valV_map (k j : κ) (y : V) : ∀ kvs : List (κ × V), valV (kvs.map fun kv => if kv.1 = k then (kv.1, y) else kv) j = (valV kvs j).map fun x => if j = k then y else x
  | [] => rfl
  | p :: r => by
    have ih := valV_map k j y r
    rw [List.map_cons]
    by_cases h : p.1 = k
    · rw [if_pos h]
      by_cases e : p.1 = j
      · rw [valV_pos (p := (p.1, y)) e, valV_pos e, Option.map_some, if_pos (e.symm.trans h)]
      · rw [valV_neg (p := (p.1, y)) e, valV_neg e, ih]
    · rw [if_neg h]
      by_cases e : p.1 = j
      · rw [valV_pos (p := p) e, valV_pos e, Option.map_some, if_neg (fun z => h (e.trans z))]
      · rw [valV_neg (p := p) e, valV_neg e, ih]
theorem valV_snoc (k j : κ) (y : V) : ∀ kvs : List (κ × V), valV kvs k = none → valV (kvs ++ [(k, y)]) j = if j = k then some y else valV kvs j
  | [], _ => by
    by_cases e : k = j
    · rw [if_pos e.symm]; exact valV_pos (p := (k, y)) e
    · rw [if_neg (fun z => e z.symm)]; exact valV_neg (p := (k, y)) e
  | p :: r, hn => by
    rw [List.cons_append]
    have hk : ¬ p.1 = k := fun z => by rw [valV_pos z] at hn; cases hn
    rw [valV_neg hk] at hn
    have ih := valV_snoc k j y r hn
    by_cases e : p.1 = j
    · rw [valV_pos e, valV_pos e, if_neg (fun z => hk (e.trans z))]
    · rw [valV_neg e, valV_neg e, ih]
theorem valV_put (kvs : List (κ × V)) (k j : κ) (y : V) : valV (putK kvs k y) j = if j = k then some y else valV kvs j := by
  unfold putK
  by_cases a : (kvs.any fun kv => decide (kv.1 = k)) = true
  · rw [if_pos a, valV_map]
    rw [valV_any] at a
    by_cases e : j = k
    · obtain ⟨x, hx⟩ := Option.isSome_iff_exists.mp a
      rw [if_pos e, e, hx, Option.map_some, if_pos rfl]
    · rw [if_neg e]
      cases valV kvs j with
      | none => rfl
      | some x => rw [Option.map_some, if_neg e]
  · rw [if_neg a]
    refine valV_snoc k j y kvs ?_
    rw [valV_any] at a
    cases q : valV kvs k with
    | none => rfl
    | some x => rw [q] at a; exact (a rfl).elim
theorem length_putK (kvs : List (κ × V)) (k : κ) (v : V) : (putK kvs k v).length ≤ kvs.length + 1 := by
  unfold putK
  split
  · rw [List.length_map]; omega
  · rw [List.length_append, List.length_cons, List.length_nil]; omega
theorem putK_new {kvs : List (κ × V)} {k : κ} (v : V) (h : valV kvs k = none) : putK kvs k v = kvs ++ [(k, v)] := by
  unfold putK
  rw [valV_any, h]
  exact if_neg (by decide)
theorem RelO.isSome_eq {o : Option V} {u : Option Value} (r : RelO o u) : o.isSome = u.isSome := by
  cases o with
  | none => cases u with
    | none => rfl
    | some _ => exact (show False from r).elim
  | some _ => cases u with
    | none => exact (show False from r).elim
    | some _ => rfl
theorem RelO.getD {o : Option V} {u : Option Value} {d : V} {d' : Value} (r : RelO o u) (rd : RelV d d') : RelV (o.getD d) (u.getD d') := by
  cases o with
  | none => cases u with
    | none => exact rd
    | some _ => exact (show False from r).elim
  | some _ => cases u with
    | none => exact (show False from r).elim
    | some _ => exact r
theorem KV.val {kvs : List (κ × V)} {vs : List (κ × Value)} (r : KV kvs vs) (k : κ) : RelO (valV kvs k) (valueAt vs k) := by
  unfold KV at r
  induction r with
  | nil => exact True.intro
  | @cons p q ps qs h t ih =>
    obtain ⟨h1, h2⟩ := h
    by_cases e : p.1 = k
    · have e' : q.1 = k := h1.symm.trans e
      have b : valueAt (q :: qs) k = some q.2 := by simp [valueAt, List.find?_cons, e']
      rw [valV_pos e, b]; exact h2
    · have e' : ¬ q.1 = k := fun z => e (h1.trans z)
      have b : valueAt (q :: qs) k = valueAt qs k := by simp [valueAt, List.find?_cons, e']
      rw [valV_neg e, b]; exact ih
theorem KV.any {kvs : List (κ × V)} {vs : List (κ × Value)} (r : KV kvs vs) (k : κ) : (kvs.any fun kv => decide (kv.1 = k)) = vs.any fun kv => decide (kv.1 = k) := by
  unfold KV at r
  induction r with
  | nil => rfl
  | cons h t ih => rw [List.any_cons, List.any_cons, ih, h.1]
theorem KV.repl {kvs : List (κ × V)} {vs : List (κ × Value)} (r : KV kvs vs) (k : κ) {y : V} {u : Value} (ry : RelV y u) :
    KV (kvs.map fun kv => if kv.1 = k then (kv.1, y) else kv) (vs.map fun kv => if kv.1 = k then (kv.1, u) else kv) := by
  unfold KV at r ⊢
  induction r with
  | nil => exact .nil
  | @cons p q ps qs h t ih =>
    rw [List.map_cons, List.map_cons]
    refine .cons ?_ ih
    obtain ⟨h1, h2⟩ := h
    by_cases e : p.1 = k
    · rw [if_pos e, if_pos (h1.symm.trans e)]; exact ⟨h1, ry⟩
    · rw [if_neg e, if_neg (fun z => e (h1.trans z))]; exact ⟨h1, h2⟩
theorem KV.put {kvs : List (κ × V)} {vs : List (κ × Value)} (r : KV kvs vs) (k : κ) {y : V} {u : Value} (ry : RelV y u) : KV (putK kvs k y) (stored vs k u) := by
  unfold putK stored
  rw [r.any k]
  by_cases e : (vs.any fun kv => decide (kv.1 = k)) = true
  · rw [if_pos e, if_pos e]; exact r.repl k ry
  · rw [if_neg e, if_neg e]; exact Paired.snoc r ⟨rfl, ry⟩
theorem KV.keys {kvs : List (κ × V)} {vs : List (κ × Value)} (r : KV kvs vs) : kvs.map (·.1) = vs.map (·.1) := by
  unfold KV at r
  induction r with
  | nil => rfl
  | cons h t ih => rw [List.map_cons, List.map_cons, ih, h.1]
theorem KV.length {kvs : List (κ × V)} {vs : List (κ × Value)} (r : KV kvs vs) : kvs.length = vs.length := Paired.length r
end
theorem kV_is {P : Program} {w : World} {k : Key} {u : Value} (r : RelV (kV k) u) : (mixKind P w).is k u = true := by
  cases k with
  | inl i => obtain ⟨t, e⟩ := (show ∃ t, u = Value.int i t from r); subst e; exact mixKind_int P w i t
  | inr x => obtain ⟨t, e⟩ := (show ∃ t, u = Value.str x t from r); subst e; exact mixKind_str P w x t
theorem items_are {P : Program} {w : World} : ∀ {ks : List Key} {us : List Value}, Vals (ks.map kV) us → ItemsAre (mixKind P w) ks us
  | [], _, r => by rw [List.map_nil] at r; cases r; exact .nil
  | k :: ks, _, r => by
    rw [List.map_cons] at r
    cases r with
    | cons h t => exact .cons (kV_is h) (items_are t)
abbrev KT (H : Hp) : List (List Key × V) → List (List Key × Addr × Value) → Prop := Paired fun p q => p.1 = q.1 ∧ H q.2.1 = some (.tup (p.1.map kV)) ∧ RelV p.2 q.2.2
theorem KT.val {H : Hp} {kvs : List (List Key × V)} {xs : List (List Key × Addr × Value)} (r : KT H kvs xs) (k : List Key) : RelO (valV kvs k) ((atKey xs k).map (·.2)) := by
  induction r with
  | nil => exact True.intro
  | @cons p q ps qs h t ih =>
    obtain ⟨h1, _, h2⟩ := h
    by_cases e : p.1 = k
    · have e' : q.1 = k := h1.symm.trans e
      have b : atKey (q :: qs) k = some q.2 := by simp [atKey, List.find?_cons, e']
      rw [valV_pos e, b]; exact h2
    · have e' : ¬ q.1 = k := fun z => e (h1.trans z)
      have b : atKey (q :: qs) k = atKey qs k := by simp [atKey, List.find?_cons, e']
      rw [valV_neg e, b]; exact ih
theorem KT.repl {H : Hp} {kvs : List (List Key × V)} {xs : List (List Key × Addr × Value)} (r : KT H kvs xs) (k : List Key) {y : V} {u : Value} (ry : RelV y u) :
    KT H (kvs.map fun kv => if kv.1 = k then (kv.1, y) else kv) (xs.map (putAt k u)) := by
  induction r with
  | nil => exact .nil
  | @cons p q ps qs h t ih =>
    rw [List.map_cons, List.map_cons]
    refine .cons ?_ ih
    obtain ⟨h1, h2, h3⟩ := h
    unfold putAt
    by_cases e : p.1 = k
    · rw [if_pos e, if_pos (h1.symm.trans e)]; exact ⟨h1, h2, ry⟩
    · rw [if_neg e, if_neg (fun z => e (h1.trans z))]; exact ⟨h1, h2, h3⟩
theorem KT.put {H : Hp} {kvs : List (List Key × V)} {xs : List (List Key × Addr × Value)} (r : KT H kvs xs) (k : List Key) {b : Addr} {y : V} {u : Value} (hb : H b = some (.tup (k.map kV))) (ry : RelV y u) :
    KT H (putK kvs k y) (storedH xs k b u) := by
  have e : (kvs.any fun kv => decide (kv.1 = k)) = (atKey xs k).isSome := by
    rw [valV_any, (r.val k).isSome_eq, Option.isSome_map]
  unfold putK storedH
  rw [e]
  by_cases q : (atKey xs k).isSome = true
  · rw [if_pos q, if_pos q]; exact r.repl k ry
  · rw [if_neg q, if_neg q]; exact Paired.snoc r ⟨rfl, hb, ry⟩
theorem KT.keeps {H H' : Hp} {kvs : List (List Key × V)} {xs : List (List Key × Addr × Value)} (r : KT H kvs xs) (ht : ∀ b ys, H b = some (.tup ys) → H' b = some (.tup ys)) : KT H' kvs xs :=
  Paired.mapP r fun _ _ z => ⟨z.1, ht _ _ z.2.1, z.2.2⟩
section
variable {P : Program} {w : World} {H : Hp} {h : Heap} {a : Addr}
theorem rd_of {u : HO} (ok : HOk P w H h) (e : Rd H a u) : ObjOk P w H h a u := e.ok ok
theorem dk_rd {kvs : List (Key × V)} (ok : HOk P w H h) (e : Rd H a (.dK kvs)) : kvs.length ≤ sizeLine ∧ (a == sysModules) = false ∧ ∃ vs, KV kvs vs ∧ h.DictOf (mixKind P w) a vs :=
  show ObjOk P w H h a (.dK kvs) from rd_of ok e
theorem dk_of {kvs : List (Key × V)} (ok : HOk P w H h) (e : H a = some (.dK kvs)) : kvs.length ≤ sizeLine ∧ (a == sysModules) = false ∧ ∃ vs, KV kvs vs ∧ h.DictOf (mixKind P w) a vs := dk_rd ok (.inl e)
theorem key_of {ks : List Key} (ok : HOk P w H h) (e : H a = some (.tup (ks.map kV))) : (tupleKind (mixKind P w)).is h ks a := by
  obtain ⟨_, its, r, o, h1, h2, n, h3⟩ := (show ObjOk P w H h a (.tup (ks.map kV)) from ok a _ e)
  exact ⟨o, its.toArray, n, h1, h2, h3, by simpa using items_are r⟩
theorem dt_rd {kvs : List (List Key × V)} (ok : HOk P w H h) (e : Rd H a (.dT kvs)) : kvs.length ≤ sizeLine ∧ (a == sysModules) = false ∧
    ∃ xs, KT H kvs xs ∧ h.DictOfH (tupleKind (mixKind P w)) a xs := by
  obtain ⟨z, y, xs, r, o, es, ep, h1, h2, h3, h4, h5⟩ := (show ObjOk P w H h a (.dT kvs) from rd_of ok e)
  refine ⟨z, y, xs, r, o, es, ep, h1, h2, h3, h4, fun x hx => ?_, h5⟩
  have all : ∀ {l : List (List Key × V)} {m : List (List Key × Addr × Value)}, KT H l m → ∀ x ∈ m, (tupleKind (mixKind P w)).is h x.1 x.2.1 := by
    intro l m q
    induction q with
    | nil => intro x hx; exact nomatch hx
    | @cons p q ps qs hq t ih =>
      intro x hx
      rcases List.mem_cons.mp hx with e | hx
      · subst e
        exact key_of ok (by rw [← hq.1]; exact hq.2.1)
      · exact ih x hx
  exact all r x hx
theorem dt_of {kvs : List (List Key × V)} (ok : HOk P w H h) (e : H a = some (.dT kvs)) : kvs.length ≤ sizeLine ∧ (a == sysModules) = false ∧
    ∃ xs, KT H kvs xs ∧ h.DictOfH (tupleKind (mixKind P w)) a xs := dt_rd ok (.inl e)
end
def DGet (H : Hp) (a : Addr) (y : V) (r : Option V) : Prop :=
  (∃ kvs k, Rd H a (.dK kvs) ∧ y = kV k ∧ r = valV kvs k) ∨ ∃ kvs k b, Rd H a (.dT kvs) ∧ y = .ref b ∧ H b = some (.tup (k.map kV)) ∧ r = valV kvs k
def DPut (H : Hp) (a : Addr) (y v : V) (H' : Hp) : Prop :=
  (∃ kvs k, H a = some (.dK kvs) ∧ y = kV k ∧ kvs.length < sizeLine ∧ H' = upd H a (.dK (putK kvs k v))) ∨
  ∃ kvs k b, H a = some (.dT kvs) ∧ y = .ref b ∧ H b = some (.tup (k.map kV)) ∧ kvs.length < sizeLine ∧ H' = upd H a (.dT (putK kvs k v))
theorem DGet.k {H : Hp} {a : Addr} {kvs : List (Key × V)} {k : Key} (e : H a = some (.dK kvs)) : DGet H a (kV k) (valV kvs k) := .inl ⟨kvs, k, .inl e, rfl, rfl⟩
theorem DPut.k {H : Hp} {a : Addr} {kvs : List (Key × V)} {k : Key} {v : V} (e : H a = some (.dK kvs)) (hl : kvs.length < sizeLine) : DPut H a (kV k) v (upd H a (.dK (putK kvs k v))) := .inl ⟨kvs, k, e, rfl, hl, rfl⟩
section
variable {X : Cx} {pins : List (Addr × Obj)} {σ : St} {H : Hp} {s : Shared} {a : Addr} {y v : V} {u r : Value} {o : Option V} {A : Around} {E : Value → Shared → Prop}
theorem Inv.big (I : Inv X pins σ H s) : sysModules < s.heap.objs.size := by
  have h : mainGlobals < s.heap.objs.size := (I.mod.glob.keeps I.bk).lt
  exact Nat.lt_trans (by decide) h
theorem d_getItem {Q : Value → Shared → Prop} (hu : A.units + 1 < cLine) (I : Inv X pins σ H s) (g : DGet H a y (some v)) (ry : RelV y u) (h : ∀ w' s', Inv X pins σ H s' → RelV v w' → Q w' s') :
    wpAny (model X.prog X.w) A (getItem (.ref a) u) Q E s := by
  rcases g with ⟨kvs, k, e, ey, l⟩ | ⟨kvs, k, b, e, ey, eb, l⟩
  · subst ey
    obtain ⟨z, hd, vs, rel, dd⟩ := dk_rd I.hok e
    obtain ⟨w', hw, rw'⟩ := RelO.some_of (v := v) (o := valueAt vs k) (by rw [l]; exact rel.val k)
    exact wpAny_getItem_of (kV_is ry) dd.mapOf hw (h w' _ (I.tok _) rw')
  · subst ey
    cases (show u = Value.ref b from ry)
    obtain ⟨z, hd, xs, rel, dd⟩ := dt_rd I.hok e
    obtain ⟨w', hw, rw'⟩ := RelO.some_of (v := v) (o := (atKey xs k).map (·.2)) (by rw [l]; exact rel.val k)
    obtain ⟨p, hp, hp2⟩ := Option.map_eq_some_iff.mp hw
    refine wpAny_getItem_heap (tupleKind_room_in1 hu) (key_of I.hok eb) dd hp ?_
    rw [hp2]
    exact h w' _ (I.tok _) rw'
theorem d_in {Q : Value → Shared → Prop} (hu : A.units + 1 < cLine) (I : Inv X pins σ H s) (g : DGet H a y o) (ry : RelV y u) (h : ∀ s', Inv X pins σ H s' → Q (.bool o.isSome) s') :
    wpAny (model X.prog X.w) A (compareOp .In u (.ref a)) Q E s := by
  rcases g with ⟨kvs, k, e, ey, l⟩ | ⟨kvs, k, b, e, ey, eb, l⟩
  · subst ey
    obtain ⟨z, hd, vs, rel, dd⟩ := dk_rd I.hok e
    refine wpAny_in_of (kV_is ry) hd dd.mapOf ?_
    rw [← (rel.val k).isSome_eq, ← l]
    exact h _ (I.tok _)
  · subst ey
    cases (show u = Value.ref b from ry)
    obtain ⟨z, hd, xs, rel, dd⟩ := dt_rd I.hok e
    refine wpAny_in_heap (tupleKind_room_in1 hu) (key_of I.hok eb) hd dd ?_
    have q := (rel.val k).isSome_eq
    rw [Option.isSome_map] at q
    rw [← q, ← l]
    exact h _ (I.tok _)
theorem d_notIn {Q : Value → Shared → Prop} (hu : A.units + 1 < cLine) (I : Inv X pins σ H s) (g : DGet H a y o) (ry : RelV y u) (h : ∀ s', Inv X pins σ H s' → Q (.bool (!o.isSome)) s') :
    wpAny (model X.prog X.w) A (compareOp .NotIn u (.ref a)) Q E s := by
  rcases g with ⟨kvs, k, e, ey, l⟩ | ⟨kvs, k, b, e, ey, eb, l⟩
  · subst ey
    obtain ⟨z, hd, vs, rel, dd⟩ := dk_rd I.hok e
    refine wpAny_notIn_of (kV_is ry) hd dd.mapOf ?_
    rw [← (rel.val k).isSome_eq, ← l]
    exact h _ (I.tok _)
  · subst ey
    cases (show u = Value.ref b from ry)
    obtain ⟨z, hd, xs, rel, dd⟩ := dt_rd I.hok e
    refine wpAny_notIn_heap (tupleKind_room_in1 hu) (key_of I.hok eb) hd dd ?_
    have q := (rel.val k).isSome_eq
    rw [Option.isSome_map] at q
    rw [← q, ← l]
    exact h _ (I.tok _)
theorem d_write {h' : Heap} {t' : Nat} {ob : HO} (I : Inv X pins σ H s) (mu : Mut (H a)) (hs : Heap.SameBut a s.heap h') (he : ∃ q, h'.get? a = some q) (new : ObjOk X.prog X.w (upd H a ob) h' a ob) :
    Inv X pins σ (upd H a ob) { s with heap := h', toks := t' } :=
  I.write (x := a) (e := a) mu (.inl rfl) (fun b q hb z => (hs.2 b hb).trans z) he new
theorem dk_new {P : Program} {w : World} {H' : Hp} {h' : Heap} {kvs : List (Key × V)} {vs : List (Key × Value)} (z : kvs.length ≤ sizeLine) (hd : (a == sysModules) = false) (rel : KV kvs vs) (dd : h'.DictOf (mixKind P w) a vs) :
    ObjOk P w H' h' a (.dK kvs) := ⟨z, hd, vs, rel, dd⟩
theorem d_setItem {H' : Hp} {Q : Unit → Shared → Prop} (hu : A.units + 1 < cLine) (I : Inv X pins σ H s) (g : DPut H a y v H') (ry : RelV y u) (rv : RelV v r) (h : ∀ s', Inv X pins σ H' s' → Q () s') :
    wpAny (model X.prog X.w) A (setItem (.ref a) u r) Q E s := by
  rcases g with ⟨kvs, k, e, ey, l, eH⟩ | ⟨kvs, k, b, e, ey, eb, l, eH⟩
  · subst ey eH
    obtain ⟨z, hd, vs, rel, dd⟩ := dk_of I.hok e
    have hz : vs.length ≤ sizeLine := by rw [← rel.length]; exact z
    have hl : (putK kvs k v).length ≤ sizeLine := by have := length_putK kvs k v; omega
    refine wpAny_setItem_pairs (hsz := hz) (kV_is ry) dd fun h' dd' hs => h _ ?_
    have he : ∃ q, h'.get? a = some q := let ⟨q, _, _, hq, _⟩ := dd'; ⟨q, hq⟩
    exact d_write I (by rw [e]; exact True.intro) hs he (dk_new hl hd (rel.put k rv) dd')
  · subst ey eH
    cases (show u = Value.ref b from ry)
    obtain ⟨z, hd, xs, rel, dd⟩ := dt_of I.hok e
    have hz : xs.length ≤ sizeLine := by rw [← Paired.length rel]; exact z
    have hl : (putK kvs k v).length ≤ sizeLine := by have := length_putK kvs k v; omega
    refine wpAny_setItem_heap (hsz := hz) (tupleKind_room_in1 hu) (key_of I.hok eb) dd fun h' dd' hs => h _ ?_
    obtain ⟨q, es, ep, hq, h2, h3, h4, _, h5⟩ := dd'
    refine d_write I (by rw [e]; exact True.intro) hs ⟨q, hq⟩ ⟨hl, hd, _, (rel.put k eb rv).keeps fun c ys ec => ?_, q, es, ep, hq, h2, h3, h4, h5⟩
    rw [upd_ne (ne_of ec e (fun z => nomatch z))]
    exact ec
end
section
variable {X : Cx} {pins : List (Addr × Obj)} {σ : St} {H : Hp} {s : Shared} {a : Addr} {kvs : List (Key × V)} {k : Key} {u : Value} {A : Around} {E : Value → Shared → Prop}
theorem d_len {Q : Value → Shared → Prop} (I : Inv X pins σ H s) (e : Rd H a (.dK kvs)) (h : ∀ t s', Inv X pins σ H s' → Q (.int kvs.length t) s') : wpAny (model X.prog X.w) A (call (.builtin "len") [.ref a]) Q E s := by
  obtain ⟨z, hd, vs, rel, dd⟩ := dk_rd I.hok e
  refine call_len_dict hd dd (by rw [← rel.length]; rw [sizeLine_eq] at z; omega) ?_
  rw [← rel.length]
  exact h _ _ (I.tok _)
end
def NoSl (i : Expr) : Prop := ∀ ov iv, subscripted i false ov iv = operate [ov, iv] (getItem ov iv)
theorem subD_of {prog : Program} {w : World} {A : Around} {E : Value → Shared → Prop} {s : Shared} {env : Env} {value slice : Expr} {pos : Pos} {T id : String} {Q : Value → Shared → Prop}
    (hl : typeLookup (.type T) "__getitem__" = pure (some (.builtin id))) (hs : NoSl slice)
    (h : wpAny (model prog w) A (eval value env) (fun o s₁ => wpAny (model prog w) A (eval slice env) (fun i s₂ => s₂.TypeIs o T ∧ wpAny (model prog w) A (getItem o i) Q E s₂) E s₁) E s) :
    wpAny (model prog w) A (eval (.Subscript value slice pos) env) Q E s := by
  refine Subscript_ (wpAny_mono h (fun o s₁ h₁ => wpAny_mono h₁ (fun i s₂ h₂ => ?_) fun _ _ x => x) fun _ _ x => x)
  obtain ⟨hT, h₂⟩ := h₂
  unfold subscriptTail
  refine wpAny_bind ?_
  rw [getitemInPython_of_ne hT.not_modules]
  refine wpAny_bind (wpAny_specialOf hT hl ?_)
  have fin : wpAny (model prog w) A (subscripted slice false o i) (fun r s₃ => wpAny (model prog w) A (letTemporaryGo value o r >>= fun _ => pure r) Q E s₃) E s₂ := by
    rw [hs o i]
    exact wpAny_operating (wpAny_mono h₂ (fun r s₃ h₃ => wpAny_bind (wpAny_letTemporaryGo (wpAny_pure h₃))) fun _ _ x => x)
  first
    | exact wpAny_pure (wpAny_bind fin)
    | exact wpAny_bind (wpAny_pure (wpAny_bind fin))
    | exact wpAny_bind fin
theorem dict_typeIs {X : Cx} {pins : List (Addr × Obj)} {σ : St} {H : Hp} {s : Shared} {a : Addr} {y : V} {o : Option V} (I : Inv X pins σ H s) (g : DGet H a y o) : s.TypeIs (.ref a) "dict" := by
  rcases g with ⟨kvs, k, e, _, _⟩ | ⟨kvs, k, b, e, _, _, _⟩
  · obtain ⟨_, _, vs, _, dd⟩ := dk_rd I.hok e
    exact dd.typeIs
  · obtain ⟨_, _, xs, _, dd⟩ := dt_rd I.hok e
    exact dd.typeIs
def tDGet (td ty : TE) : TE := fun σ H Q => td σ H fun x H1 => ty σ H1 fun y H2 => ∃ a v, x = .ref a ∧ DGet H2 a y (some v) ∧ Q v H2
def tDIn (ty td : TE) : TE := fun σ H Q => ty σ H fun y H1 => td σ H1 fun x H2 => ∃ a o, x = .ref a ∧ DGet H2 a y o ∧ Q (.bl o.isSome) H2
def tDNotIn (ty td : TE) : TE := fun σ H Q => ty σ H fun y H1 => td σ H1 fun x H2 => ∃ a o, x = .ref a ∧ DGet H2 a y o ∧ Q (.bl (!o.isSome)) H2
def sDPut (td ty tv : TE) : TS := fun D σ H => tv σ H fun v H1 => td σ H1 fun x H2 => ty σ H2 fun y H3 => ∃ a H4, x = .ref a ∧ DPut H3 a y v H4 ∧ D.nx σ H4
section
variable {X : Cx} {o i e value : Expr} {pos pos' tpos : Pos} {td ty tv : TE}
theorem pe_dget (hu : X.A.units + 1 < cLine) (ho : PE X o td) (hi : PE X i ty) (hs : NoSl i) : PE X (.Subscript o i pos) (tDGet td ty) := by
  intro pins s σ H Q I h
  refine subD_of PySem.F.slot_dict_getitem.lookup hs (thn (ho pins s σ H _ I h) fun u s1 ⟨x, H1, I1, rx, q1⟩ => thn (hi pins s1 σ H1 _ I1 q1) fun iv s2 ⟨y, H2, I2, ry, a, v, ex, g, q2⟩ => ?_)
  subst ex
  obtain rfl : u = Value.ref a := rx
  exact ⟨dict_typeIs I2 g, d_getItem hu I2 g ry fun w' s3 I3 rw' => ⟨v, H2, I3, rw', q2⟩⟩
theorem pc_din (hu : X.A.units + 1 < cLine) (hi : PE X i ty) (ho : PE X o td) : PC X .In i o (tDIn ty td) := by
  intro pins s σ H Q I h
  refine thn (hi pins s σ H _ I h) fun iv s1 ⟨y, H1, I1, ry, q1⟩ => thn (ho pins s1 σ H1 _ I1 q1) fun u s2 ⟨x, H2, I2, rx, a, ov, ex, g, q2⟩ => ?_
  subst ex
  obtain rfl : u = Value.ref a := rx
  exact d_in hu I2 g ry fun s3 I3 => ⟨.bl ov.isSome, H2, I3, rfl, q2⟩
theorem pc_dnotin (hu : X.A.units + 1 < cLine) (hi : PE X i ty) (ho : PE X o td) : PC X .NotIn i o (tDNotIn ty td) := by
  intro pins s σ H Q I h
  refine thn (hi pins s σ H _ I h) fun iv s1 ⟨y, H1, I1, ry, q1⟩ => thn (ho pins s1 σ H1 _ I1 q1) fun u s2 ⟨x, H2, I2, rx, a, ov, ex, g, q2⟩ => ?_
  subst ex
  obtain rfl : u = Value.ref a := rx
  exact d_notIn hu I2 g ry fun s3 I3 => ⟨.bl (!ov.isSome), H2, I3, rfl, q2⟩
theorem ps_dput (hu : X.A.units + 1 < cLine) (ho : PE X o td) (hi : PE X i ty) (hv : PE X value tv) (hs : swapsWith value (some (.Subscript o i pos')) pos.line X.env = pure false) :
    PS X (.Assign [.Subscript o i pos'] value pos) (sDPut td ty tv) := by
  intro pins s σ H D I h
  refine wpAny_Assign_Subscript (thn (hv pins s σ H _ I h) fun r s1 ⟨v, H1, I1, rv, q1⟩ => thn (ho pins s1 σ H1 _ I1 q1) fun u s2 ⟨x, H2, I2, rx, q2⟩ => thn (hi pins s2 σ H2 _ I2 q2) fun iv s3 ⟨y, H3, I3, ry, a, H4, ex, g, q3⟩ => ?_) hs
  subst ex
  obtain rfl : u = Value.ref a := rx
  exact d_setItem hu I3 g ry rv fun s4 I4 => ⟨σ, H4, I4, q3⟩
end
theorem dk_empty {P : Program} {w : World} {H : Hp} (h : Heap) (hb : sysModules < h.objs.size) : ObjOk P w H (h.push { cls := .type "dict", data := .dict #[] }) h.objs.size (.dK []) :=
  ⟨Nat.zero_le _, beq_eq_false_iff_ne.mpr (Ne.symm (Nat.ne_of_lt hb)), [], .nil, Heap.DictOf.new h⟩
def tDNewK : TE := fun _ H Q => ∀ p, H p = none → Q (.ref p) (upd H p (.dK []))
section
variable {X : Cx} {pos : Pos}
theorem pe_dnewK : PE X (.Dict [] [] pos) tDNewK := fun pins s σ H Q I h =>
  wpAny_Dict_empty ⟨.ref s.heap.objs.size, _, I.laid (a := s.heap.objs.size) (o := .dK []) (t' := s.toks) (fun _ _ q => Heap.get?_push_of_some _ q) (Nat.le_refl _) (dk_empty s.heap I.big), rfl, h _ (I.hok.fresh (Nat.le_refl _))⟩
end
def tPairs : List (TE × TE) → St → Hp → (List (V × V) → Hp → Prop) → Prop
  | [], _, H, Q => Q [] H
  | (tk, tv) :: r, σ, H, Q => tk σ H fun x H1 => tv σ H1 fun y H2 => tPairs r σ H2 fun ps H3 => Q ((x, y) :: ps) H3
abbrev VV : List (V × V) → List (Value × Value) → Prop := Paired fun p q => RelV p.1 q.1 ∧ RelV p.2 q.2
def PPs (X : Cx) (pos : Pos) (keys : List (Option Expr)) (values : List Expr) (trs : List (TE × TE)) : Prop :=
  ∀ (pins : List (Addr × Obj)) (s : Shared) (σ : St) (H : Hp) (Q : List (V × V) → Hp → Prop), Inv X pins σ H s → tPairs trs σ H Q →
    wpAny (model X.prog X.w) X.A (evalPairs (pairTrees keys values X.env pos)) (fun vs s' => ∃ ps H', Inv X pins σ H' s' ∧ VV ps vs ∧ Q ps H') X.xe s
theorem pps_nil {X : Cx} {pos : Pos} : PPs X pos [] [] [] := fun pins s σ H Q I h => pairTrees_nil_walk ⟨[], H, I, .nil, h⟩
theorem pps_cons {X : Cx} {pos : Pos} {k v : Expr} {ks : List (Option Expr)} {vs : List Expr} {tk tv : TE} {trs : List (TE × TE)} (hk : PE X k tk) (hv : PE X v tv) (hr : PPs X pos ks vs trs) :
    PPs X pos (some k :: ks) (v :: vs) ((tk, tv) :: trs) := fun pins s σ H Q I h =>
  pairTrees_cons_walk (thn (hk pins s σ H _ I h) fun u s1 ⟨x, H1, I1, rx, q1⟩ => thn (hv pins s1 σ H1 _ I1 q1) fun w2 s2 ⟨y, H2, I2, ry, q2⟩ =>
    thn (hr pins s2 σ H2 _ I2 q2) fun ws s3 ⟨ps, H3, I3, rel, q3⟩ => ⟨(x, y) :: ps, H3, I3, .cons ⟨rx, ry⟩ rel, q3⟩)
def mergeK (kvs more : List (Key × V)) : List (Key × V) := more.foldl (fun acc kv => putK acc kv.1 kv.2) kvs
theorem KV.merge : ∀ {more : List (Key × V)} {rs : List (Key × Value)} {kvs : List (Key × V)} {vs : List (Key × Value)}, KV more rs → KV kvs vs → KV (mergeK kvs more) (merged vs rs) := by
  intro more rs kvs vs r
  unfold KV at r
  induction r generalizing kvs vs with
  | nil => intro q; exact q
  | @cons p q ps qs h t ih =>
    intro r0
    have e : KV (putK kvs p.1 p.2) (stored vs q.1 q.2) := by
      have := r0.put p.1 h.2
      rw [← h.1]; exact this
    exact ih e
theorem length_mergeK : ∀ (more kvs : List (Key × V)), (mergeK kvs more).length ≤ kvs.length + more.length
  | [], kvs => by show kvs.length ≤ kvs.length + 0; omega
  | p :: r, kvs => by
    have h1 := length_mergeK r (putK kvs p.1 p.2)
    have h2 := length_putK kvs p.1 p.2
    show (mergeK (putK kvs p.1 p.2) r).length ≤ _
    rw [List.length_cons]; omega
theorem carries_of {P : Program} {w : World} : ∀ {kvs : List (Key × V)} {ws : List (Value × Value)}, VV (kvs.map fun kv => (kV kv.1, kv.2)) ws → ∃ rs, Carries (mixKind P w) ws rs ∧ KV kvs rs
  | [], _, r => by rw [List.map_nil] at r; cases r; exact ⟨[], True.intro, .nil⟩
  | p :: kvs, _, r => by
    rw [List.map_cons] at r
    cases r with
    | @cons a b as bs h t =>
      obtain ⟨rs, c, q⟩ := carries_of (P := P) (w := w) t
      obtain ⟨b1, b2⟩ := b
      exact ⟨(p.1, b2) :: rs, ⟨kV_is h.1, rfl, c⟩, .cons ⟨rfl, h.2⟩ q⟩
def tDisp (trs : List (TE × TE)) : TE := fun σ H Q => ∀ p, H p = none → tPairs trs σ (upd H p (.dK [])) fun ps H2 => H2 p = some (.dK []) ∧ ∃ kvs : List (Key × V), ps = kvs.map (fun kv => (kV kv.1, kv.2)) ∧ kvs.length ≤ 15 ∧ Q (.ref p) (upd H2 p (.dK (mergeK [] kvs)))
theorem pe_disp {X : Cx} {pos : Pos} {keys : List (Option Expr)} {values : List Expr} {trs : List (TE × TE)} (h : PPs X pos keys values trs) (hall : keys.all (·.isSome) = true) (hl : keys.length = values.length) (h0 : keys ≠ [])
    (h15 : keys.length ≤ 15) : PE X (.Dict keys values pos) (tDisp trs) := by
  intro pins s σ H Q I q
  have hn := I.hok.fresh (Nat.le_refl s.heap.objs.size)
  have I1 := I.laid (a := s.heap.objs.size) (o := .dK []) (h' := s.heap.push { cls := .type "dict", data := .dict #[] }) (t' := s.toks) (fun _ _ q => Heap.get?_push_of_some _ q) (Nat.le_refl _) (dk_empty s.heap I.big)
  refine wpAny_Dict_walk (knd := mixKind X.prog X.w) hall hl h0 h15 (thn (h pins _ σ _ _ I1 (q _ hn)) fun ws s2 ⟨ps, H2, I2, rel, e, kvs, ep, lk, q2⟩ => ?_)
  subst ep
  obtain ⟨rs, c, rk⟩ := carries_of (P := X.prog) (w := X.w) rel
  obtain ⟨z, hd, vs0, r0, dd⟩ := dk_of I2.hok e
  cases r0
  refine ⟨rs, c, dd, fun h' dd' hs => ⟨.ref s.heap.objs.size, _, ?_, rfl, q2⟩⟩
  have hz : (mergeK [] kvs).length ≤ sizeLine := by
    have h1 := length_mergeK kvs []
    rw [List.length_nil] at h1
    rw [sizeLine_eq]; omega
  have he : ∃ q, h'.get? s.heap.objs.size = some q := let ⟨q, _, _, hq, _⟩ := dd'; ⟨q, hq⟩
  exact d_write I2 (by rw [e]; exact True.intro) hs he (dk_new hz hd (rk.merge .nil) dd')
structure M2 (X : Cx) (o : Expr) (m : Str) (apos : Pos) (e f : Expr) (cpos : Pos) : Prop where
  base : attributeBase o m X.env (eval o X.env) = eval o X.env
  few : ((backTo cpos (starEach [e, f] X.env)).all (fun x => !x.1) && (backToKw cpos (keywordEach [] X.env)).all (fun x => x.1.isSome)
    && decide (([e, f] : List Expr).length + ([] : List Keyword).length + (if ([] : List Keyword).isEmpty then 0 else 1) < 30)) = true
  line : (apos.endLine == cpos.line) = true
  trees : backTo cpos (starEach [e, f] X.env) = [(false, eval e X.env), (false, eval f X.env)]
def IsD (H : Hp) (a : Addr) : Prop := (∃ kvs, Rd H a (.dK kvs)) ∨ ∃ kvs, Rd H a (.dT kvs)
theorem isD_at {X : Cx} {pins : List (Addr × Obj)} {σ : St} {H : Hp} {s : Shared} {a : Addr} (I : Inv X pins σ H s) (d : IsD H a) :
    s.TypeIs (.ref a) "dict" ∧ (∀ b, Value.ref a = .ref b → ∃ ob, s.heap.get? b = some ob ∧ ob.dict = none) ∧ (a == sysModules) = false := by
  rcases d with ⟨kvs, e⟩ | ⟨kvs, e⟩
  · obtain ⟨_, hd, vs, _, dd⟩ := dk_rd I.hok e
    refine ⟨dd.typeIs, fun b q => ?_, hd⟩
    cases q
    obtain ⟨ob, _, _, h1, h2, _⟩ := dd
    exact ⟨ob, h1, h2.2.1⟩
  · obtain ⟨_, hd, xs, _, dd⟩ := dt_rd I.hok e
    refine ⟨dd.typeIs, fun b q => ?_, hd⟩
    cases q
    obtain ⟨ob, _, _, h1, h2, _⟩ := dd
    exact ⟨ob, h1, h2.2.1⟩
section
variable {X : Cx} {pins : List (Addr × Obj)} {σ : St} {H : Hp} {s : Shared} {a : Addr} {y d : V} {u r : Value} {o : Option V} {A : Around} {E : Value → Shared → Prop}
theorem d_get2 {Q : Value → Shared → Prop} (hu : A.units + 1 < cLine) (I : Inv X pins σ H s) (g : DGet H a y o) (ry : RelV y u) (rd : RelV d r) (h : ∀ w' s', Inv X pins σ H s' → RelV (o.getD d) w' → Q w' s') :
    wpAny (model X.prog X.w) A (call (.builtin "dict.get") [.ref a, u, r]) Q E s := by
  rcases g with ⟨kvs, k, e, ey, l⟩ | ⟨kvs, k, b, e, ey, eb, l⟩
  · subst ey
    obtain ⟨z, hd, vs, rel, dd⟩ := dk_rd I.hok e
    refine call_meetsIn PySem.F.slot_dict_get dd.typeIs PySem.F.entry_dict_get (PySem.F.args_dict_get_3 _ _ _) (meets_dict_get_default (mixKind X.prog X.w) a (kV_is ry) hd r) ⟨_, dd.mapOf, h _ _ (I.tok _) ?_⟩
    rw [l]
    exact (rel.val k).getD rd
  · subst ey
    cases (show u = Value.ref b from ry)
    obtain ⟨z, hd, xs, rel, dd⟩ := dt_rd I.hok e
    refine call_meetsIn PySem.F.slot_dict_get dd.typeIs PySem.F.entry_dict_get (PySem.F.args_dict_get_3 _ _ _) (meetsH_dict_get_default (tupleKind (mixKind X.prog X.w)) a b hd r) ⟨tupleKind_room_in1 hu, k, xs, key_of I.hok eb, dd, h _ _ (I.tok _) ?_⟩
    rw [l]
    exact (rel.val k).getD rd
end
def tDGet2 (td ty tx : TE) : TE := fun σ H Q => td σ H fun x H1 => ∃ a, x = .ref a ∧ IsD H1 a ∧ ty σ H1 fun y H2 => tx σ H2 fun z H3 => ∃ o, DGet H3 a y o ∧ Q (o.getD z) H3
section
variable {X : Cx} {o e f : Expr} {apos cpos : Pos} {td ty tx : TE}
theorem pe_dget2 (hu : X.A.units + 1 < cLine) (ho : PE X o td) (he : PE X e ty) (hf : PE X f tx) (m : M2 X o "get" apos e f cpos) : PE X (.Call (.Attribute o "get" apos) [e, f] [] cpos) (tDGet2 td ty tx) := by
  intro pins s σ H Q I h
  refine wpAny_Call_method m.base m.few m.line PySem.F.plainAttrs_dict PySem.F.slot_dict_get PySem.F.type_dict_get (thn (ho pins s σ H _ I h) fun u s1 ⟨x, H1, I1, rx, a, ex, d, q1⟩ => ?_)
  subst ex
  obtain rfl : u = Value.ref a := rx
  obtain ⟨t1, t2, _⟩ := isD_at I1 d
  refine ⟨t1, t2, ?_⟩
  rw [m.trees]
  refine Calls.callWith_builtin rfl (Calls.evalArgs_plain (Calls.spliced_cons (thn (he pins s1 σ H1 _ I1 q1) fun iv s2 ⟨y, H2, I2, ry, q2⟩ =>
    Calls.spliced_cons (thn (hf pins s2 σ H2 _ I2 q2) fun fv s3 ⟨z, H3, I3, rz, ov, g, q3⟩ => Calls.spliced_nil ?_))))
  exact d_get2 hu I3 g ry rz fun w' s4 I4 rw' => ⟨_, H3, I4, rw', q3⟩
end
end L2
namespace L2
open PySem PySem.Spec PyProof.Rows
section
variable {X : Cx} {pins : List (Addr × Obj)} {σ : St} {H : Hp} {s : Shared} {h' : Heap}
theorem Inv.turnedNew {t' : Nat} {ch : List Addr} {T : Addr} {ob : HO} (I : Inv X pins σ H s) (k : ∀ b o, b ∉ ch → s.heap.get? b = some o → h'.get? b = some o) (hf : ∀ b ∈ ch, FpOk X pins H b) (hT : s.heap.objs.size ≤ T)
    (new : ObjOk X.prog X.w (upd H T ob) h' T ob) : Inv X pins σ (upd H T ob) { s with heap := h', toks := t' } := by
  have hn : H T = none := I.hok.fresh hT
  have nit : ∀ b u, H b = some u → b ∉ ch := fun b u e z => by
    have q := (hf b z).1
    rw [q] at e; cases e
  refine I.step (g' := s.gens) (d' := s.drawn) (ch := ch) (fun b hb => ⟨(hf b hb).2.2.2.1, (hf b hb).2.1, (hf b hb).2.2.2.2.1, (hf b hb).2.2.2.2.2⟩) (fun b o _ _ hc e _ => k b o hc e) (fun b o _ _ hc e _ => ⟨o.slots, k b o hc e⟩)
    (fun b o _ e n => ?_) (fun b o hc e => ⟨o, k b o hc e⟩) (fun b xs e => ?_) (fun b o u e => ?_) (fun b ps e => ⟨#[], ?_⟩) (fun m hm => ?_) (fun b u e => ?_) I.bare
  · rw [upd_ne (Nat.ne_of_lt (Nat.lt_of_lt_of_le (Heap.lt_size e) hT))]; exact n
  · rw [upd_ne (ne_of_none e hn)]; exact e
  · rw [upd_ne (ne_of_none e hn)]; exact e
  · rw [upd_ne (ne_of_none e hn), e]; simp
  · obtain ⟨o, es, ep, ho, r⟩ := hm
    exact ⟨o, es, ep, k _ o (fun z => (hf _ z).2.1 rfl) ho, r⟩
  · by_cases hb : b = T
    · subst hb
      rw [upd_same] at e
      cases e
      exact new
    · rw [upd_ne hb] at e
      refine (I.hok b u e).stay (fun c v hc q => k c v ?_ q) (fun c q => by rw [upd_ne (ne_of_none q hn)]; exact q) fun c xs q => by rw [upd_ne (ne_of_none q hn)]; exact q
      rcases hc with z | z
      · rw [z]; exact nit b u e
      · exact nit c _ z
theorem Inv.lock {d : Addr} {u : HO} (I : Inv X pins σ H s) (h : H d = some u) (mu : Mut (some u)) : ∃ od, Inv X pins σ (upd H d (.frz od u)) s := by
  have x := I.hok d u h
  have ex : ∃ od, s.heap.get? d = some od := by
    cases u with
    | lst xs => obtain ⟨_, _, _, _, e⟩ := x; exact ⟨_, e⟩
    | dK kvs => obtain ⟨_, _, _, _, o, _, _, e, _⟩ := x; exact ⟨o, e⟩
    | dT kvs => obtain ⟨_, _, _, _, o, _, _, e, _⟩ := x; exact ⟨o, e⟩
    | set S n => obtain ⟨o, _, _, _, e, _⟩ := x; exact ⟨o, e⟩
    | ins C dx fs => obtain ⟨_, _, _, e, _⟩ := x; exact ⟨_, e⟩
    | ext φ => obtain ⟨_, ⟨_, e⟩, _⟩ := x; exact ⟨_, e⟩
    | _ => exact False.elim mu
  obtain ⟨od, e⟩ := ex
  have new : ObjOk X.prog X.w (upd H d (.frz od u)) s.heap d (.frz od u) := by
    refine ⟨e, x.stay (fun b v _ q => q) (fun b q => ?_) fun b xs q => ?_⟩
    · rw [upd_ne (fun z => by rw [z, h] at q; cases q; exact mu)]; exact q
    · rw [upd_ne (fun z => by rw [z, h] at q; cases q; exact mu)]; exact q
  exact ⟨od, I.write (x := d) (e := d) (t' := s.toks) (h' := s.heap) (by rw [h]; exact mu) (.inl rfl) (fun b v _ q => q) ⟨od, e⟩ new⟩
theorem Inv.nofrz {d : Addr} {u : HO} (I : Inv X pins σ H s) (h : H d = some u) (mu : Mut (some u)) : ∀ o' u', X.H_0 d ≠ some (.frz o' u') := fun o' u' e => by
  have q := I.base.frzs d o' u' e
  rw [h] at q
  cases q
  exact mu
theorem Inv.unlock {d : Addr} {od : Obj} {u : HO} (I : Inv X pins σ H s) (h : H d = some (.frz od u)) (hn : ∀ o' u', X.H_0 d ≠ some (.frz o' u')) : Inv X pins σ (upd H d u) s := by
  have neH : ∀ b o, H b = some o → (∀ o' u', o ≠ .frz o' u') → b ≠ d := fun b o e hne z => by
    rw [z, h] at e
    cases e
    exact hne _ _ rfl
  have neN : ∀ b, H b = none → b ≠ d := fun b e z => by rw [z, h] at e; cases e
  refine ⟨I.ok, I.os, I.bare, ⟨I.base.keep, I.base.slot, fun b o e n hx => ?_, I.base.there, fun b xs e => ?_, fun b o x e => ?_, fun b ps e => ?_⟩, I.loc, I.cell, ?_, fun x c e => ?_, fun p hp => ?_, fun b o e => ?_, I.len⟩
  · rw [upd_ne (neN b (I.base.free b o e n hx))]; exact I.base.free b o e n hx
  · have q := I.base.tups b xs e
    rw [upd_ne (neH b _ q (fun _ _ z => nomatch z))]; exact q
  · have q := I.base.frzs b o x e
    rw [upd_ne (fun z => by rw [z] at e; exact hn _ _ e)]; exact q
  · obtain ⟨m, q⟩ := I.base.tbls b ps e
    exact ⟨m, by rw [upd_ne (neH b _ q (fun _ _ z => nomatch z))]; exact q⟩
  · rw [upd_ne (neN _ I.free)]; exact I.free
  · rw [upd_ne (neN c (I.freeC x c e))]; exact I.freeC x c e
  · obtain ⟨e, n, r⟩ := I.pin p hp
    exact ⟨e, by rw [upd_ne (neN _ n)]; exact n, r⟩
  · by_cases hb : b = d
    · rw [hb, upd_same] at e
      cases e
      rw [hb]
      obtain ⟨_, x⟩ := I.hok d _ h
      exact x.stay (fun c v _ q => q) (fun c q => by rw [upd_ne (neH c _ q (fun _ _ z => nomatch z))]; exact q) fun c xs q => by rw [upd_ne (neH c _ q (fun _ _ z => nomatch z))]; exact q
    · rw [upd_ne hb] at e
      exact (I.hok b o e).stay (fun c v _ q => q) (fun c q => by rw [upd_ne (neH c _ q (fun _ _ z => nomatch z))]; exact q) fun c xs q => by rw [upd_ne (neH c _ q (fun _ _ z => nomatch z))]; exact q
end
def tLock (t : TS) : TS := fun D σ H => ∃ d u, H d = some u ∧ Mut (some u) ∧ ∀ od, t ⟨fun σ' H' => H' d = some (.frz od u) ∧ D.nx σ' (upd H' d u), fun v H' => H' d = some (.frz od u) ∧ D.rt v (upd H' d u), fun σ' H' => H' d = some (.frz od u) ∧ D.bk σ' (upd H' d u), fun σ' H' => H' d = some (.frz od u) ∧ D.ct σ' (upd H' d u)⟩ σ (upd H d (.frz od u))
def tLockE (t : TE) : TE := fun σ H Q => ∃ d u, H d = some u ∧ Mut (some u) ∧ ∀ od, t σ (upd H d (.frz od u)) fun v H' => H' d = some (.frz od u) ∧ Q v (upd H' d u)
section
variable {X : Cx}
theorem ps_lock {st : Stmt} {t : TS} (h : PS X st t) : PS X st (tLock t) := by
  intro pins s σ H D I hw
  obtain ⟨d, u, hd, mu, hw⟩ := hw
  obtain ⟨od, I1⟩ := I.lock hd mu
  refine thn (h pins s σ _ _ I1 (hw od)) fun f s1 q => ?_
  cases f with
  | next => obtain ⟨σ', H', I2, e, q⟩ := q; exact ⟨σ', _, I2.unlock e (I.nofrz hd mu), q⟩
  | brk => obtain ⟨σ', H', I2, e, q⟩ := q; exact ⟨σ', _, I2.unlock e (I.nofrz hd mu), q⟩
  | cont => obtain ⟨σ', H', I2, e, q⟩ := q; exact ⟨σ', _, I2.unlock e (I.nofrz hd mu), q⟩
  | ret v => obtain ⟨x, σ', H', I2, r, e, q⟩ := q; exact ⟨x, σ', _, I2.unlock e (I.nofrz hd mu), r, q⟩
theorem pe_lock {e : Expr} {t : TE} (h : PE X e t) : PE X e (tLockE t) := by
  intro pins s σ H Q I hw
  obtain ⟨d, u, hd, mu, hw⟩ := hw
  obtain ⟨od, I1⟩ := I.lock hd mu
  refine thn (h pins s σ _ _ I1 (hw od)) fun v s1 ⟨x, H1, I2, r, e2, q⟩ => ?_
  exact ⟨x, _, I2.unlock e2 (I.nofrz hd mu), r, q⟩
theorem pi_one {tg : Expr} {pins : List (Addr × Obj)} {σ : St} {H : Hp} {s : Shared} {R : It → Hp → Prop} {J : It} {tn : Nat → Heap → Prop} {tk : Nat} (I : Inv X pins σ H s) (o : Obj)
    (T : Turn X.prog X.w X.K tg J [s.heap.objs.size] s.heap.objs.size tn) (st : tn 0 (s.heap.push o)) (q : R J H) : PIE X pins σ tg R (.ref s.heap.objs.size) { s with heap := s.heap.push o, toks := tk } := by
  refine ⟨s.heap.objs.size, [s.heap.objs.size], tn, J, H, rfl, I.kept fun b ob e => Heap.get?_push_of_some _ e, T, st, fun b hb => ?_, q⟩
  have e : b = s.heap.objs.size := by simpa using hb
  subst e
  exact I.fpOk (Nat.le_refl _) (I.hok.fresh (Nat.le_refl _))
end
def Itc (lo c : Int) (n : Nat) : It := ⟨fun i _ => i < n, fun i H x H' => H' = H ∧ x = .int (lo + (i : Nat) * c), fun i _ => n ≤ i⟩
theorem turn_rangeC {P : Program} {w : World} {K : PySem.W.Frag} {tg : Expr} (it : Addr) (lo c : Int) (n : Nat) : Turn P w K tg (Itc lo c n) [it] it (fun i h => IsRangeIter h it (lo + (i : Nat) * c) ((n : Int) - (i : Nat)) c) where
  mem := by simp
  obj := fun i h st b hb => by
    have e : b = it := by simpa using hb
    subst e
    exact ⟨_, st, fun v z => nomatch z⟩
  keep := fun i h h' st k => k it (by simp) _ st
  item := by
    intro X hP hw hK hc i pins s σ H E I hf st hg
    subst hP hw hK
    obtain ⟨f0, f1, f2, f3, f4, f5⟩ := hf it (by simp)
    have W := Walks.range (prog := X.prog) (w := X.w) (I.ok.hd hc) it lo c n
    refine W.item i s _ _ hg st fun v h' tk hv st' kk => ?_
    obtain ⟨t, rfl⟩ := hv
    have I1 : Inv X pins σ H { s with heap := h', toks := tk } := I.turned (fun b o hb e => kk b o (by simpa using hb) e) f0 f1 f3 f4 f5
    exact ⟨_, rfl, go_of (s := { s with heap := h', toks := tk }) (n := "range_iterator") st' rfl rfl (by decide) ⟨.int (lo + (i : Nat) * c), H, I1, ⟨t, rfl⟩, ⟨rfl, rfl⟩, st', fun b hb => (hf b hb).1⟩⟩
  done := by
    intro X hP hw hK hc i pins s σ H E I hf st hg
    subst hP hw hK
    obtain ⟨f0, f1, f2, f3, f4, f5⟩ := hf it (by simp)
    exact wpAny_pyNext_range_end (I.ok.hd hc) st (by have : n ≤ i := hg; omega) fun h' eb => ⟨rfl, I.turned (t' := s.toks) (fun b o hb e => eb b o hb e) f0 f1 f3 f4 f5⟩
  self := fun A i s Q E st h => wpAny_pyIter_rangeiter st h
def RgC (i j c : Int) (n : Nat) : Prop := c ≠ 0 ∧ c.natAbs < 1073741824 ∧ Builtin.Range.small i j c = true ∧ Builtin.Range.rangeSize i j c = n
def iRng3 (ta : TA) : TI := fun σ H R => ta σ H fun vs H1 => ∃ (i j c : Int) (n : Nat), vs = [.int i, .int j, .int c] ∧ RgC i j c n ∧ R (Itc i c n) H1
section
variable {X : Cx} {tg : Expr}
theorem pi_range3 {a b c : Expr} {ta : TA} {p pos : Pos} (hg : Gl X "range") (hm : X.mg "range" = none) (ha : PA X [a, b, c] ta)
    (hs : starEach [a, b, c] X.env = (false, eval a X.env) :: starEach [b, c] X.env := by rfl) (hpl : (backTo pos (starEach [b, c] X.env)).any (·.1) = false := by rfl) :
    PI X tg (.Call (.Name "range" p) [a, b, c] [] pos) (iRng3 ta) := by
  intro pins s σ H R I h
  refine Call_ (ld_blt I hg hm boot_range (PyProof.Rows.callWith_type1 (thn (ha pos pins s σ H _ I h) fun us s1 ⟨vs, H1, I1, r1, q1⟩ => ?_) hs hpl))
  obtain ⟨i, j, k, n, e, ⟨c0, c1, c2, c3⟩, q⟩ := q1
  subst e
  cases r1 with
  | cons r rr =>
    cases rr with
    | cons r' rr =>
      cases rr with
      | cons r'' rr =>
        cases rr
        obtain ⟨t, rfl⟩ := r
        obtain ⟨t', rfl⟩ := r'
        obtain ⟨t'', rfl⟩ := r''
        refine call_range_3 c0 ?_ (.inl (PyProof.noPylong_small c1))
        refine wpAny_pyIter_range (IsRange.new ..) c2 ?_
        have I2 : Inv X pins σ H1 { s1 with heap := s1.heap.push { cls := .type "range", data := .fields #[.int i t, .int j t', .int k t''] } } := I1.kept (t' := s1.toks) fun b o e => Heap.get?_push_of_some _ e
        refine pi_one (tk := s1.toks) I2 _ (turn_rangeC _ i k n) ?_ q
        have e1 : i + ((0 : Nat) : Int) * k = i := by simp
        have e2 : (n : Int) - ((0 : Nat) : Int) = Builtin.Range.rangeSize i j k := by rw [c3]; simp
        show IsRangeIter _ _ (i + ((0 : Nat) : Int) * k) ((n : Int) - ((0 : Nat) : Int)) k
        rw [e1, e2]
        exact Heap.get?_push_size _ rfl
end
theorem for_rangeC {lo c : Int} {n : Nat} {g : TG} {tb : TS} {D : Ends} {σ : St} {H : Hp} (Pv : Nat → St → Hp → Prop) (h0 : Pv 0 σ H)
    (hs : ∀ i σ H, i < n → Pv i σ H → g (.int (lo + (i : Nat) * c)) σ H fun σ2 H2 => tb { D with nx := Pv (i + 1), ct := Pv (i + 1), bk := D.nx } σ2 H2) (hd : ∀ σ H, Pv n σ H → D.nx σ H) :
    ∃ W : Nat → Nat → St → Hp → Prop, (∃ m, W 0 m σ H) ∧ ∀ i m σ H, W i m σ H →
      ((Itc lo c n).stop i H ∧ D.nx σ H) ∨ ((Itc lo c n).go i H ∧ ∃ N : St → Hp → Prop, (∀ σ' H', N σ' H' → ∃ m', m' < m ∧ W (i + 1) m' σ' H') ∧ ∀ x H', (Itc lo c n).yld i H x H' → g x σ H' fun σ2 H2 => tb { D with nx := N, ct := N, bk := D.nx } σ2 H2) := by
  refine ⟨fun i m σ H => m = n - i ∧ i ≤ n ∧ Pv i σ H, ⟨n, by simp, Nat.zero_le _, h0⟩, ?_⟩
  rintro i m σ H ⟨rfl, hi, p⟩
  by_cases hlt : i < n
  · refine .inr ⟨hlt, Pv (i + 1), fun σ' H' p' => ⟨n - (i + 1), by omega, rfl, hlt, p'⟩, fun x H' y => ?_⟩
    obtain ⟨e, y⟩ := y
    subst e y
    exact hs i σ _ hlt p
  · have e : i = n := by omega
    subst e
    exact .inl ⟨Nat.le_refl _, hd σ H p⟩
section
variable {prog : Program} {w : World} {A : Around} {E : Value → Shared → Prop} {s : Shared}
theorem iter_keys {d : Addr} {o : Obj} {es : Array DictEntry} {ep : Nat} {Q : Value → Shared → Prop} (hd : (d == sysModules) = false) (ho : s.heap.get? d = some o) (hc : o.ExactDict) (hdat : o.data = .dict es ep)
    (hQ : Q (.ref s.heap.objs.size) { s with heap := s.heap.push { cls := .type "dict_keyiterator", data := .fields #[.ref d, .int 0 0, .int es.size 0, .int ep 0] } }) :
    wpAny (model prog w) A (pyIter (.ref d)) Q E s := by
  have hT : s.TypeIs (.ref d) "dict" := ⟨o, ho, hc.1⟩
  refine wpAny_pyIter_slot hT F.slot_dict_iter (wpAny_call_entry F.slot_dict_iter hT F.entry_dict_iter ?_ (F.args_dict_iter_1 _))
  unfold Builtin.«dict.__iter__»
  refine wpAny_bind ?_
  unfold Builtin.Dict.dictSlotNone
  refine wpAny_bind (wpAny_notOrdered_dict hT ?_)
  show wpAny _ _ (pure (Value.ref d)) _ _ s
  refine wpAny_pure ?_
  show wpAny _ _ (Builtin.Dict.showsAll d >>= _) _ _ s
  unfold Builtin.Dict.showsAll
  rw [if_neg (by rw [hd]; exact Bool.false_ne_true)]
  refine wpAny_bind (wpAny_pure ?_)
  refine wpAny_bind (wpAny_dictEntries ho hdat ?_)
  refine wpAny_bind (wpAny_dictEpoch ho hdat ?_)
  refine wpAny_bind (wpAny_newObj_type (wpAny_pure ⟨_, rfl, "dict_keyiterator", _, ⟨_, Heap.get?_push_size _ rfl, rfl⟩, F.slot_dict_keyiterator_next.lookup, ?_⟩))
  simpa [rawInt] using hQ
theorem next_key_item {it d : Addr} {i n ep : Nat} {od : Obj} {es : Array DictEntry} {en : DictEntry} {Q : Option Value → Shared → Prop} (hit : s.heap.IsKeyIter it d i n ep) (hod : s.heap.get? d = some od) (hdd : od.data = .dict es ep)
    (hsz : es.size = n) (hx : es[i]? = some en) (hQ : ∀ h', h'.IsKeyIter it d (i + 1) n ep → Heap.SameBut it s.heap h' → Q (some en.key) { s with heap := h' }) : wpAny (model prog w) A (pyNext (.ref it)) Q E s := by
  obtain ⟨o, ho, hc, hd⟩ := id hit
  unfold pyNext
  refine wpAny_bind (wpAny_attempt (wpAny_callSpecial?_slot (name := Str.ofString "__next__") hit.typeIs F.slot_dict_keyiterator_next
    (wpAny_call_entry F.slot_dict_keyiterator_next hit.typeIs F.entry_dict_keyiterator_next ?_ (F.args_dict_keyiterator_next_1 _))))
  refine wpAny_bind (wpAny_pure ?_)
  refine wpAny_bind ?_
  refine wpAny_bind ?_
  first | refine wpAny_bind (wpAny_typeNameOfWhole_keyiter hit.typeIs (wpAny_pure ?_)) | refine wpAny_bind (wpAny_typeNameOf_keyiter hit.typeIs (wpAny_pure ?_))
  refine wpAny_bind (wpAny_fieldsOf ho hd ?_)
  have hown : Builtin.Dict_items.ownsTuple "dict_keyiterator" = false := by decide
  simp only [hown, Bool.false_eq_true, if_false]
  show wpAny _ _ (if (Value.ref d == Value.none) = true then _ else _) _ _ s
  rw [if_neg (show ¬ ((Value.ref d == Value.none) = true) from Bool.false_ne_true)]
  refine wpAny_bind (wpAny_pure ?_)
  refine wpAny_bind (wpAny_dictEntries hod hdd ?_)
  rw [if_neg (by rw [hsz]; simp)]
  refine wpAny_bind (wpAny_pure ?_)
  refine wpAny_bind (wpAny_dictEpoch hod hdd ?_)
  rw [if_neg (by simp)]
  refine wpAny_pure ?_
  obtain ⟨hlt', hen⟩ := Array.getElem?_eq_some_iff.mp hx
  simp only [show ¬ ((i : Int) < 0) from by omega, if_false, Int.toNat_natCast, Array.getElem?_eq_getElem hlt']
  refine wpAny_bind ?_
  first | refine wpAny_bind (wpAny_typeNameOfWhole_keyiter hit.typeIs (wpAny_pure ?_)) | refine wpAny_bind (wpAny_typeNameOf_keyiter hit.typeIs (wpAny_pure ?_))
  refine wpAny_bind (wpAny_isOneOf_keyiter hit.typeIs ?_)
  show wpAny _ _ (setField (.ref it) 1 (rawInt ((i : Int) + 1)) >>= _) _ _ s
  refine wpAny_bind (wpAny_setField ho hd (by simp) ?_)
  have hit' : (s.heap.update it (Obj.mapFields (·.setIfInBounds 1 (rawInt ((i : Int) + 1))))).IsKeyIter it d (i + 1) n ep :=
    ⟨_, Heap.get?_update_self _ ho (Obj.isFreed_of_fields (Obj.data_mapFields hd _)), (Obj.cls_mapFields ..).trans hc, by rw [Obj.data_mapFields hd]; simp [rawInt]⟩
  refine wpAny_bind (wpAny_holding ?_)
  refine wpAny_bind (wpAny_isOneOf_keyiter (s := { s with heap := s.heap.update it (Obj.mapFields (·.setIfInBounds 1 (rawInt ((i : Int) + 1)))) }) hit'.typeIs ?_)
  show wpAny _ _ (pure es[i].key) _ _ _
  rw [hen]
  exact wpAny_pure (wpAny_pure ⟨_, rfl, wpAny_pure (hQ _ hit' (Heap.SameBut.update ..))⟩)
theorem next_key_end {it d : Addr} {i n ep : Nat} {od : Obj} {es : Array DictEntry} {Q : Option Value → Shared → Prop} (hh : A.handled = none) (hit : s.heap.IsKeyIter it d i n ep) (hod : s.heap.get? d = some od) (hdd : od.data = .dict es ep)
    (hsz : es.size = n) (hge : n ≤ i) (hQ : ∀ h', Heap.ExtBut it s.heap h' → Q none { s with heap := h' }) : wpAny (model prog w) A (pyNext (.ref it)) Q E s := by
  obtain ⟨o, ho, hc, hd⟩ := id hit
  unfold pyNext
  refine wpAny_bind (wpAny_attempt (wpAny_callSpecial?_slot (name := Str.ofString "__next__") hit.typeIs F.slot_dict_keyiterator_next
    (wpAny_call_entry F.slot_dict_keyiterator_next hit.typeIs F.entry_dict_keyiterator_next ?_ (F.args_dict_keyiterator_next_1 _))))
  refine wpAny_bind (wpAny_pure ?_)
  refine wpAny_bind ?_
  refine wpAny_bind ?_
  first | refine wpAny_bind (wpAny_typeNameOfWhole_keyiter hit.typeIs (wpAny_pure ?_)) | refine wpAny_bind (wpAny_typeNameOf_keyiter hit.typeIs (wpAny_pure ?_))
  refine wpAny_bind (wpAny_fieldsOf ho hd ?_)
  have hown : Builtin.Dict_items.ownsTuple "dict_keyiterator" = false := by decide
  simp only [hown, Bool.false_eq_true, if_false]
  show wpAny _ _ (if (Value.ref d == Value.none) = true then _ else _) _ _ s
  rw [if_neg (show ¬ ((Value.ref d == Value.none) = true) from Bool.false_ne_true)]
  refine wpAny_bind (wpAny_pure ?_)
  refine wpAny_bind (wpAny_dictEntries hod hdd ?_)
  rw [if_neg (by rw [hsz]; simp)]
  refine wpAny_bind (wpAny_pure ?_)
  refine wpAny_bind (wpAny_dictEpoch hod hdd ?_)
  rw [if_neg (by simp)]
  refine wpAny_pure ?_
  have hge' : es.size ≤ i := by rw [hsz]; exact hge
  simp only [show ¬ ((i : Int) < 0) from by omega, if_false, Int.toNat_natCast, Array.getElem?_eq_none hge']
  refine wpAny_bind ?_
  first | refine wpAny_bind (wpAny_typeNameOfWhole_keyiter hit.typeIs (wpAny_pure ?_)) | refine wpAny_bind (wpAny_typeNameOf_keyiter hit.typeIs (wpAny_pure ?_))
  show wpAny _ _ (setField (.ref it) 0 .none >>= _) _ _ s
  refine wpAny_bind (wpAny_setField ho hd (by simp) ?_)
  show wpAny _ _ (newExc (.type "StopIteration") [] >>= _) _ _ _
  refine wpAny_bind ?_
  simp only [newExc, newTuple]
  refine wpAny_bind (wpAny_newObj_type ?_ (by size_fits))
  refine wpAny_bind (m := firstArgMember _ _) (wpAny_of_eq (a := Value.none) (by first | rfl | (simp only [firstArgMember]; rfl)) ?_)
  refine wpAny_newObj_type ?_ (by size_fits)
  simp only [raiseNew]
  refine wpAny_bind (wpAny_handled ?_)
  rw [show A.in1.handled = none from hh]
  refine wpAny_bind (wpAny_pure (wpAny_throw ?_))
  refine wpAny_bind (wpAny_isInstance (T := "StopIteration") (b := true) ⟨_, Heap.get?_push_size _ rfl, rfl⟩ isSubtype_stop ?_)
  exact wpAny_pure (hQ _ (((Heap.SameBut.update ..).extBut.push _).push _))
end
theorem kv_get {κ : Type} {kvs : List (κ × V)} {vs : List (κ × Value)} (h : KV kvs vs) : ∀ {i : Nat} {k : κ} {v : V}, kvs[i]? = some (k, v) → ∃ u, vs[i]? = some (k, u) ∧ RelV v u := by
  unfold KV at h
  induction h with
  | nil => intro i k v e; simp at e
  | @cons a b l₁ l₂ r t ih =>
    intro i k v e
    cases i with
    | zero =>
      simp only [List.getElem?_cons_zero, Option.some.injEq] at e
      subst e
      refine ⟨b.2, ?_, r.2⟩
      simp only [List.getElem?_cons_zero]
      exact congrArg some (Prod.ext r.1.symm rfl)
    | succ j =>
      simp only [List.getElem?_cons_succ] at e ⊢
      exact ih e
theorem paired_get {α β : Type} {G : α → β → Prop} {l₁ : List α} {l₂ : List β} (h : Paired G l₁ l₂) : ∀ {i : Nat} {a : α}, l₁[i]? = some a → ∃ b, l₂[i]? = some b ∧ G a b := by
  induction h with
  | nil => intro i a e; simp at e
  | @cons a b l₁ l₂ r t ih =>
    intro i a' e
    cases i with
    | zero =>
      simp only [List.getElem?_cons_zero, Option.some.injEq] at e
      subst e
      exact ⟨b, rfl, r⟩
    | succ j =>
      simp only [List.getElem?_cons_succ] at e ⊢
      exact ih e
theorem relV_key {k : Key} {u : Value} (h : keyIs k u = true) : RelV (kV k) u := by
  rcases keyIs_shape h with ⟨i, t, rfl, rfl⟩ | ⟨x, t, rfl, rfl⟩
  · exact ⟨t, rfl⟩
  · exact ⟨t, rfl⟩
section
variable {X : Cx} {pins : List (Addr × Obj)} {σ : St} {H : Hp} {s : Shared} {d : Addr} {o : Obj}
theorem Inv.frzK {kvs : List (Key × V)} (I : Inv X pins σ H s) (h : H d = some (.frz o (.dK kvs))) :
    (d == sysModules) = false ∧ s.heap.get? d = some o ∧ o.ExactDict ∧ ∃ (es : Array DictEntry) (ep : Nat) (vs : List (Key × Value)), o.data = .dict es ep ∧ es.size = kvs.length ∧ KV kvs vs ∧ s.heap.DictAt (mixKind X.prog X.w) d vs ep := by
  obtain ⟨hd, z, hs, vs, kv, o', es, ep, ho, hx, hdt, r⟩ := I.hok d _ h
  rw [hd] at ho
  cases ho
  refine ⟨hs, hd, hx, es, ep, vs, hdt, ?_, kv, o, es, hd, hx, hdt, r⟩
  have l1 := r.2.1.length
  have l2 : kvs.length = vs.length := Paired.length kv
  rw [Array.length_toList] at l1
  omega
theorem Inv.frzT {kvs : List (List Key × V)} (I : Inv X pins σ H s) (h : H d = some (.frz o (.dT kvs))) :
    (d == sysModules) = false ∧ s.heap.get? d = some o ∧ o.ExactDict ∧ ∃ (es : Array DictEntry) (ep : Nat), o.data = .dict es ep ∧ es.size = kvs.length ∧
      ∀ (i : Nat) (k : List Key) (v : V), kvs[i]? = some (k, v) → ∃ (en : DictEntry) (q : Addr), es[i]? = some en ∧ en.key = .ref q ∧ H q = some (.tup (k.map kV)) := by
  obtain ⟨hd, z, hs, xs, pr, o', es, ep, ho, hx, hdt, he, _⟩ := I.hok d _ h
  rw [hd] at ho
  cases ho
  refine ⟨hs, hd, hx, es, ep, hdt, ?_, fun i k v e => ?_⟩
  · have l1 : es.size = xs.length := size_of_entries he
    have l2 : kvs.length = xs.length := Paired.length pr
    omega
  · obtain ⟨b, hb, e1, e2, _⟩ := paired_get pr e
    have q := entry_at he i
    rw [hb] at q
    exact ⟨_, b.2.1, q, rfl, e2⟩
end
def Itk (d : Addr) (o : Obj) (kvs : List (Key × V)) : It :=
  ⟨fun i H => H d = some (.frz o (.dK kvs)) ∧ i < kvs.length, fun i H x H' => H' = H ∧ ∃ k v, kvs[i]? = some (k, v) ∧ x = kV k, fun i H => H d = some (.frz o (.dK kvs)) ∧ kvs.length ≤ i⟩
def Itkt (d : Addr) (o : Obj) (kvs : List (List Key × V)) : It :=
  ⟨fun i H => H d = some (.frz o (.dT kvs)) ∧ i < kvs.length, fun i H x H' => H' = H ∧ ∃ (k : List Key) (v : V) (q : Addr), kvs[i]? = some (k, v) ∧ x = .ref q ∧ H q = some (.tup (k.map kV)), fun i H => H d = some (.frz o (.dT kvs)) ∧ kvs.length ≤ i⟩
theorem dict_ep {o : Obj} {es es' : Array DictEntry} {ep ep' : Nat} (h : o.data = .dict es ep) (h' : o.data = .dict es' ep') : es' = es ∧ ep' = ep := by
  rw [h] at h'
  cases h'
  exact ⟨rfl, rfl⟩
section
variable {P : Program} {w : World} {K : PySem.W.Frag} {tg : Expr} {d : Addr} {o : Obj} {es : Array DictEntry} {ep : Nat}
theorem turn_keys {kvs : List (Key × V)} (it : Addr) (hod : o.data = .dict es ep) : Turn P w K tg (Itk d o kvs) [it] it (fun i h => h.IsKeyIter it d i kvs.length ep) where
  mem := by simp
  obj := fun i h st b hb => by
    have e : b = it := by simpa using hb
    subst e
    obtain ⟨oi, e, c, dd⟩ := st
    exact ⟨oi, e, fun v z => by rw [dd] at z; cases z⟩
  keep := fun i h h' st k => st.at fun oi e => k it (by simp) oi e
  item := by
    intro X hP hw hK hc i pins s σ H E I hf st hg
    subst hP hw hK
    obtain ⟨hd, hi⟩ := hg
    obtain ⟨f0, f1, f2, f3, f4, f5⟩ := hf it (by simp)
    obtain ⟨hs, hgd, hx, es', ep', vs, hdt, hsz, kv, hm⟩ := I.frzK hd
    obtain ⟨rfl, rfl⟩ := dict_ep hod hdt
    obtain ⟨⟨k, v⟩, hkv⟩ : ∃ p, kvs[i]? = some p := ⟨kvs[i], List.getElem?_eq_getElem hi⟩
    obtain ⟨u, hu, ru⟩ := kv_get kv hkv
    have hl : kvs.length = vs.length := Paired.length kv
    rw [hl] at st
    refine wpAny_pyNext_dict_item st hm hu fun key h' hkey st' sb => ?_
    have I1 : Inv X pins σ H { s with heap := h' } := I.turned (t' := s.toks) (fun b ob hb e => (sb.2 b hb).trans e) f0 f1 f3 f4 f5
    obtain ⟨oi, e, c, dd⟩ := id st'
    refine ⟨key, rfl, go_of (s := { s with heap := h' }) e c dd (by decide) ⟨kV k, H, I1, relV_key (show keyIs k key = true from hkey), ⟨rfl, k, v, hkv, rfl⟩, ?_, fun b hb => (hf b hb).1⟩⟩
    show h'.IsKeyIter it d (i + 1) kvs.length _
    rw [hl]
    exact st'
  done := by
    intro X hP hw hK hc i pins s σ H E I hf st hg
    subst hP hw hK
    obtain ⟨hd, hi⟩ := hg
    obtain ⟨f0, f1, f2, f3, f4, f5⟩ := hf it (by simp)
    obtain ⟨hs, hgd, hx, es', ep', vs, hdt, hsz, kv, hm⟩ := I.frzK hd
    obtain ⟨rfl, rfl⟩ := dict_ep hod hdt
    exact next_key_end (I.ok.hd hc) st hgd hdt hsz hi fun h' eb => ⟨rfl, I.turned (t' := s.toks) (fun b ob hb e => eb b ob hb e) f0 f1 f3 f4 f5⟩
  self := fun A i s Q E st h => wpAny_pyIter_keyiter st h
theorem turn_keysT {kvs : List (List Key × V)} (it : Addr) (hod : o.data = .dict es ep) : Turn P w K tg (Itkt d o kvs) [it] it (fun i h => h.IsKeyIter it d i kvs.length ep) where
  mem := by simp
  obj := fun i h st b hb => by
    have e : b = it := by simpa using hb
    subst e
    obtain ⟨oi, e, c, dd⟩ := st
    exact ⟨oi, e, fun v z => by rw [dd] at z; cases z⟩
  keep := fun i h h' st k => st.at fun oi e => k it (by simp) oi e
  item := by
    intro X hP hw hK hc i pins s σ H E I hf st hg
    subst hP hw hK
    obtain ⟨hd, hi⟩ := hg
    obtain ⟨f0, f1, f2, f3, f4, f5⟩ := hf it (by simp)
    obtain ⟨hs, hgd, hx, es', ep', hdt, hsz, ent⟩ := I.frzT hd
    obtain ⟨rfl, rfl⟩ := dict_ep hod hdt
    obtain ⟨⟨k, v⟩, hkv⟩ : ∃ p, kvs[i]? = some p := ⟨kvs[i], List.getElem?_eq_getElem hi⟩
    obtain ⟨en, q, hen, hkey, hq⟩ := ent i k v hkv
    refine next_key_item st hgd hdt hsz hen fun h' st' sb => ?_
    have I1 : Inv X pins σ H { s with heap := h' } := I.turned (t' := s.toks) (fun b ob hb e => (sb.2 b hb).trans e) f0 f1 f3 f4 f5
    obtain ⟨oi, e, c, dd⟩ := id st'
    exact ⟨en.key, rfl, go_of (s := { s with heap := h' }) e c dd (by decide) ⟨.ref q, H, I1, hkey, ⟨rfl, k, v, q, hkv, rfl, hq⟩, st', fun b hb => (hf b hb).1⟩⟩
  done := by
    intro X hP hw hK hc i pins s σ H E I hf st hg
    subst hP hw hK
    obtain ⟨hd, hi⟩ := hg
    obtain ⟨f0, f1, f2, f3, f4, f5⟩ := hf it (by simp)
    obtain ⟨hs, hgd, hx, es', ep', hdt, hsz, ent⟩ := I.frzT hd
    obtain ⟨rfl, rfl⟩ := dict_ep hod hdt
    exact next_key_end (I.ok.hd hc) st hgd hdt hsz hi fun h' eb => ⟨rfl, I.turned (t' := s.toks) (fun b ob hb e => eb b ob hb e) f0 f1 f3 f4 f5⟩
  self := fun A i s Q E st h => by
    refine wpAny_pyIter_slot st.typeIs F.slot_dict_keyiterator_iter (wpAny_call_entry F.slot_dict_keyiterator_iter st.typeIs F.entry_dict_keyiterator_iter ?_ (F.args_dict_keyiterator_iter_1 _))
    show wpAny _ _ (ret (.ref it)) _ _ s
    exact wpAny_pure ⟨_, rfl, "dict_keyiterator", _, st.typeIs, F.slot_dict_keyiterator_next.lookup, h⟩
end
def iKeys (td : TE) : TI := fun σ H R => td σ H fun x H1 => ∃ d o, x = .ref d ∧ ((∃ kvs, H1 d = some (.frz o (.dK kvs)) ∧ R (Itk d o kvs) H1) ∨ ∃ kvs, H1 d = some (.frz o (.dT kvs)) ∧ R (Itkt d o kvs) H1)
section
variable {X : Cx} {tg e : Expr} {td : TE} {apos cpos : Pos}
theorem pi_keys (he : PE X e td) : PI X tg e (iKeys td) := by
  intro pins s σ H R I h
  refine thn (he pins s σ H _ I h) fun u s1 ⟨x, H1, I1, rx, d, o, ex, q⟩ => ?_
  subst ex
  obtain rfl : u = Value.ref d := rx
  rcases q with ⟨kvs, hd, q⟩ | ⟨kvs, hd, q⟩
  · obtain ⟨hs, hgd, hx, es, ep, vs, hdt, hsz, kv, hm⟩ := I1.frzK hd
    refine iter_keys hs hgd hx hdt (pi_one (tk := s1.toks) I1 _ (turn_keys _ hdt) ⟨_, Heap.get?_push_size _ rfl, rfl, ?_⟩ q)
    rw [hsz] <;> rfl
  · obtain ⟨hs, hgd, hx, es, ep, hdt, hsz, ent⟩ := I1.frzT hd
    refine iter_keys hs hgd hx hdt (pi_one (tk := s1.toks) I1 _ (turn_keysT _ hdt) ⟨_, Heap.get?_push_size _ rfl, rfl, ?_⟩ q)
    rw [hsz] <;> rfl
end
def Ite (K : PySem.W.Frag) (a : Addr) : It :=
  ⟨fun i H => ∃ (xs : List V) (x : V), SqL K H a xs ∧ xs[i]? = some x, fun i H v H' => ∃ T x, v = .ref T ∧ H T = none ∧ H' = upd H T (.tup [.int (i : Nat), x]) ∧ ∀ xs, SqL K H a xs → xs[i]? = some x, fun i H => ∃ xs : List V, SqL K H a xs ∧ xs.length ≤ i⟩
theorem turn_enum {P : Program} {w : World} {K : PySem.W.Frag} {elts : List Expr} {kk : Nat} {tpos : Pos} (a e it : Addr) :
    Turn P w K (.Tuple elts kk tpos) (Ite K a) [e, it] e (fun i h => (∃ old, IsEnum h e it ((i : Nat) : Int) old) ∧ h.IsListIter it a i ∧ e ≠ it) where
  mem := by simp
  obj := fun i h st b hb => by
    obtain ⟨⟨old, he⟩, ⟨o, ho, hc, hd⟩, _⟩ := st
    have e' : b = e ∨ b = it := by simpa using hb
    rcases e' with z | z
    · rw [z]; exact ⟨_, he, fun v q => nomatch q⟩
    · rw [z]; exact ⟨o, ho, fun v q => by rw [hd] at q; cases q⟩
  keep := fun i h h' st k => let ⟨⟨old, he⟩, hi, hne⟩ := st; ⟨⟨old, k e (by simp) _ he⟩, hi.at fun o q => k it (by simp) o q, hne⟩
  item := by
    intro X hP hw hK hc i pins s σ H E I hf st hg
    subst hP hw hK
    obtain ⟨⟨old, he⟩, hit, hne⟩ := st
    obtain ⟨xs, x, hq, hx⟩ := hg
    obtain ⟨its, rv, p, hz⟩ := I.list hq
    obtain ⟨u, hu, ru⟩ := rv.get hx
    have hel : e < s.heap.objs.size := Heap.lt_size he
    have hil : it < s.heap.objs.size := by obtain ⟨_, q, _⟩ := hit; exact Heap.lt_size q
    refine wpAny_pyNext_enum_item he hit p.isList (x := u) (by simpa using hu) hne fun h' ho hit' hT hsz hk => ?_
    refine ⟨_, rfl, wpAny_letOwnedTupleGo_enum (s := { s with heap := h', toks := s.toks + 1 }) ho fun h'' he' sb => ?_⟩
    have hT2 : h''.get? s.heap.objs.size = some { cls := .type "tuple", data := .seq #[.int i s.toks, u] } := (sb.2 _ (Nat.ne_of_gt hel)).trans hT
    have new : ObjOk X.prog X.w (upd H s.heap.objs.size (.tup [.int (i : Nat), x])) h'' s.heap.objs.size (.tup [.int (i : Nat), x]) :=
      ⟨by show 2 ≤ sizeLine; decide, [.int i s.toks, u], .cons ⟨_, rfl⟩ (.cons ru .nil), ⟨_, hT2, rfl, _, rfl⟩⟩
    have I1 : Inv X pins σ (upd H s.heap.objs.size (.tup [.int (i : Nat), x])) { s with heap := h'', toks := s.toks + 1 } :=
      I.turnedNew (ch := [e, it]) (fun b ob hb q => (sb.2 b (fun z => hb (by simp [z]))).trans (hk b ob (fun z => hb (by simp [z])) (fun z => hb (by simp [z])) q)) hf (Nat.le_refl _) new
    refine ⟨.ref s.heap.objs.size, _, I1, rfl, ⟨_, x, rfl, I.hok.fresh (Nat.le_refl _), rfl, fun ys hy => by rw [I.list_inj hy hq]; exact hx⟩, ⟨⟨u, ?_⟩, hit'.at fun o q => (sb.2 it (Ne.symm hne)).trans q, hne⟩, fun b hb => ?_⟩
    · have e1 : ((i + 1 : Nat) : Int) = (i : Int) + 1 := by omega
      rw [e1]; exact he'
    · have hb' : b < s.heap.objs.size := by
        have e' : b = e ∨ b = it := by simpa using hb
        rcases e' with z | z
        · rw [z]; exact hel
        · rw [z]; exact hil
      rw [upd_ne (Nat.ne_of_lt hb')]
      exact (hf b hb).1
  done := by
    intro X hP hw hK hc i pins s σ H E I hf st hg
    subst hP hw hK
    obtain ⟨⟨old, he⟩, hit, hne⟩ := st
    obtain ⟨xs, hq, hx⟩ := hg
    obtain ⟨its, rv, p, hz⟩ := I.list hq
    obtain ⟨f0, f1, f2, f3, f4, f5⟩ := hf it (by simp)
    have hl := rv.length
    exact wpAny_pyNext_enum_end (I.ok.hd hc) he hit p.isList (by simp; omega) fun h' eb => ⟨rfl, I.turned (t' := s.toks) (fun b o hb q => eb b o hb q) f0 f1 f3 f4 f5⟩
  self := fun A i s Q E st h => let ⟨⟨_, he⟩, _⟩ := st; wpAny_pyIter_enum he h
def iEnum (K : PySem.W.Frag) (ta : TA) : TI := fun σ H R => ta σ H fun vs H1 => ∃ a xs, vs = [.ref a] ∧ SqL K H1 a xs ∧ R (Ite K a) H1
theorem pi_enum {X : Cx} {e : Expr} {ta : TA} {p pos tpos : Pos} {elts : List Expr} {kk : Nat} (hg : Gl X "enumerate") (hm : X.mg "enumerate" = none) (ha : PA X [e] ta) (hs : starEach [e] X.env = [(false, eval e X.env)] := by rfl) :
    PI X (.Tuple elts kk tpos) (.Call (.Name "enumerate" p) [e] [] pos) (iEnum X.K ta) := by
  intro pins s σ H R I h
  refine Call_ (ld_blt I hg hm boot_enumerate (PyProof.Rows.callWith_type1 (thn (ha pos pins s σ H _ I h) fun us s1 ⟨vs, H1, I1, r1, q1⟩ => ?_) hs rfl))
  obtain ⟨a, xs, ex, hq, q⟩ := q1
  subst ex
  cases r1 with
  | cons r rr =>
    cases rr
    cases r
    obtain ⟨its, rv, p', hz⟩ := I1.list hq
    refine call_enumerate_list p'.isList fun h' he hit hsz hk => wpAny_pyIter_enum he ?_
    have I2 : Inv X pins σ H1 { s1 with heap := h' } := I1.kept (t' := s1.toks) hk
    refine ⟨s1.heap.objs.size + 1, [s1.heap.objs.size + 1, s1.heap.objs.size], _, _, H1, rfl, I2, turn_enum a (s1.heap.objs.size + 1) s1.heap.objs.size, ⟨⟨.none, he⟩, hit, Nat.succ_ne_self _⟩, fun b hb => ?_, q⟩
    have e' : b = s1.heap.objs.size + 1 ∨ b = s1.heap.objs.size := by simpa using hb
    have hle : s1.heap.objs.size ≤ b := by
      rcases e' with z | z
      · rw [z]; exact Nat.le_add_right _ _
      · rw [z]; exact Nat.le_refl _
    exact I1.fpOk hle (I1.hok.fresh hle)
end L2
section 
end 
section 
end 
namespace L2
open PySem PySem.Spec PyProof.Rows
theorem vals_ints : ∀ {vs : List Value} {ns : List Int}, IntsAre vs ns → Vals (ns.map V.int) vs
  | _, _, .nil => .nil
  | _, _, .cons n t h => .cons ⟨t, rfl⟩ (vals_ints h)
end L2
namespace L2
open PySem PySem.Spec PyProof.Rows
def inClass (s : Stmt) (j : Nat) : Stmt := match s with
  | .ClassDef _ _ _ body _ _ _ _ _ _ _ => body.getD j (.Pass ⟨0, 0, 0, 0⟩)
  | _ => .Pass ⟨0, 0, 0, 0⟩
def defArgs (s : Stmt) : Arguments := match s with
  | .FunctionDef _ a _ _ _ _ _ _ _ _ => a
  | _ => { posonlyargs := [], args := [], vararg := none, kwonlyargs := [], kw_defaults := [], kwarg := none, defaults := [] }
def defBody (s : Stmt) : List Stmt := match s with
  | .FunctionDef _ _ b _ _ _ _ _ _ _ => b
  | _ => []
def defScope (s : Stmt) : Scope := match s with
  | .FunctionDef _ _ _ _ _ _ sc _ _ _ => sc
  | _ => { kind := .function, names := [], isGenerator := false, isCoroutine := false }
abbrev CX0 : CXT := fun _ _ _ _ _ _ => False
abbrev E0 : XK := fun _ _ _ => False
theorem pass0 {X : Cx} : Passes CX0 X E0 := fun _ _ _ _ _ _ _ h => h.elim
structure Fun (K : PySem.W.Frag) (x qual : Str) (st : Stmt) (f : Addr) (fd : FuncData) : Prop where
  ex : ∃ (oc : Value) (od : Option Addr) (kV doc pm : Value) (an : Option Addr) (cdv ct : Value) (osl : Array (Option Value)),
    fd = PySem.W.fnOf x qual (defArgs st) (defBody st) (defScope st) .none kV doc pm an cdv ct ∧ K.lookup f = some ⟨oc, od, .func fd, osl⟩ ∧ PySem.W.codeIn K cdv qual = true
  kp : PySem.W.keepIn K (.ref f) = true
section
variable {P : Program} {w : World} {K : PySem.W.Frag} {mg : Str → Option Value} {base : Heap}
theorem Fun.ok {x qual : Str} {st : Stmt} {f : Addr} {fd : FuncData} {N ps : List Str} {k : Nat} {sp : Sp} (F : Fun K x qual st f fd) (S : FnScope N ps (defScope st)) (len : ∀ vs H Q E, sp vs H Q E → vs.length = ps.length)
    (hbody : ∀ (cdv : Value) (A : Around) (outer : List Env) (s : Shared) (H : Hp) (vs : List V) (Q : VK) (E : XK), Room k (A.deeper (envOfC qual (defScope st) s.heap.objs.size f cdv)) → sp vs H Q E →
      ∃ t, PSs (cxOf CX0 P w K mg base N qual (defScope st) f cdv A outer s H E).nox (defBody st) t ∧ t { nx := fun _ H' => Q .non H', rt := Q } (start N vs) H) : FnOk P w K mg base CX0 (k + 1) f fd ps sp := by
  obtain ⟨oc, od, kV, doc, pm, an, cdv, ct, osl, rfl, lk, hcd⟩ := F.ex
  refine fn_of lk hcd S len fun A outer s H vs Q E hr hsp => ?_
  obtain ⟨t, h, q⟩ := hbody cdv A outer s H vs Q E hr hsp
  exact ⟨t, h.nox, q⟩
theorem Fun.binds {x qual : Str} {st : Stmt} {f : Addr} {fd : FuncData} {ps : List Str} (F : Fun K x qual st f fd)
    (h : ∀ (kV doc pm : Value) (an : Option Addr) (cdv ct : Value) (us : List Value), us.length = ps.length → bindArgs (PySem.W.fnOf x qual (defArgs st) (defBody st) (defScope st) .none kV doc pm an cdv ct) ⟨us, []⟩ = pure (ps.zip us)) : Binds K fd ps [] := by
  obtain ⟨oc, od, kV, doc, pm, an, cdv, ct, osl, rfl, lk, hcd⟩ := F.ex
  exact .all (h kV doc pm an cdv ct)
theorem fun_mk {x qual : Str} {st : Stmt} {f : Addr} {oc : Value} {od an : Option Addr} {osl : Array (Option Value)} {kV doc pm cdv ct : Value} (l : K.lookup f = some ⟨oc, od, .func (PySem.W.fnOf x qual (defArgs st) (defBody st) (defScope st) .none kV doc pm an cdv ct), osl⟩)
    (c : PySem.W.codeIn K cdv qual = true) (k : PySem.W.keepIn K (.ref f) = true) : Fun K x qual st f (PySem.W.fnOf x qual (defArgs st) (defBody st) (defScope st) .none kV doc pm an cdv ct) := ⟨⟨oc, od, kV, doc, pm, an, cdv, ct, osl, rfl, l, c⟩, k⟩
end
theorem hu_of {A : Around} {k : Nat} (hr : Room k A) : A.units + 1 < cLine := Nat.lt_of_le_of_lt (Nat.add_le_add_left (by decide : 1 ≤ 64) _) hr.units
section
variable {X : Cx}
theorem pv (i : Nat) {x : Str} {pos : Pos} (hN : X.N[i]? = some x := by rfl) (hv : Vis X.env.scope x := by first | exact Or.inl rfl | exact Or.inr (Or.inl rfl) | exact Or.inr (Or.inr rfl)) (hd : (x == ("__debug__" : Str)) = false := by decide)
    (hcd : (x == ("__classdict__" : Str)) = false := by decide) : PE X (.Name x pos) (tVar i) := pe_var hN hv hd hcd
theorem call_lenD : CallR X (.builtin "len") (fun xs H Q => ∃ a kvs, xs = [V.ref a] ∧ H a = some (.dK kvs) ∧ Q (.int kvs.length) H) := by
  intro pins s σ H xs us Q I r h
  obtain ⟨a, kvs, rfl, ha, q⟩ := h
  obtain ⟨u, rfl, ru⟩ := vals1 r
  cases ru
  exact d_len I (.inl ha) fun t s' I' => ⟨.int kvs.length, H, I', ⟨t, rfl⟩, q⟩
end
theorem iteF {A B : Prop} (h : B) : if false = true then A else B := by
  rw [if_neg Bool.false_ne_true]
  exact h
theorem iteT {A B : Prop} (h : A) : if true = true then A else B := by
  rw [if_pos rfl]
  exact h
theorem ite2 {c A B : Prop} [Decidable c] (h1 : c → A) (h2 : ¬ c → B) : if c then A else B := by
  by_cases h : c
  · rw [if_pos h]
    exact h1 h
  · rw [if_neg h]
    exact h2 h
def Same (H H' : Hp) : Prop := ∀ b o, H b = some o → H' b = some o
theorem Same.refl (H : Hp) : Same H H := fun _ _ h => h
theorem Same.trans {H H1 H2 : Hp} (a : Same H H1) (b : Same H1 H2) : Same H H2 := fun c o h => b c o (a c o h)
theorem Same.free {H H' : Hp} (e : Same H H') {l : Addr} (h : H' l = Option.none) : H l = Option.none := by
  cases q : H l with
  | none => rfl
  | some o =>
    rw [e l o q] at h
    cases h
theorem Same.seq {K : PySem.W.Frag} {H H' : Hp} {a : Addr} {xs : List V} (e : Same H H') (h : SqL K H a xs) : SqL K H' a xs := by
  rcases h with (h | ⟨o, h⟩) | h
  · exact .inl (.inl (e _ _ h))
  · exact .inl (.inr ⟨o, e _ _ h⟩)
  · exact .inr h
section
variable {κ : Type} [DecidableEq κ]
theorem valV_not {kvs : List (κ × V)} {k : κ} (h : valV kvs k = none) : ¬ k ∈ kvs.map (·.1) := by
  intro m
  obtain ⟨p, hp, e⟩ := List.mem_map.mp m
  have q : (kvs.any fun kv => decide (kv.1 = k)) = true := List.any_eq_true.mpr ⟨p, hp, decide_eq_true e⟩
  rw [valV_any, h] at q
  exact absurd q (by simp)
theorem valV_in {kvs : List (κ × V)} {k : κ} {v : V} (h : valV kvs k = some v) : k ∈ kvs.map (·.1) := by
  have q : (kvs.any fun kv => decide (kv.1 = k)) = true := by
    rw [valV_any, h]
    all_goals rfl
  obtain ⟨p, hp, e⟩ := List.any_eq_true.mp q
  exact List.mem_map.mpr ⟨p, hp, of_decide_eq_true e⟩
theorem nd_snoc : ∀ {l : List κ} {k : κ}, l.Nodup → ¬ k ∈ l → (l ++ [k]).Nodup
  | [], k, _, _ => by simp
  | a :: r, k, h, hk => by
    obtain ⟨h1, h2⟩ := List.nodup_cons.mp h
    show (a :: (r ++ [k])).Nodup
    refine List.nodup_cons.mpr ⟨fun m => ?_, nd_snoc h2 fun m => hk (List.mem_cons.mpr (Or.inr m))⟩
    rcases List.mem_append.mp m with q | q
    · exact h1 q
    · exact hk (List.mem_cons.mpr (Or.inl (List.mem_singleton.mp q).symm))
end
theorem at_of {xs : List V} {z : Int} {j : Nat} {v : V} (e : z = (j : Int)) (h : xs[j]? = some v) : atI xs z = some v := by
  rw [e]
  exact atI_nat h
end L2
namespace L2
open PySem PySem.Spec PyProof.Rows
section
variable {fs ex : List Addr} {P : Program} {w : World} {H : Hp} {h h' : Heap} {a : Addr} {o : HO}
theorem Un.laid2 (k : ∀ b u, h.get? b = some u → h'.get? b = some u) (hp : ∀ b u, h.get? b = some u → b ≠ a) (hn : H a = none) : Un fs ex H (upd H a o) h h' where
  keep := fun b u q _ _ _ => k b u q
  slot := fun b u q _ _ _ => ⟨u.slots, k b u q⟩
  free := fun b u q n _ => by rw [upd_ne (hp b u q)]; exact n
  there := fun b u q _ => ⟨u, k b u q⟩
  tups := fun b xs q => by rw [upd_ne (ne_of_none q hn)]; exact q
  frzs := fun b u xs q => by rw [upd_ne (ne_of_none q hn)]; exact q
  tbls := fun b ps q => ⟨#[], by rw [upd_ne (ne_of_none q hn), q]; simp⟩
theorem HOk.laid2 (x : HOk P w H h) (k : ∀ b u, h.get? b = some u → h'.get? b = some u) (hn : H a = none) (new : ObjOk P w (upd H a o) h' a o) : HOk P w (upd H a o) h' := fun b u e => by
  by_cases hb : b = a
  · subst hb; rw [upd_same] at e; cases e; exact new
  · rw [upd_ne hb] at e
    exact (x b u e).stay (fun c v _ q => k c v q) (fun c q => by rw [upd_ne (ne_of_none q hn)]; exact q) fun c xs q => by rw [upd_ne (ne_of_none q hn)]; exact q
end
theorem Inv.laid2 {X : Cx} {pins : List (Addr × Obj)} {σ : St} {H : Hp} {s : Shared} {h' : Heap} {a : Addr} {o : HO} {t' : Nat} (I : Inv X pins σ H s) (k : ∀ b u, s.heap.get? b = some u → h'.get? b = some u) (hp : ∀ b u, s.heap.get? b = some u → b ≠ a) (hn : H a = none)
    (new : ObjOk X.prog X.w (upd H a o) h' a o) : Inv X pins σ (upd H a o) { s with heap := h', toks := t' } := I.un (Un.laid2 k hp hn) (I.hok.laid2 k hn new)
theorem obj_of {P : Program} {w : World} {H : Hp} {h : Heap} {a : Addr} {o : HO} (x : ObjOk P w H h a o) : ∃ ob, h.get? a = some ob := by
  cases o with
  | lst xs => obtain ⟨_, _, _, _, e⟩ := x; exact ⟨_, e⟩
  | tup xs => obtain ⟨_, _, _, ob, e, _⟩ := x; exact ⟨_, e⟩
  | dK kvs => obtain ⟨_, _, _, _, o, _, _, e, _⟩ := x; exact ⟨_, e⟩
  | dT kvs => obtain ⟨_, _, _, _, o, _, _, e, _⟩ := x; exact ⟨_, e⟩
  | set S n => obtain ⟨o, _, _, _, e, _⟩ := x; exact ⟨_, e⟩
  | ins C dx fs => obtain ⟨_, _, _, e, _⟩ := x; exact ⟨_, e⟩
  | own y => exact x
  | xd fs => obtain ⟨_, ⟨o, _, _, e, _⟩, _⟩ := x; exact ⟨_, e⟩
  | rng lo hi => obtain ⟨_, _, _, e⟩ := x; exact ⟨_, e⟩
  | frz ob u => obtain ⟨e, _⟩ := x; exact ⟨_, e⟩
  | tbl ps => exact ⟨_, show h.get? a = some _ from x⟩
  | met f y => exact ⟨_, show h.get? a = some _ from x⟩
  | ext φ => obtain ⟨_, e, _⟩ := x; exact e
section
variable {X : Cx}
def rSortedA (K : PySem.W.Frag) : List V → Hp → VK → Prop := fun vs H Q => ∃ (a : Addr) (ns : List Int), vs = [V.ref a] ∧ SqL K H a (ns.map V.int) ∧
  ∀ (ns' : List Int) (p : Addr), ns'.Perm ns → ns'.Pairwise (· ≤ ·) → H p = none → Q (.ref p) (upd H p (.lst (ns'.map V.int)))
theorem cr_sortedA : CallR X (.builtin "sorted") (rSortedA X.K) := by
  intro pins s σ H vs us Q I r h
  obtain ⟨a, ns, rfl, hs, q⟩ := h
  obtain ⟨its, rv, hl, hz⟩ := I.list hs
  rw [Vals.ref1 r]
  have hi := rv.ints
  rw [List.length_map] at hz
  refine PyProof.Rows.sorted_intsAny hl.isList hi (by rw [hi.length]; exact hz) fun out ns' h1 h2 h3 => ?_
  obtain ⟨ep, he'⟩ := PyProof.Rows.sortedAll_at s.heap its out
  have hlen : (ns'.map V.int).length ≤ sizeLine := by rw [List.length_map, h2.length_eq]; exact hz
  exact ⟨.ref _, upd H (s.heap.objs.size + 1) (.lst (ns'.map V.int)), I.laid (t' := s.toks) (fun _ _ => PyProof.Rows.sortedAll_old) (Nat.le_succ _) ⟨hlen, out.toList, ep, vals_of_ints h1, he'⟩, rfl, q ns' _ h2 h3 (I.hok.fresh (Nat.le_succ _))⟩
theorem ints_by : ∀ (us : List Value) (ns : List Int), us.length = ns.length → (∀ (j : Nat) (v : Value), us[j]? = some v → ∃ (n : Int) (t : Tok), ns[j]? = some n ∧ v = .int n t) → IntsAre us ns
  | [], [], _, _ => .nil
  | [], _ :: _, h, _ => by simp at h
  | _ :: _, [], h, _ => by simp at h
  | u :: us, n :: ns, h, k => by
    obtain ⟨m, t, e1, rfl⟩ := k 0 u rfl
    simp at e1
    subst e1
    exact .cons _ _ (ints_by us ns (by simpa using h) fun j v e => k (j + 1) v (by simpa using e))
def IntKeys (H : Hp) (d : Addr) (ns : List Int) : Prop := ∃ kvs : List (Key × V), Rd H d (.dK kvs) ∧ kvs.map (·.1) = ns.map Sum.inl
theorem dict_src {pins : List (Addr × Obj)} {σ : St} {H : Hp} {s : Shared} {d : Addr} {ns : List Int} (I : Inv X pins σ H s) (h : IntKeys H d ns) :
    ∃ (vs : List (Key × Value)) (ep : Nat), (d == sysModules) = false ∧ s.heap.DictAt (mixKind X.prog X.w) d vs ep ∧ vs.length = ns.length ∧ ns.length ≤ sizeLine ∧
      ∀ (i : Nat) (v : Value), (∃ k x, vs[i]? = some (k, x) ∧ (mixKind X.prog X.w).is k v = true) → ∃ (n : Int) (t : Tok), ns[i]? = some n ∧ v = .int n t := by
  obtain ⟨kvs, hr, hk⟩ := h
  obtain ⟨hz, hs, vs, kv, hd⟩ := hr.ok I.hok
  obtain ⟨ep, hat⟩ := hd.dictAt
  have l1 : kvs.length = vs.length := KV.length kv
  have l2 : kvs.length = ns.length := by have := congrArg List.length hk; simpa using this
  refine ⟨vs, ep, hs, hat, by omega, by omega, fun i v ⟨k, x, e, hv⟩ => ?_⟩
  have keys : vs.map (·.1) = ns.map Sum.inl := by rw [← KV.keys kv]; exact hk
  have e2 : (vs.map (·.1))[i]? = some k := by rw [List.getElem?_map, e]; rfl
  rw [keys, List.getElem?_map] at e2
  cases hn : ns[i]? with
  | none => rw [hn] at e2; simp at e2
  | some n =>
    rw [hn] at e2
    simp at e2
    subst e2
    rcases keyIs_shape (show keyIs (Sum.inl n) v = true from hv) with ⟨j, t, e3, rfl⟩ | ⟨y, t, e3, _⟩
    · cases e3; exact ⟨n, t, rfl, rfl⟩
    · cases e3
def rSortedD : List V → Hp → VK → Prop := fun vs H Q => ∃ (d : Addr) (ns : List Int), vs = [V.ref d] ∧ IntKeys H d ns ∧
  ∀ (ns' : List Int) (p : Addr), ns'.Perm ns → ns'.Pairwise (· ≤ ·) → H p = none → Q (.ref p) (upd H p (.lst (ns'.map V.int)))
theorem cr_sortedD (hc : X.calm = true) : CallR X (.builtin "sorted") rSortedD := by
  intro pins s σ H vs us Q I r h
  obtain ⟨d, ns, rfl, hk, q⟩ := h
  rw [Vals.ref1 r]
  obtain ⟨dvs, ep, hs, hat, hlen, hz, hint⟩ := dict_src I hk
  have K := PySem.W.kdl_dict (prog := X.prog) (w := X.w) (knd := mixKind X.prog X.w) (kvs := dvs) (ep := ep) hs
  refine Calls.call_function_entry PyProof.Rows.kind_sorted PyProof.Rows.plain_sorted PyProof.Rows.entry_sorted (PyProof.Rows.args_sorted1 _) ?_
  unfold Builtin.«sorted»
  refine wpAny_bind (m := checkCount "sorted" 1 1 _) (wpAny_pure ?_)
  have hh : X.A.in1.handled = none := I.ok.hd hc
  refine wpAny_bind (PySem.W.kdu_collect (A := X.A.in1) K hh hat (by omega) fun h' tk acc hkp hacc => ?_)
  have hl : acc.toList.length = ns.length := by rw [Array.length_toList]; exact hacc.1.trans hlen
  have hi : IntsAre acc.toList ns := ints_by _ _ hl fun j v e => hint j v (hacc.2 j v (by rw [← Array.getElem?_toList]; exact e))
  refine wpAny_bind (wpAny_newList ?_ (by rw [hl]; exact hz))
  have hoL : (h'.push { cls := .type "list", data := .seq acc.toList.toArray }).get? h'.objs.size = some (seqObj "list" acc.toList.toArray 0) := Heap.get?_push_size _ rfl
  refine wpAny_bind (wpAny_holding (wpAny_call_entry PyProof.Rows.slot_list_sort ⟨_, hoL, rfl⟩ PyProof.Rows.entry_list_sort (PyProof.Rows.list_sort_treeAny hoL hi (by rw [hl]; exact hz) fun out ns' a1 a2 a3 => ⟨_, rfl, ?_⟩) (PyProof.Rows.args_list_sort _)))
  obtain ⟨ep', he'⟩ := PyProof.Rows.sortedHeap_at (vs := acc.toList) (out := out) hoL
  have old : ∀ b u, s.heap.get? b = some u → b ≠ h'.objs.size := fun b u e => Nat.ne_of_lt (Heap.lt_size (hkp b u e))
  have keep : ∀ b u, s.heap.get? b = some u → (sortedHeap (h'.push { cls := .type "list", data := .seq acc.toList.toArray }) h'.objs.size acc.toList out).get? b = some u := fun b u e => by
    rw [PyProof.Rows.sortedHeap_old (old b u e) (by rw [size_push']; exact Nat.lt_succ_of_lt (Heap.lt_size (hkp b u e)))]
    exact Heap.get?_push_of_some _ (hkp b u e)
  have hn : H h'.objs.size = none := by
    cases e : H h'.objs.size with
    | none => rfl
    | some u =>
      obtain ⟨ob, hob⟩ := obj_of (I.hok _ _ e)
      exact absurd rfl (old _ _ hob)
  have hlen' : (ns'.map V.int).length ≤ sizeLine := by rw [List.length_map, a2.length_eq]; exact hz
  refine wpAny_pure ⟨_, rfl, .ref h'.objs.size, upd H h'.objs.size (.lst (ns'.map V.int)), ?_, rfl, q ns' _ a2 a3 hn⟩
  exact I.laid2 (t' := tk) keep old hn ⟨hlen', out.toList, ep', vals_of_ints a1, he'⟩
def rMinD : List V → Hp → VK → Prop := fun vs H Q => ∃ (d : Addr) (ns : List Int), vs = [V.ref d] ∧ IntKeys H d ns ∧ 0 < ns.length ∧ ∀ m, m ∈ ns → (∀ y, y ∈ ns → m ≤ y) → Q (.int m) H
theorem cr_minD (hc : X.calm = true) : CallR X (.builtin "min") rMinD := by
  intro pins s σ H vs us Q I r h
  obtain ⟨d, ns, rfl, hk, hne, q⟩ := h
  rw [Vals.ref1 r]
  obtain ⟨dvs, ep, hs, hat, hlen, hz, hint⟩ := dict_src I hk
  have K := PySem.W.kdl_dict (prog := X.prog) (w := X.w) (knd := mixKind X.prog X.w) (kvs := dvs) (ep := ep) hs
  have hh : X.A.in1.handled = none := I.ok.hd hc
  refine call_min_walkS ?_
  obtain ⟨oI, St, hit, W, st⟩ := K.iter X.A.in1 s hh hat
  have hval : ∀ (i : Nat) (v : Value), (∃ k x, dvs[i]? = some (k, x) ∧ (mixKind X.prog X.w).is k v = true) → ∃ t : Tok, v = Value.int (ns.getD i 0) t := fun i v z => by
    obtain ⟨n, t, e, rfl⟩ := hint i v z
    exact ⟨t, by rw [List.getD_eq_getElem?_getD, e]; rfl⟩
  refine hit _ _ ⟨s.heap.objs.size, _, _, _, dvs.length, _, _, _, rfl, W.toS, st, fun b hb => ?_, by omega, CmpOf.ints_lt (fun i => ns.getD i 0) hval, fun v s' hP hm => ?_⟩
  · show b < (s.heap.push oI).objs.size
    rw [size_push']
    rcases List.mem_cons.mp hb with e | hb
    · rw [e]; exact Nat.lt_succ_self _
    · rw [List.mem_singleton.mp hb]; exact Nat.lt_succ_of_lt (K.there _ hat).2
  · have hkp : ∀ b o, s.heap.get? b = some o → s'.heap.get? b = some o := fun b o e =>
      hm.heap b o (fun hI => absurd (Heap.lt_size e) (by rw [List.mem_singleton.mp hI]; exact Nat.lt_irrefl _)) (Heap.get?_push_of_some _ e)
    rw [Moved.eq_with hm]
    obtain ⟨h1, h2⟩ := argBest_lt (fun i => ns.getD i 0) (dvs.length - 1)
    obtain ⟨t, rfl⟩ := hval _ v hP
    refine ⟨.int _, H, I.kept (h' := s'.heap) (t' := s'.toks) hkp, ⟨t, rfl⟩, q _ ?_ fun y hy => ?_⟩
    · exact PySem.getD_mem (by omega)
    · obtain ⟨j, hj, rfl⟩ := mem_getD hy
      exact h2 j (by omega)
end
theorem for_keys {d : Addr} {ob : Obj} {kvs : List (Key × V)} {g : TG} {tb : TS} {D : Ends} {σ : St} {H : Hp} (Pv : Nat → St → Hp → Prop) (h0 : Pv 0 σ H) (hl : ∀ i σ H, i ≤ kvs.length → Pv i σ H → H d = some (.frz ob (.dK kvs)))
    (hs : ∀ i k v σ H, kvs[i]? = some (k, v) → Pv i σ H → g (kV k) σ H fun σ2 H2 => tb { D with nx := Pv (i + 1), ct := Pv (i + 1), bk := D.nx } σ2 H2) (hd : ∀ σ H, Pv kvs.length σ H → D.nx σ H) :
    ∃ W : Nat → Nat → St → Hp → Prop, (∃ m, W 0 m σ H) ∧ ∀ i m σ H, W i m σ H →
      ((Itk d ob kvs).stop i H ∧ D.nx σ H) ∨ ((Itk d ob kvs).go i H ∧ ∃ N : St → Hp → Prop, (∀ σ' H', N σ' H' → ∃ m', m' < m ∧ W (i + 1) m' σ' H') ∧ ∀ x H', (Itk d ob kvs).yld i H x H' → g x σ H' fun σ2 H2 => tb { D with nx := N, ct := N, bk := D.nx } σ2 H2) := by
  refine ⟨fun i m σ H => m = kvs.length - i ∧ i ≤ kvs.length ∧ Pv i σ H, ⟨kvs.length, by simp, Nat.zero_le _, h0⟩, ?_⟩
  rintro i m σ H ⟨rfl, hi, p⟩
  have q := hl i σ H hi p
  by_cases hlt : i < kvs.length
  · refine .inr ⟨⟨q, hlt⟩, Pv (i + 1), fun σ' H' p' => ⟨kvs.length - (i + 1), by omega, rfl, hlt, p'⟩, fun x H' y => ?_⟩
    obtain ⟨e, k, v, e2, e3⟩ := y
    subst e e3
    exact hs i k v σ _ e2 p
  · have e : i = kvs.length := by omega
    subst e
    exact .inl ⟨⟨q, Nat.le_refl _⟩, hd σ H p⟩
theorem for_enum {K : PySem.W.Frag} {a : Addr} {xs : List V} {g : TG} {tb : TS} {D : Ends} {σ : St} {H : Hp} (Pv : Nat → St → Hp → Prop) (h0 : Pv 0 σ H) (hl : ∀ i σ H, i ≤ xs.length → Pv i σ H → SqL K H a xs)
    (hs : ∀ i x σ H T, xs[i]? = some x → H T = none → Pv i σ H → g (.ref T) σ (upd H T (.tup [.int (i : Nat), x])) fun σ2 H2 => tb { D with nx := Pv (i + 1), ct := Pv (i + 1), bk := D.nx } σ2 H2) (hd : ∀ σ H, Pv xs.length σ H → D.nx σ H) :
    ∃ W : Nat → Nat → St → Hp → Prop, (∃ m, W 0 m σ H) ∧ ∀ i m σ H, W i m σ H →
      ((Ite K a).stop i H ∧ D.nx σ H) ∨ ((Ite K a).go i H ∧ ∃ N : St → Hp → Prop, (∀ σ' H', N σ' H' → ∃ m', m' < m ∧ W (i + 1) m' σ' H') ∧ ∀ x H', (Ite K a).yld i H x H' → g x σ H' fun σ2 H2 => tb { D with nx := N, ct := N, bk := D.nx } σ2 H2) := by
  refine ⟨fun i m σ H => m = xs.length - i ∧ i ≤ xs.length ∧ Pv i σ H, ⟨xs.length, by simp, Nat.zero_le _, h0⟩, ?_⟩
  rintro i m σ H ⟨rfl, hi, p⟩
  have q := hl i σ H hi p
  by_cases hlt : i < xs.length
  · refine .inr ⟨⟨xs, xs[i], q, by simp [hlt]⟩, Pv (i + 1), fun σ' H' p' => ⟨xs.length - (i + 1), by omega, rfl, hlt, p'⟩, fun v H' y => ?_⟩
    obtain ⟨T, x, e1, e2, e3, e4⟩ := y
    subst e1 e3
    exact hs i x σ H T (e4 xs q) e2 p
  · have e : i = xs.length := by omega
    subst e
    exact .inl ⟨⟨xs, q, Nat.le_refl _⟩, hd σ H p⟩
theorem lc_keys {d : Addr} {ob : Obj} {kvs : List (Key × V)} {g : TG} {tt : TT} {te : TE} {vs : List Nat} {σ : St} {H1 : Hp} {D : Addr} {Qd : Hp → Prop} (Pv : Nat → Hp → Prop) (h0 : Pv 0 (upd H1 D (.lst []))) (hl : ∀ i H, i ≤ kvs.length → Pv i H → H d = some (.frz ob (.dK kvs)))
    (hs : ∀ i k v H, kvs[i]? = some (k, v) → Pv i H → g (kV k) (wipe σ vs) H fun σ2 H2 => wipe σ2 vs = wipe σ vs ∧ tt σ2 H2 fun b H3 =>
      if b = true then te σ2 H3 fun y H4 => ∃ acc, H4 D = some (.lst acc) ∧ acc.length < sizeLine ∧ Pv (i + 1) (upd H4 D (.lst (acc ++ [y]))) else Pv (i + 1) H3) (hd : ∀ H, Pv kvs.length H → Qd H) :
    ∃ W : Nat → Nat → Hp → Prop, (∃ m, W 0 m (upd H1 D (.lst []))) ∧ ∀ i m H, W i m H →
      ((Itk d ob kvs).stop i H ∧ Qd H) ∨ ((Itk d ob kvs).go i H ∧ ∃ Nx : Hp → Prop, (∀ H', Nx H' → ∃ m', m' < m ∧ W (i + 1) m' H') ∧ ∀ x H', (Itk d ob kvs).yld i H x H' → g x (wipe σ vs) H' fun σ2 H2 => wipe σ2 vs = wipe σ vs ∧ tt σ2 H2 fun b H3 =>
        if b = true then te σ2 H3 fun y H4 => ∃ acc, H4 D = some (.lst acc) ∧ acc.length < sizeLine ∧ Nx (upd H4 D (.lst (acc ++ [y]))) else Nx H3) := by
  refine ⟨fun i m H => m = kvs.length - i ∧ i ≤ kvs.length ∧ Pv i H, ⟨kvs.length, by simp, Nat.zero_le _, h0⟩, ?_⟩
  rintro i m H ⟨rfl, hi, p⟩
  have q := hl i H hi p
  by_cases hlt : i < kvs.length
  · refine .inr ⟨⟨q, hlt⟩, Pv (i + 1), fun H' p' => ⟨kvs.length - (i + 1), by omega, rfl, hlt, p'⟩, fun x H' y => ?_⟩
    obtain ⟨e, k, v, e2, e3⟩ := y
    subst e e3
    exact hs i k v _ e2 p
  · have e : i = kvs.length := by omega
    subst e
    exact .inl ⟨⟨q, Nat.le_refl _⟩, hd H p⟩
theorem lc_enum {K : PySem.W.Frag} {a : Addr} {xs : List V} {g : TG} {tt : TT} {te : TE} {vs : List Nat} {σ : St} {H1 : Hp} {D : Addr} {Qd : Hp → Prop} (Pv : Nat → Hp → Prop) (h0 : Pv 0 (upd H1 D (.lst []))) (hl : ∀ i H, i ≤ xs.length → Pv i H → SqL K H a xs)
    (hs : ∀ i x H T, xs[i]? = some x → H T = none → Pv i H → g (.ref T) (wipe σ vs) (upd H T (.tup [.int (i : Nat), x])) fun σ2 H2 => wipe σ2 vs = wipe σ vs ∧ tt σ2 H2 fun b H3 =>
      if b = true then te σ2 H3 fun y H4 => ∃ acc, H4 D = some (.lst acc) ∧ acc.length < sizeLine ∧ Pv (i + 1) (upd H4 D (.lst (acc ++ [y]))) else Pv (i + 1) H3) (hd : ∀ H, Pv xs.length H → Qd H) :
    ∃ W : Nat → Nat → Hp → Prop, (∃ m, W 0 m (upd H1 D (.lst []))) ∧ ∀ i m H, W i m H →
      ((Ite K a).stop i H ∧ Qd H) ∨ ((Ite K a).go i H ∧ ∃ Nx : Hp → Prop, (∀ H', Nx H' → ∃ m', m' < m ∧ W (i + 1) m' H') ∧ ∀ x H', (Ite K a).yld i H x H' → g x (wipe σ vs) H' fun σ2 H2 => wipe σ2 vs = wipe σ vs ∧ tt σ2 H2 fun b H3 =>
        if b = true then te σ2 H3 fun y H4 => ∃ acc, H4 D = some (.lst acc) ∧ acc.length < sizeLine ∧ Nx (upd H4 D (.lst (acc ++ [y]))) else Nx H3) := by
  refine ⟨fun i m H => m = xs.length - i ∧ i ≤ xs.length ∧ Pv i H, ⟨xs.length, by simp, Nat.zero_le _, h0⟩, ?_⟩
  rintro i m H ⟨rfl, hi, p⟩
  have q := hl i H hi p
  by_cases hlt : i < xs.length
  · refine .inr ⟨⟨xs, xs[i], q, by simp [hlt]⟩, Pv (i + 1), fun H' p' => ⟨xs.length - (i + 1), by omega, rfl, hlt, p'⟩, fun v H' y => ?_⟩
    obtain ⟨T, x, e1, e2, e3, e4⟩ := y
    subst e1 e3
    exact hs i x H T (e4 xs q) e2 p
  · have e : i = xs.length := by omega
    subst e
    exact .inl ⟨⟨xs, q, Nat.le_refl _⟩, hd H p⟩
end L2
namespace L2
open PySem PySem.Spec PyProof.Rows
structure ArgL where
  a : Addr
  vs : List Value
  ns : List Int
def ArgL.obj (x : ArgL) : Obj := { cls := .type "list", data := .seq x.vs.toArray }
structure ArgL.At (x : ArgL) (h : Heap) : Prop where
  ob : h.get? x.a = some x.obj
  ia : IntsAre x.vs x.ns
  len : x.ns.length ≤ sizeLine
def IsAns (ms : List Int) : VK := fun v H => ∃ p, v = .ref p ∧ H p = some (.lst (ms.map V.int))
theorem reads_ints {R : PySem.W.WRecords} {cl : Str → Option Addr} {h : Heap} : ∀ {ms : List Int} {its : List Value}, Vals (ms.map V.int) its → PySem.W.ReadsAllW R cl h its (ms.map PySem.W.WData.int) []
  | [], _, r => by cases r; exact .nil
  | m :: ms, _, r => by
    cases r with
    | cons r1 r2 =>
      obtain ⟨t, rfl⟩ := r1
      exact .cons (as := []) (bs := []) (.int m t) (reads_ints r2)
theorem ans_reads {P : Program} {w : World} {R : PySem.W.WRecords} {cl : Str → Option Addr} {H : Hp} {h : Heap} {v : V} {u : Value} {ms : List Int} (ok : HOk P w H h) (r : RelV v u) (a : IsAns ms v H) :
    ∃ as, PySem.W.ReadsW R cl h u (.list (ms.map .int)) as := by
  obtain ⟨p, rfl, hp⟩ := a
  obtain rfl : u = Value.ref p := r
  obtain ⟨_, its, n, rv, e⟩ := ok p _ hp
  exact ⟨_, .list e rfl rfl (by simpa using reads_ints rv)⟩
theorem ints_of_wellAll' {P : Params} {h : Heap} : ∀ (ns : List Int) (vs : List Value), PySem.W.WellAll P h vs (ns.map PySem.W.WData.int) → IntsAre vs ns
  | [], vs, w => by
    rw [List.map_nil] at w
    cases w
    exact .nil
  | n :: ns, vs, w => by
    rw [List.map_cons] at w
    cases w with
    | cons a b =>
      cases a
      exact .cons _ _ (ints_of_wellAll' ns _ b)
end L2
namespace L2
open PySem PySem.Spec PyProof.Rows PySem.W
inductive ArgW where
  | i (n : Int)
  | l (ns : List Int)
def ArgW.data : ArgW → WData
  | .i n => .int n
  | .l ns => .list (ns.map .int)
def ArgW.len : ArgW → Nat
  | .i _ => 0
  | .l ns => ns.length
def ArgWV (K : PySem.W.Frag) (H : Hp) : ArgW → V → Prop
  | .i n, v => v = .int n
  | .l ns, v => ∃ a, v = .ref a ∧ SqL K H a (ns.map V.int)
theorem args_split {P : Params} {h : Heap} : ∀ (as : List ArgW) (us : List Value), PySem.W.WellAll P h us (as.map ArgW.data) → (∀ a ∈ as, a.len ≤ sizeLine) →
    ∃ (S : List ArgL) (vs : List V), us.length = as.length ∧ (∀ x ∈ S, x.At h) ∧ Vals vs us ∧ ∀ (K : PySem.W.Frag) (H : Hp), (∀ x ∈ S, SqL K H x.a (x.ns.map V.int)) → Paired (ArgWV K H) as vs
  | [], us, w, _ => by
    rw [List.map_nil] at w
    cases w
    exact ⟨[], [], rfl, by simp, .nil, fun _ _ _ => .nil⟩
  | .i n :: as, us, w, hl => by
    rw [List.map_cons] at w
    cases w with
    | cons a b =>
      obtain ⟨S, vs, h0, h1, h2, h3⟩ := args_split as _ b fun x hx => hl x (List.mem_cons_of_mem _ hx)
      cases a
      exact ⟨S, .int n :: vs, by simp [h0], h1, .cons ⟨_, rfl⟩ h2, fun K H hS => .cons rfl (h3 K H hS)⟩
  | .l ns :: as, us, w, hl => by
    rw [List.map_cons] at w
    cases w with
    | cons a b =>
      obtain ⟨S, vs, h0, h1, h2, h3⟩ := args_split as _ b fun x hx => hl x (List.mem_cons_of_mem _ hx)
      cases a with
      | @list ad xs _ hob hall =>
        have hints := ints_of_wellAll' ns xs hall
        refine ⟨⟨ad, xs, ns⟩ :: S, .ref ad :: vs, by simp [h0], fun x hx => ?_, .cons rfl h2, fun K H hS => .cons ⟨ad, rfl, hS ⟨ad, xs, ns⟩ (by simp)⟩ (h3 K H fun x hx => hS x (List.mem_cons_of_mem _ hx))⟩
        rcases List.mem_cons.mp hx with rfl | hx
        · exact ⟨hob, hints, hl (.l ns) (by simp)⟩
        · exact h1 x hx
end L2
namespace Rp
open Roof
theorem nodup_sub_len {α : Type} [DecidableEq α] : ∀ (l m : List α), l.Nodup → (∀ x ∈ l, x ∈ m) → l.length ≤ m.length
  | [], m, _, _ => Nat.zero_le _
  | a :: l, m, h, s => by
    have ha : a ∈ m := s a (by simp)
    have h2 := List.nodup_cons.mp h
    have := nodup_sub_len l (m.erase a) h2.2 (fun x hx => by
      have hne : x ≠ a := fun e => h2.1 (e ▸ hx)
      exact (List.mem_erase_of_ne hne).mpr (s x (List.mem_cons_of_mem _ hx)))
    have e := List.length_erase_of_mem ha
    have hp : 0 < m.length := List.length_pos_of_mem ha
    simp only [List.length_cons]
    omega
def isDig (c : UInt8) : Bool := decide (48 ≤ c.toNat) && decide (c.toNat ≤ 57)
theorem number_dig : ∀ a : Fin 65, (number a.val).all isDig = true := by decide +kernel
theorem number_ne : ∀ a : Fin 65, number a.val ≠ [] := by decide +kernel
theorem number_inj : ∀ a b : Fin 65, number a.val = number b.val → a = b := by decide +kernel
theorem number_one : ∀ d : Fin 10, number d.val = [UInt8.ofNat (48 + d.val)] := by decide +kernel
theorem number_snoc : ∀ (v : Fin 65) (d : Fin 10), v.val ≠ 0 → 10 * v.val + d.val ≤ 64 → number (10 * v.val + d.val) = number v.val ++ [UInt8.ofNat (48 + d.val)] := by decide +kernel
theorem split_dig : ∀ (a b : Bytes) (x y : UInt8) (r s : Bytes), a.all isDig = true → b.all isDig = true → isDig x = false → isDig y = false → a ++ x :: r = b ++ y :: s → a = b ∧ x = y ∧ r = s
  | [], [], x, y, r, s, _, _, _, _, h => by simp at h; exact ⟨rfl, h.1, h.2⟩
  | [], c :: b, x, y, r, s, _, hb, hx, _, h => by
    simp at h hb
    rw [h.1] at hx; rw [hb.1] at hx; cases hx
  | c :: a, [], x, y, r, s, ha, _, _, hy, h => by
    simp at h ha
    rw [← h.1] at hy; rw [ha.1] at hy; cases hy
  | c :: a, e :: b, x, y, r, s, ha, hb, hx, hy, h => by
    simp only [List.cons_append, List.cons.injEq] at h
    simp only [List.all_cons, Bool.and_eq_true] at ha hb
    obtain ⟨h1, h2, h3⟩ := split_dig a b x y r s ha.2 hb.2 hx hy h.2
    exact ⟨by rw [h.1, h1], h2, h3⟩
def PB (p : Point) : Prop := p.1 ≤ 64 ∧ p.2 ≤ 64
def WB (w : Walk) : Prop := ∀ p ∈ w, PB p
theorem corner_split {p q : Point} (hp : PB p) (hq : PB q) {x y : UInt8} {r s : Bytes} (hx : isDig x = false) (hy : isDig y = false)
    (h : cornerText p ++ x :: r = cornerText q ++ y :: s) : p = q ∧ x = y ∧ r = s := by
  unfold cornerText at h
  rw [List.append_assoc, List.append_assoc, List.cons_append, List.cons_append] at h
  have d : ∀ n, n ≤ 64 → (number n).all isDig = true := fun n hn => number_dig ⟨n, by omega⟩
  have inj : ∀ n m, n ≤ 64 → m ≤ 64 → number n = number m → n = m := fun n m hn hm e => by
    have := number_inj ⟨n, by omega⟩ ⟨m, by omega⟩ e
    exact congrArg Fin.val this
  obtain ⟨h1, _, h2⟩ := split_dig _ _ _ _ _ _ (d _ hp.1) (d _ hq.1) (by decide) (by decide) h
  obtain ⟨h3, h4, h5⟩ := split_dig _ _ _ _ _ _ (d _ hp.2) (d _ hq.2) hx hy h2
  refine ⟨Prod.ext (inj _ _ hp.1 hq.1 h1) (inj _ _ hp.2 hq.2 h3), h4, h5⟩
theorem corner_head {p : Point} (hp : PB p) : ∃ c r, cornerText p = c :: r ∧ isDig c = true := by
  have h1 := number_ne ⟨p.1, by have := hp.1; omega⟩
  have h2 := number_dig ⟨p.1, by have := hp.1; omega⟩
  unfold cornerText
  simp only at h1 h2
  cases e : number p.1 with
  | nil => exact absurd e h1
  | cons c r =>
    rw [e] at h2
    simp only [List.all_cons, Bool.and_eq_true] at h2
    exact ⟨c, _, rfl, h2.1⟩
theorem walk_split : ∀ (w u : Walk) (r s : Bytes), WB w → WB u → walkText w ++ r = walkText u ++ s → w = u ∧ r = s
  | [], [], r, s, _, _, h => by simp [walkText] at h; exact ⟨rfl, h⟩
  | [], q :: u, r, s, _, hu, h => by
    obtain ⟨c, t, e, d⟩ := corner_head (hu q (by simp))
    cases u with
    | nil => simp [walkText, e] at h; rw [← h.1] at d; exact absurd d (by decide)
    | cons q2 u => simp [walkText, e] at h; rw [← h.1] at d; exact absurd d (by decide)
  | p :: w, [], r, s, hw, _, h => by
    obtain ⟨c, t, e, d⟩ := corner_head (hw p (by simp))
    cases w with
    | nil => simp [walkText, e] at h; rw [h.1] at d; exact absurd d (by decide)
    | cons p2 w => simp [walkText, e] at h; rw [h.1] at d; exact absurd d (by decide)
  | [p], [q], r, s, hw, hu, h => by
    simp only [walkText, List.append_assoc, List.cons_append, List.nil_append] at h
    obtain ⟨h1, _, h2⟩ := corner_split (hw p (by simp)) (hu q (by simp)) (by decide) (by decide) h
    exact ⟨by rw [h1], h2⟩
  | [p], q :: q2 :: u, r, s, hw, hu, h => by
    simp only [walkText, List.append_assoc, List.cons_append, List.nil_append] at h
    obtain ⟨h1, h3, h2⟩ := corner_split (hw p (by simp)) (hu q (by simp)) (by decide) (by decide) h
    exact absurd h3 (by decide)
  | p :: p2 :: w, [q], r, s, hw, hu, h => by
    simp only [walkText, List.append_assoc, List.cons_append, List.nil_append] at h
    obtain ⟨h1, h3, h2⟩ := corner_split (hw p (by simp)) (hu q (by simp)) (by decide) (by decide) h
    exact absurd h3 (by decide)
  | p :: p2 :: w, q :: q2 :: u, r, s, hw, hu, h => by
    simp only [walkText, List.append_assoc, List.cons_append, List.nil_append] at h
    obtain ⟨h1, h3, h2⟩ := corner_split (hw p (by simp)) (hu q (by simp)) (by decide) (by decide) h
    obtain ⟨h4, h5⟩ := walk_split (p2 :: w) (q2 :: u) r s (fun x hx => hw x (List.mem_cons_of_mem _ hx)) (fun x hx => hu x (List.mem_cons_of_mem _ hx)) h2
    exact ⟨by rw [h1, h4], h5⟩
theorem walkText_ne (w : Walk) : walkText w ≠ [] := by
  match w with
  | [] => simp [walkText]
  | [p] => simp [walkText]
  | p :: q :: r => simp [walkText]
theorem walks_inj : ∀ (a b : List Walk), (∀ w ∈ a, WB w) → (∀ w ∈ b, WB w) → walksText a = walksText b → a = b
  | [], [], _, _, _ => rfl
  | [], u :: b, _, _, h => by
    simp only [walksText, List.flatMap_nil, List.flatMap_cons] at h
    exact absurd (List.append_eq_nil_iff.mp h.symm).1 (walkText_ne u)
  | w :: a, [], _, _, h => by
    simp only [walksText, List.flatMap_nil, List.flatMap_cons] at h
    exact absurd (List.append_eq_nil_iff.mp h).1 (walkText_ne w)
  | w :: a, u :: b, ha, hb, h => by
    simp only [walksText, List.flatMap_cons] at h
    obtain ⟨h1, h2⟩ := walk_split w u _ _ (ha w (by simp)) (hb u (by simp)) h
    have := walks_inj a b (fun x hx => ha x (List.mem_cons_of_mem _ hx)) (fun x hx => hb x (List.mem_cons_of_mem _ hx)) h2
    rw [h1, this]
def nowText (w : Walk) : Bytes := w.flatMap fun p => cornerText p ++ [32]
theorem walkText_snoc (p : Point) : ∀ w : Walk, walkText (w ++ [p]) = nowText w ++ (cornerText p ++ [10])
  | [] => rfl
  | [q] => by simp [walkText, nowText]
  | q :: q2 :: w => by
    have := walkText_snoc p (q2 :: w)
    simp only [List.cons_append] at this ⊢
    simp only [walkText, this]
    simp [nowText, List.append_assoc]
def partText (r : Reading) : Bytes := if r.part = 0 then [] else if r.part = 1 then number r.val else if r.part = 2 then number r.east ++ [44] else number r.east ++ 44 :: number r.val
def preText (r : Reading) : Bytes := walksText r.done.reverse ++ (nowText r.now.reverse ++ partText r)
structure ROk (r : Reading) : Prop where
  part : r.part ≤ 3
  val : r.part = 1 ∨ r.part = 3 → r.val ≤ 64
  east : r.part = 2 ∨ r.part = 3 → r.east ≤ 64
  now : WB r.now
  done : ∀ w ∈ r.done, WB w ∧ 4 ≤ w.length
theorem digit_some {c : UInt8} {d : Nat} (h : digit c = some d) : d < 10 ∧ c = UInt8.ofNat (48 + d) ∧ c.toNat = 48 + d := by
  unfold digit at h
  split at h
  · rename_i hc
    simp only [Option.some.injEq] at h
    subst h
    refine ⟨by omega, ?_, by omega⟩
    have : 48 + (c.toNat - 48) = c.toNat := by omega
    rw [this, UInt8.ofNat_toNat]
  · cases h
theorem more_ok {r s : Reading} {c : UInt8} (ok : ROk r) (h : r.more c = some s) : ROk s ∧ preText s = preText r ++ [c] := by
  obtain ⟨done, now, part, val, east⟩ := r
  obtain ⟨o1, o2, o3, o4, o5⟩ := ok
  simp only at o1 o2 o3 o4 o5
  unfold Reading.more at h
  cases hd : digit c with
  | some d =>
    obtain ⟨d10, hc, _⟩ := digit_some hd
    simp only [hd] at h
    by_cases h0 : part = 0 ∨ part = 2
    · rw [if_pos h0] at h
      cases h
      have e1 := number_one ⟨d, d10⟩
      simp only at e1
      rcases h0 with h0 | h0
      · subst h0
        refine ⟨⟨by simp, fun _ => by simp; omega, by simp, o4, o5⟩, ?_⟩
        simp [preText, partText, e1, hc]
      · subst h0
        refine ⟨⟨by simp, fun _ => by simp; omega, fun _ => o3 (.inl rfl), o4, o5⟩, ?_⟩
        simp [preText, partText, e1, hc]
    · rw [if_neg h0] at h
      by_cases h1 : val = 0 ∨ SIDE < 10 * val + d
      · rw [if_pos h1] at h; cases h
      · rw [if_neg h1] at h
        cases h
        have hS : SIDE = 64 := rfl
        rw [hS] at h1
        have e1 := number_snoc ⟨val, by omega⟩ ⟨d, d10⟩ (by simp; omega) (by simp; omega)
        simp only at e1
        refine ⟨⟨o1, fun _ => by simp; omega, o3, o4, o5⟩, ?_⟩
        have h3 : part = 1 ∨ part = 3 := by omega
        rcases h3 with h3 | h3
        · subst h3; simp [preText, partText, e1, hc]
        · subst h3; simp [preText, partText, e1, hc]
  | none =>
    simp only [hd] at h
    by_cases h1 : part = 1 ∧ c = 44
    · rw [if_pos h1] at h
      cases h
      obtain ⟨rfl, rfl⟩ := h1
      refine ⟨⟨by simp, by simp, fun _ => o2 (.inl rfl), o4, o5⟩, ?_⟩
      simp [preText, partText]
    · rw [if_neg h1] at h
      by_cases h2 : part = 3 ∧ c = 32
      · rw [if_pos h2] at h
        cases h
        obtain ⟨rfl, rfl⟩ := h2
        refine ⟨⟨by simp, by simp, by simp, ?_, o5⟩, ?_⟩
        · intro p hp
          rcases List.mem_cons.mp hp with rfl | hp
          · exact ⟨o3 (.inr rfl), o2 (.inr rfl)⟩
          · exact o4 p hp
        · simp [preText, partText, nowText, cornerText]
      · rw [if_neg h2] at h
        by_cases h3 : part = 3 ∧ c = 10 ∧ 3 ≤ now.length
        · rw [if_pos h3] at h
          cases h
          obtain ⟨rfl, rfl, h4⟩ := h3
          refine ⟨⟨by simp, by simp, by simp, (by intro p hp; cases hp), ?_⟩, ?_⟩
          · intro w hw
            rcases List.mem_cons.mp hw with rfl | hw
            · refine ⟨fun p hp => ?_, by simp; omega⟩
              rcases List.mem_cons.mp (List.mem_reverse.mp hp) with rfl | hp
              · exact ⟨o3 (.inr rfl), o2 (.inr rfl)⟩
              · exact o4 p hp
            · exact o5 w hw
          · simp only [preText, partText, walksText, List.reverse_cons, List.flatMap_append, List.flatMap_cons, List.flatMap_nil, List.append_nil]
            rw [walkText_snoc]
            simp [nowText, cornerText]
        · rw [if_neg h3] at h; cases h
theorem readFrom_ok : ∀ (t : Bytes) (p : Nat) (r : Reading) (ws : List Walk), ROk r → readFrom p r t = .ok ws → walksText ws = preText r ++ t ∧ (∀ w ∈ ws, WB w ∧ 4 ≤ w.length) ∧ ws ≠ []
  | [], p, r, ws, ok, h => by
    unfold readFrom at h
    split at h
    · rename_i hc
      cases h
      refine ⟨?_, fun w hw => ok.done w (List.mem_reverse.mp hw), by simp [hc.2.2]⟩
      simp [preText, partText, hc.1, hc.2.1, nowText]
    · cases h
  | c :: t, p, r, ws, ok, h => by
    unfold readFrom at h
    split at h
    · rename_i s hs
      obtain ⟨ok', e⟩ := more_ok ok hs
      obtain ⟨h1, h2⟩ := readFrom_ok t (p + 1) s ws ok' h
      refine ⟨?_, h2⟩
      rw [h1, e]
      simp
    · cases h
theorem r0_ok : ROk ⟨[], [], 0, 0, 0⟩ := ⟨by simp, by simp, by simp, (by intro p hp; cases hp), (by intro p hp; cases hp)⟩
theorem readWalks_ok {t : Bytes} {ws : List Walk} (h : readWalks t = .ok ws) : walksText ws = t ∧ (∀ w ∈ ws, WB w ∧ 4 ≤ w.length) ∧ ws ≠ [] := by
  obtain ⟨h1, h2⟩ := readFrom_ok t 0 _ ws r0_ok h
  refine ⟨?_, h2⟩
  rw [h1]
  simp [preText, partText, walksText, nowText]
end Rp
namespace Rp
open Roof
def cNE (l : Cells) (q : Point) : Bool := l.contains q
def cNW (l : Cells) (q : Point) : Bool := decide (0 < q.1) && l.contains (q.1 - 1, q.2)
def cSW (l : Cells) (q : Point) : Bool := decide (0 < q.1 ∧ 0 < q.2) && l.contains (q.1 - 1, q.2 - 1)
def cSE (l : Cells) (q : Point) : Bool := decide (0 < q.2) && l.contains (q.1, q.2 - 1)
theorem foot0 (l : Cells) (p : Point) : wallFoot l p 0 = (cNE l p && !cSE l p) := by
  unfold wallFoot leftOf rightOf cNE cSE isIn
  by_cases h : 0 < p.2 <;> simp [h]
theorem foot1 (l : Cells) (p : Point) : wallFoot l p 1 = (cNW l p && !cNE l p) := by
  unfold wallFoot leftOf rightOf cNE cNW isIn
  by_cases h : 0 < p.1 <;> simp [h]
theorem foot2 (l : Cells) (p : Point) : wallFoot l p 2 = (cSW l p && !cNW l p) := by
  unfold wallFoot leftOf rightOf cSW cNW isIn
  by_cases h : 0 < p.1 <;> by_cases h2 : 0 < p.2 <;> simp [h, h2]
theorem foot3 (l : Cells) (p : Point) : wallFoot l p 3 = (cSE l p && !cSW l p) := by
  unfold wallFoot leftOf rightOf cSW cSE isIn
  by_cases h : 0 < p.1 <;> by_cases h2 : 0 < p.2 <;> simp [h, h2]
def NoPinch (l : Cells) : Prop := ∀ q, ¬ (cSW l q = true ∧ cNE l q = true ∧ cSE l q = false ∧ cNW l q = false) ∧ ¬ (cSE l q = true ∧ cNW l q = true ∧ cSW l q = false ∧ cNE l q = false)
theorem noPinch_of {l : Cells} (h : pinched l = false) : NoPinch l := by
  unfold pinched at h
  rw [List.any_eq_false] at h
  intro q
  constructor
  · rintro ⟨h1, h2, h3, h4⟩
    simp only [cSW, cNE, cSE, cNW, Bool.and_eq_true, decide_eq_true_eq, Bool.and_eq_false_iff, decide_eq_false_iff_not, List.contains_iff_mem] at h1 h2 h3 h4
    obtain ⟨⟨a, b⟩, c⟩ := h1
    have := h (q.1 - 1, q.2 - 1) c
    have e1 : q.1 - 1 + 1 = q.1 := by omega
    have e2 : q.2 - 1 + 1 = q.2 := by omega
    simp only [e1, e2] at this
    have h3' : l.contains (q.1, q.2 - 1) = false := h3.resolve_left (by omega)
    have h4' : l.contains (q.1 - 1, q.2) = false := h4.resolve_left (by omega)
    have h2' : l.contains (q.1, q.2) = true := by rw [List.contains_iff_mem]; exact h2
    rw [h3', h4', h2'] at this
    simp at this
  · rintro ⟨h1, h2, h3, h4⟩
    simp only [cSW, cNE, cSE, cNW, Bool.and_eq_true, decide_eq_true_eq, Bool.and_eq_false_iff, decide_eq_false_iff_not, List.contains_iff_mem] at h1 h2 h3 h4
    have := h (q.1, q.2 - 1) h1.2
    have e2 : q.2 - 1 + 1 = q.2 := by omega
    simp only [e2] at this
    have h3' : l.contains (q.1 - 1, q.2 - 1) = false := h3.resolve_left (fun z => z ⟨h2.1, h1.1⟩)
    have h2' : l.contains (q.1 - 1, q.2) = true := by rw [List.contains_iff_mem]; exact h2.2
    rw [h3', h2', show l.contains (q.1, q.2) = false from h4] at this
    simp [h2.1] at this
theorem d_cases {d : Nat} (h : d < 4) : d = 0 ∨ d = 1 ∨ d = 2 ∨ d = 3 := by omega
theorem outOf_some {l : Cells} {p : Point} {d : Nat} (h : outOf l p = some d) : d < 4 ∧ wallFoot l p d = true := by
  unfold outOf at h
  have h1 := List.find?_some h
  have h2 := List.mem_of_find?_eq_some h
  refine ⟨?_, h1⟩
  simp at h2
  omega
theorem out_unique {l : Cells} (np : NoPinch l) {p : Point} {d e : Nat} (hd : d < 4) (he : e < 4) (h1 : wallFoot l p d = true) (h2 : wallFoot l p e = true) : d = e := by
  have n := np p
  rcases d_cases hd with rfl | rfl | rfl | rfl <;> rcases d_cases he with rfl | rfl | rfl | rfl <;> first | rfl | (
    simp only [foot0, foot1, foot2, foot3] at h1 h2
    revert n h1 h2
    cases cNE l p <;> cases cNW l p <;> cases cSW l p <;> cases cSE l p <;> simp)
theorem outOf_of {l : Cells} (np : NoPinch l) {p : Point} {d : Nat} (hd : d < 4) (h : wallFoot l p d = true) : outOf l p = some d := by
  cases e : outOf l p with
  | none =>
    unfold outOf at e
    rw [List.find?_eq_none] at e
    exact absurd h (e d (by simp; omega))
  | some e' =>
    obtain ⟨h1, h2⟩ := outOf_some e
    rw [out_unique np hd h1 h h2]
def inFoot (l : Cells) (q : Point) (d : Nat) : Bool := if d = 0 then cNW l q && !cSW l q else if d = 1 then cSW l q && !cSE l q else if d = 2 then cSE l q && !cNE l q else cNE l q && !cNW l q
theorem inFoot_of {l : Cells} {p : Point} {d : Nat} (hd : d < 4) (h : wallFoot l p d = true) : inFoot l (stepped p d) d = true := by
  rcases d_cases hd with rfl | rfl | rfl | rfl
  · rw [foot0] at h
    simp only [inFoot, stepped, if_true, cNW, cSW, Nat.add_sub_cancel]
    simpa [cNE, cSE] using h
  · rw [foot1] at h
    simp only [inFoot, stepped, cSE, cSW, Nat.add_sub_cancel]
    simpa [cNE, cNW] using h
  · rw [foot2] at h
    have hp : 0 < p.1 := by
      simp [cSW] at h; omega
    have e : p.1 - 1 + 1 = p.1 := by omega
    simp only [inFoot, stepped, cSE, cNE]
    simpa [cSW, cNW, hp] using h
  · rw [foot3] at h
    have hp : 0 < p.2 := by
      simp [cSE] at h; omega
    simp only [inFoot, stepped, cNE, cNW]
    simpa [cSW, cSE, hp] using h
theorem next_out {l : Cells} {q : Point} {d : Nat} (hd : d < 4) (h : inFoot l q d = true) : ∃ e, e < 4 ∧ wallFoot l q e = true := by
  have : wallFoot l q 0 = true ∨ wallFoot l q 1 = true ∨ wallFoot l q 2 = true ∨ wallFoot l q 3 = true := by
    rw [foot0, foot1, foot2, foot3]
    revert h
    rcases d_cases hd with rfl | rfl | rfl | rfl <;> simp only [inFoot] <;> cases cNE l q <;> cases cNW l q <;> cases cSW l q <;> cases cSE l q <;> simp
  rcases this with h | h | h | h
  · exact ⟨0, by omega, h⟩
  · exact ⟨1, by omega, h⟩
  · exact ⟨2, by omega, h⟩
  · exact ⟨3, by omega, h⟩
theorem in_unique {l : Cells} (np : NoPinch l) {q : Point} {d e : Nat} (hd : d < 4) (he : e < 4) (h1 : inFoot l q d = true) (h2 : inFoot l q e = true) : d = e := by
  have n := np q
  rcases d_cases hd with rfl | rfl | rfl | rfl <;> rcases d_cases he with rfl | rfl | rfl | rfl <;> first | rfl | (
    simp only [inFoot] at h1 h2
    revert n h1 h2
    cases cNE l q <;> cases cNW l q <;> cases cSW l q <;> cases cSE l q <;> simp)
theorem stepped_inj {l : Cells} {p p' : Point} {d : Nat} (hd : d < 4) (h : wallFoot l p d = true) (h' : wallFoot l p' d = true) (e : stepped p d = stepped p' d) : p = p' := by
  rcases d_cases hd with rfl | rfl | rfl | rfl
  · simp [stepped] at e; exact Prod.ext e.1 e.2
  · simp [stepped] at e; exact Prod.ext e.1 e.2
  · simp [foot2, cSW] at h h'
    simp [stepped] at e
    exact Prod.ext (by omega) e.2
  · simp [foot3, cSE] at h h'
    simp [stepped] at e
    exact Prod.ext e.1 (by omega)
def isW (l : Cells) (p : Point) : Prop := ∃ d, outOf l p = some d
def dirAt (l : Cells) (p : Point) : Nat := (outOf l p).getD 0
def nxt (l : Cells) (p : Point) : Point := stepped p (dirAt l p)
theorem isW.out {l : Cells} {p : Point} (h : isW l p) : outOf l p = some (dirAt l p) := by
  obtain ⟨d, e⟩ := h
  unfold dirAt
  rw [e]; rfl
theorem isW.lt {l : Cells} {p : Point} (h : isW l p) : dirAt l p < 4 := (outOf_some h.out).1
theorem isW.foot {l : Cells} {p : Point} (h : isW l p) : wallFoot l p (dirAt l p) = true := (outOf_some h.out).2
theorem isW.next {l : Cells} (np : NoPinch l) {p : Point} (h : isW l p) : isW l (nxt l p) := by
  obtain ⟨e, h1, h2⟩ := next_out h.lt (inFoot_of h.lt h.foot)
  exact ⟨e, outOf_of np h1 h2⟩
theorem nxt_inj {l : Cells} (np : NoPinch l) {p q : Point} (hp : isW l p) (hq : isW l q) (e : nxt l p = nxt l q) : p = q := by
  have h1 := inFoot_of hp.lt hp.foot
  have h2 := inFoot_of hq.lt hq.foot
  unfold nxt at e
  rw [e] at h1
  have ed := in_unique np hp.lt hq.lt h1 h2
  have hf := hp.foot
  rw [ed] at e hf
  exact stepped_inj hq.lt hf hq.foot e
def it (l : Cells) : Nat → Point → Point
  | 0, p => p
  | n + 1, p => nxt l (it l n p)
theorem it_W {l : Cells} (np : NoPinch l) {p : Point} (h : isW l p) : ∀ n, isW l (it l n p)
  | 0 => h
  | n + 1 => (it_W np h n).next np
theorem it_add (l : Cells) (p : Point) (n : Nat) : ∀ m, it l (n + m) p = it l m (it l n p)
  | 0 => rfl
  | m + 1 => by show nxt l (it l (n + m) p) = nxt l (it l m (it l n p)); rw [it_add l p n m]
theorem it_succ (l : Cells) (p : Point) (n : Nat) : it l (n + 1) p = it l n (nxt l p) := by
  rw [Nat.add_comm, it_add]; rfl
theorem it_inj {l : Cells} (np : NoPinch l) {p q : Point} (hp : isW l p) (hq : isW l q) : ∀ n, it l n p = it l n q → p = q
  | 0, e => e
  | n + 1, e => it_inj np hp hq n (nxt_inj np (it_W np hp n) (it_W np hq n) e)
def corner4 (c : Cell) : List Point := [c, (c.1 + 1, c.2), (c.1, c.2 + 1), (c.1 + 1, c.2 + 1)]
theorem isW_mem {l : Cells} {p : Point} (h : isW l p) : ∃ c ∈ l, p ∈ corner4 c := by
  have hf := h.foot
  rcases d_cases h.lt with e | e | e | e
  · rw [e, foot0] at hf
    simp [cNE] at hf
    exact ⟨p, hf.1, by simp [corner4]⟩
  · rw [e, foot1] at hf
    simp [cNW] at hf
    refine ⟨_, hf.1.2, ?_⟩
    have := hf.1.1
    have : p = (p.1 - 1 + 1, p.2) := Prod.ext (by simp; omega) rfl
    simp only [corner4, List.mem_cons]
    exact .inr (.inl this)
  · rw [e, foot2] at hf
    simp [cSW] at hf
    refine ⟨_, hf.1.2, ?_⟩
    have := hf.1.1
    have : p = (p.1 - 1 + 1, p.2 - 1 + 1) := Prod.ext (by simp; omega) (by simp; omega)
    simp only [corner4, List.mem_cons]
    exact .inr (.inr (.inr (.inl this)))
  · rw [e, foot3] at hf
    simp [cSE] at hf
    refine ⟨_, hf.1.2, ?_⟩
    have := hf.1.1
    have : p = (p.1, p.2 - 1 + 1) := Prod.ext rfl (by simp; omega)
    simp only [corner4, List.mem_cons]
    exact .inr (.inr (.inl this))
theorem flat4_len (l : Cells) : (l.flatMap corner4).length = 4 * l.length := by
  induction l with
  | nil => rfl
  | cons a l ih => simp [List.flatMap_cons, corner4, ih]; omega
theorem hole {α : Type} [DecidableEq α] (f : Nat → α) (m : List α) (hm : ∀ i, f i ∈ m) : ∃ i j, i < j ∧ j ≤ m.length ∧ f i = f j := by
  by_cases h : ∃ i j, i < j ∧ j ≤ m.length ∧ f i = f j
  · exact h
  · exfalso
    have nd : ((List.range (m.length + 1)).map f).Nodup := by
      unfold List.Nodup
      rw [List.pairwise_map]
      refine List.Pairwise.imp_of_mem ?_ List.pairwise_lt_range
      intro a b ha hb hab e
      have := List.mem_range.mp hb
      exact h ⟨a, b, hab, by omega, e⟩
    have := nodup_sub_len _ m nd (fun x hx => by
      obtain ⟨i, _, rfl⟩ := List.mem_map.mp hx
      exact hm i)
    simp at this
    omega
theorem least_one {P : Nat → Prop} : ∀ n, P n → ∃ m, m ≤ n ∧ P m ∧ ∀ k, k < m → ¬ P k := by
  intro n
  induction n using Nat.strongRecOn with
  | ind n ih =>
    intro h
    by_cases hk : ∃ k, k < n ∧ P k
    · obtain ⟨k, hk, hp⟩ := hk
      obtain ⟨m, h1, h2⟩ := ih k hk hp
      exact ⟨m, by omega, h2⟩
    · exact ⟨n, Nat.le_refl _, h, fun k hk' hp => hk ⟨k, hk', hp⟩⟩
theorem comes_back {l : Cells} (np : NoPinch l) {p : Point} (h : isW l p) : ∃ n, 0 < n ∧ n ≤ 4 * l.length ∧ it l n p = p ∧ ∀ k, 0 < k → k < n → it l k p ≠ p := by
  obtain ⟨i, j, hij, hj, e⟩ := hole (fun n => it l n p) (l.flatMap corner4) (fun n => by
    obtain ⟨c, hc, hp⟩ := isW_mem (it_W np h n)
    exact List.mem_flatMap.mpr ⟨c, hc, hp⟩)
  rw [flat4_len] at hj
  have e2 : it l (j - i) p = p := by
    have e3 : j = (j - i) + i := by omega
    have : it l i p = it l i (it l (j - i) p) := by
      rw [← it_add, ← e3]; exact e
    exact (it_inj np h (it_W np h _) i this).symm
  obtain ⟨m, h1, ⟨h2, h3⟩, h4⟩ := least_one (P := fun n => 0 < n ∧ it l n p = p) (j - i) ⟨by omega, e2⟩
  exact ⟨m, h2, by omega, h3, fun k hk hkm he => h4 k hkm ⟨hk, he⟩⟩
theorem follow_eq {l : Cells} (np : NoPinch l) {first : Point} : ∀ (fuel n : Nat) (p : Point) (d : Nat), outOf l p = some d → 0 < n → n ≤ fuel → it l n p = first → (∀ k, 0 < k → k < n → it l k p ≠ first) →
    follow l first fuel p d = (List.range n).map fun i => (it l i p, dirAt l (it l i p))
  | 0, n, p, d, _, h1, h2, _, _ => by omega
  | fuel + 1, 0, p, d, _, h1, _, _, _ => by omega
  | fuel + 1, n + 1, p, d, ho, _, h2, h3, h4 => by
    have hw : isW l p := ⟨d, ho⟩
    have ed : dirAt l p = d := by unfold dirAt; rw [ho]; rfl
    have en : stepped p d = nxt l p := by unfold nxt; rw [ed]
    rw [List.range_succ_eq_map, List.map_cons]
    unfold follow
    simp only [en]
    have e0 : (it l 0 p, dirAt l (it l 0 p)) = (p, d) := by show (p, dirAt l p) = (p, d); rw [ed]
    rw [e0]
    congr 1
    cases n with
    | zero =>
      have : nxt l p = first := h3
      rw [if_pos this]
      rfl
    | succ n =>
      have : nxt l p ≠ first := h4 1 (by omega) (by omega)
      rw [if_neg this]
      have hn := (hw.next np).out
      rw [hn]
      simp only
      rw [follow_eq np fuel (n + 1) (nxt l p) _ hn (by omega) (by omega) (by rw [← it_succ]; exact h3) (fun k hk hkn => by rw [← it_succ]; exact h4 (k + 1) (by omega) (by omega))]
      rw [List.map_map]
      apply List.map_congr_left
      intro i _
      simp only [Function.comp, Nat.succ_eq_add_one, it_succ]
end Rp
namespace Rp
open Roof
def ax (d : Nat) (q p : Point) : Prop := if d % 2 = 0 then q.2 = p.2 else q.1 = p.1
def Ali (q p : Point) : Prop := q.1 = p.1 ∨ q.2 = p.2
theorem ax_refl (d : Nat) (p : Point) : ax d p p := by unfold ax; split <;> rfl
theorem ax_trans {d : Nat} {p q r : Point} (h1 : ax d p q) (h2 : ax d q r) : ax d p r := by
  unfold ax at *; split <;> simp_all
theorem ax_ali {d : Nat} {p q : Point} (h : ax d p q) : Ali p q := by
  unfold ax at h; unfold Ali; split at h
  · exact .inr h
  · exact .inl h
theorem ax_step {d : Nat} (hd : d < 4) (p : Point) : ax d p (stepped p d) := by
  rcases d_cases hd with rfl | rfl | rfl | rfl <;> simp [ax, stepped]
def ChainF : Point → List Foot → Point → Prop
  | p, [], e => p = e
  | p, x :: r, e => x.1 = p ∧ x.2 < 4 ∧ ChainF (stepped p x.2) r e
def lastDir : Nat → List Foot → Nat
  | d, [] => d
  | _, x :: r => lastDir x.2 r
def AL : Point → List Point → Prop
  | _, [] => True
  | q, c :: r => Ali q c ∧ AL c r
theorem turns_al : ∀ (f : List Foot) (p : Point) (d : Nat) (q e : Point), ChainF p f e → ax d q p →
    AL q (turns d f) ∧ (∀ c, (turns d f).head? = some c → ax d q c) ∧ ax (lastDir d f) ((turns d f).getLastD q) e
  | [], p, d, q, e, hc, ha => by
    have : p = e := hc
    subst this
    exact ⟨trivial, by simp [turns], ha⟩
  | x :: r, p, d, q, e, hc, ha => by
    obtain ⟨h1, h2, h3⟩ := hc
    by_cases hx : x.2 = d
    · have ih := turns_al r (stepped p x.2) d q e h3 (ax_trans ha (by rw [← hx]; exact ax_step h2 p))
      have et : turns d (x :: r) = turns d r := by
        rw [turns, if_pos hx, hx]
      have el : lastDir d (x :: r) = lastDir d r := by rw [lastDir, hx]
      rw [et, el]
      exact ih
    · have ih := turns_al r (stepped p x.2) x.2 p e h3 (ax_step h2 p)
      have et : turns d (x :: r) = p :: turns x.2 r := by
        rw [turns, if_neg hx, h1]
      have el : lastDir d (x :: r) = lastDir x.2 r := rfl
      rw [et, el]
      refine ⟨⟨ax_ali ha, ih.1⟩, fun c hc => ?_, ?_⟩
      · simp at hc; subst hc; exact ha
      · have := ih.2.2
        rw [List.getLastD_cons]; exact this
theorem lastDir_last : ∀ (f : List Foot) (d : Nat) (x : Foot), f.getLast? = some x → lastDir d f = x.2
  | [], d, x, h => by simp at h
  | [y], d, x, h => by simp at h; subst h; rfl
  | y :: z :: r, d, x, h => by
    rw [List.getLast?_cons_cons] at h
    exact lastDir_last (z :: r) y.2 x h
def rightW (w : Walk) : Prop := ∀ z, w.getLast? = some z → AL z w
theorem corners_right {f : List Foot} {p : Point} (hc : ChainF p f p) : rightW (cornersOf f) := by
  intro z hz
  unfold cornersOf at hz ⊢
  cases hl : f.getLast? with
  | none => rw [hl] at hz; simp at hz
  | some x =>
    rw [hl] at hz
    simp only at hz ⊢
    have h := turns_al f p x.2 p p hc (ax_refl _ _)
    rw [lastDir_last f x.2 x hl] at h
    obtain ⟨h1, h2, h3⟩ := h
    cases ht : turns x.2 f with
    | nil => trivial
    | cons c r =>
      rw [ht] at h1 h2 h3 hz
      have e : (c :: r).getLastD p = z := by
        rw [List.getLastD_eq_getLast?, hz]; rfl
      rw [e] at h3
      exact ⟨ax_ali (ax_trans h3 (h2 c rfl)), h1.2⟩
theorem chain_it {l : Cells} (np : NoPinch l) : ∀ (n : Nat) (p : Point), isW l p → ChainF p ((List.range n).map fun i => (it l i p, dirAt l (it l i p))) (it l n p)
  | 0, p, _ => rfl
  | n + 1, p, h => by
    rw [List.range_succ_eq_map, List.map_cons]
    refine ⟨rfl, h.lt, ?_⟩
    show ChainF (nxt l p) _ _
    have := chain_it np n (nxt l p) (h.next np)
    rw [← it_succ] at this
    rw [List.map_map]
    have e : ((fun i => (it l i p, dirAt l (it l i p))) ∘ Nat.succ) = fun i => (it l i (nxt l p), dirAt l (it l i (nxt l p))) := by
      funext i
      simp only [Function.comp, Nat.succ_eq_add_one, it_succ]
    rw [e]
    exact this
def feetFrom (l : Cells) (p : Point) : List Foot := follow l p (4 * l.length + 4) p (dirAt l p)
theorem feetFrom_eq {l : Cells} (np : NoPinch l) {p : Point} (h : isW l p) : ∃ n, 0 < n ∧ it l n p = p ∧ (∀ k, 0 < k → k < n → it l k p ≠ p) ∧ n ≤ 4 * l.length ∧
    feetFrom l p = (List.range n).map fun i => (it l i p, dirAt l (it l i p)) := by
  obtain ⟨n, h1, h2, h3, h4⟩ := comes_back np h
  exact ⟨n, h1, h3, h4, h2, follow_eq np _ n p _ h.out h1 (by omega) h3 h4⟩
theorem walksFrom_mem {l : Cells} {w : Walk} : ∀ (ps seen : List Point), w ∈ walksFrom l seen ps → ∃ p ∈ ps, isW l p ∧ w = cornersOf (feetFrom l p)
  | [], seen, h => by simp [walksFrom] at h
  | p :: r, seen, h => by
    have lift : (∃ q ∈ r, isW l q ∧ w = cornersOf (feetFrom l q)) → ∃ q ∈ p :: r, isW l q ∧ w = cornersOf (feetFrom l q) := fun ⟨q, h1, h2⟩ => ⟨q, List.mem_cons_of_mem _ h1, h2⟩
    unfold walksFrom at h
    split at h
    · exact lift (walksFrom_mem r seen h)
    · split at h
      · exact lift (walksFrom_mem r seen h)
      · rename_i d hd
        rcases List.mem_cons.mp h with rfl | h
        · have e : dirAt l p = d := by unfold dirAt; rw [hd]; rfl
          refine ⟨p, by simp, ⟨d, hd⟩, ?_⟩
          unfold feetFrom; rw [e]
        · exact lift (walksFrom_mem r _ h)
theorem walk_right {l : Cells} (np : NoPinch l) {w : Walk} (h : w ∈ walksOf l) : rightW w := by
  obtain ⟨p, _, hp, rfl⟩ := walksFrom_mem _ _ h
  obtain ⟨n, h1, h2, h3, h4, e⟩ := feetFrom_eq np hp
  rw [e]
  have := chain_it np n p hp
  rw [h2] at this
  exact corners_right this
theorem turns_mem : ∀ (f : List Foot) (d : Nat) (q : Point), q ∈ turns d f → ∃ x ∈ f, x.1 = q
  | [], d, q, h => by simp [turns] at h
  | x :: r, d, q, h => by
    unfold turns at h
    split at h
    · obtain ⟨y, h1, h2⟩ := turns_mem r _ q h
      exact ⟨y, List.mem_cons_of_mem _ h1, h2⟩
    · rcases List.mem_cons.mp h with rfl | h
      · exact ⟨x, by simp, rfl⟩
      · obtain ⟨y, h1, h2⟩ := turns_mem r _ q h
        exact ⟨y, List.mem_cons_of_mem _ h1, h2⟩
theorem corners_mem {f : List Foot} {q : Point} (h : q ∈ cornersOf f) : ∃ x ∈ f, x.1 = q := by
  unfold cornersOf at h
  split at h
  · exact turns_mem _ _ _ h
  · simp at h
theorem within_iff {c : Cell} : Roof.within c = true ↔ c.1 < 64 ∧ c.2 < 64 := by
  unfold Roof.within
  rw [Bool.and_eq_true, decide_eq_true_iff, decide_eq_true_iff]
  exact Iff.rfl
theorem isW_bd {l : Cells} (hl : ∀ c ∈ l, Roof.within c = true) {p : Point} (h : isW l p) : PB p := by
  obtain ⟨c, hc, hp⟩ := isW_mem h
  have := within_iff.mp (hl c hc)
  simp only [corner4, List.mem_cons, List.not_mem_nil, or_false] at hp
  rcases hp with rfl | rfl | rfl | rfl <;> (constructor <;> (try dsimp only) <;> omega)
theorem walk_bd {l : Cells} (np : NoPinch l) (hl : ∀ c ∈ l, Roof.within c = true) {w : Walk} (h : w ∈ walksOf l) : WB w := by
  obtain ⟨p, _, hp, rfl⟩ := walksFrom_mem _ _ h
  obtain ⟨n, h1, h2, h3, h4, e⟩ := feetFrom_eq np hp
  intro q hq
  obtain ⟨x, hx, rfl⟩ := corners_mem hq
  rw [e] at hx
  obtain ⟨i, _, rfl⟩ := List.mem_map.mp hx
  exact isW_bd hl (it_W np hp i)
def num (p : Point) : Int := (p.2 : Int) * 256 + p.1
theorem num_inj {p q : Point} (hp : p.1 < 256) (hq : q.1 < 256) (h : num p = num q) : p = q := by
  unfold num at h
  exact Prod.ext (by omega) (by omega)
theorem before_iff {a b : Point} : before a b = true ↔ a.2 < b.2 ∨ (a.2 = b.2 ∧ a.1 < b.1) := by
  simp [before]
theorem before_num {a b : Point} (ha : a.1 < 256) (hb : b.1 < 256) : before a b = true ↔ num a < num b := by
  rw [before_iff]; unfold num; omega
theorem before_trans {a b c : Point} (h1 : before a b = true) (h2 : before b c = true) : before a c = true := by
  rw [before_iff] at *; omega
theorem before_irrefl (a : Point) : before a a ≠ true := by
  rw [Ne, before_iff]; omega
abbrev Rise (l : List Point) : Prop := l.Pairwise fun a b => before a b = true
theorem rising_iff : ∀ l : Cells, rising l = true ↔ Rise l
  | [] => by simp [rising]
  | [a] => by simp [rising]
  | a :: b :: r => by
    rw [rising, Bool.and_eq_true, rising_iff (b :: r)]
    constructor
    · rintro ⟨h1, h2⟩
      refine List.Pairwise.cons (fun c hc => ?_) h2
      rcases List.mem_cons.mp hc with rfl | hc
      · exact h1
      · exact before_trans h1 (List.rel_of_pairwise_cons h2 hc)
    · intro h
      exact ⟨List.rel_of_pairwise_cons h (by simp), h.of_cons⟩
def le2 (a b : Cell) : Bool := a == b || before a b
theorem le2_iff {a b : Cell} : le2 a b = true ↔ a.2 < b.2 ∨ (a.2 = b.2 ∧ a.1 ≤ b.1) := by
  unfold le2
  rw [Bool.or_eq_true, before_iff, beq_iff_eq]
  constructor
  · rintro (rfl | h) <;> omega
  · intro h
    by_cases e : a = b
    · exact .inl e
    · refine .inr ?_
      rcases h with h | h
      · exact .inl h
      · refine .inr ⟨h.1, ?_⟩
        rcases Nat.lt_or_ge a.1 b.1 with h2 | h2
        · exact h2
        · exact absurd (Prod.ext (by omega) h.1) e
theorem sorted2 (l : Cells) : (l.mergeSort le2).Pairwise fun a b => le2 a b = true := by
  refine List.pairwise_mergeSort (fun a b c h1 h2 => ?_) (fun a b => ?_) l
  · rw [le2_iff] at *; omega
  · rw [Bool.or_eq_true, le2_iff, le2_iff]; omega
theorem onceEach_mem {c : Cell} : ∀ l : Cells, c ∈ onceEach l ↔ c ∈ l
  | [] => by simp [onceEach]
  | [a] => by simp [onceEach]
  | a :: b :: r => by
    unfold onceEach
    split
    · rename_i e
      subst e
      rw [onceEach_mem (a :: r)]
      simp
    · rw [List.mem_cons, onceEach_mem (b :: r), ← List.mem_cons]
theorem onceEach_rise : ∀ l : Cells, (l.Pairwise fun a b => le2 a b = true) → Rise (onceEach l)
  | [], _ => by simp [onceEach]
  | [a], _ => by simp [onceEach]
  | a :: b :: r, h => by
    unfold onceEach
    split
    · exact onceEach_rise (b :: r) h.of_cons
    · rename_i hne
      refine List.Pairwise.cons (fun c hc => ?_) (onceEach_rise (b :: r) h.of_cons)
      rw [onceEach_mem] at hc
      have h1 : le2 a c = true := List.rel_of_pairwise_cons h hc
      have h2 : le2 a b = true := List.rel_of_pairwise_cons h (by simp)
      have h3 : le2 b c = true := by
        rcases List.mem_cons.mp hc with rfl | hc
        · rw [le2_iff]; omega
        · exact List.rel_of_pairwise_cons h.of_cons hc
      rw [before_iff]
      rw [le2_iff] at h1 h2 h3
      have : ¬ (a.1 = b.1 ∧ a.2 = b.2) := fun z => hne (Prod.ext z.1 z.2)
      omega
theorem inRows_mem {c : Cell} (l : Cells) : c ∈ inRows l ↔ c ∈ l := by
  unfold inRows
  rw [onceEach_mem]
  exact (List.mergeSort_perm l _).mem_iff
theorem inRows_rise (l : Cells) : Rise (inRows l) := onceEach_rise _ (sorted2 l)
abbrev RiseI (l : List Int) : Prop := l.Pairwise fun a b => a < b
theorem riseI_unique : ∀ (a b : List Int), RiseI a → RiseI b → (∀ x, x ∈ a ↔ x ∈ b) → a = b
  | [], [], _, _, _ => rfl
  | [], y :: b, _, _, h => by have := (h y).mpr (by simp); simp at this
  | x :: a, [], _, _, h => by have := (h x).mp (by simp); simp at this
  | x :: a, y :: b, ha, hb, h => by
    have exy : x = y := by
      rcases List.mem_cons.mp ((h x).mp (by simp)) with e | e
      · exact e
      · rcases List.mem_cons.mp ((h y).mpr (by simp)) with e2 | e2
        · exact e2.symm
        · have h1 := List.rel_of_pairwise_cons hb e
          have h2 := List.rel_of_pairwise_cons ha e2
          omega
    subst exy
    have na : x ∉ a := fun z => by have := List.rel_of_pairwise_cons ha z; omega
    have nb : x ∉ b := fun z => by have := List.rel_of_pairwise_cons hb z; omega
    rw [riseI_unique a b ha.of_cons hb.of_cons (fun z => ?_)]
    have hz := h z
    simp only [List.mem_cons] at hz
    constructor
    · intro hm
      rcases hz.mp (.inr hm) with rfl | e
      · exact absurd hm na
      · exact e
    · intro hm
      rcases hz.mpr (.inr hm) with rfl | e
      · exact absurd hm nb
      · exact e
theorem riseI_of {l : List Int} (h : l.Pairwise fun a b => a ≤ b) (nd : l.Nodup) : RiseI l := by
  have := h.and nd
  exact this.imp fun ⟨h1, h2⟩ => by omega
theorem num_rise {l : List Point} (h : Rise l) (hb : ∀ p ∈ l, p.1 < 256) : RiseI (l.map num) := by
  unfold RiseI
  rw [List.pairwise_map]
  exact List.Pairwise.imp_of_mem (fun {a b} ha hb' hab => (before_num (hb a ha) (hb b hb')).mp hab) h
def wallPts (l : Cells) : List Point := (pointsOf l).filter fun p => (outOf l p).isSome
theorem pointsOf_mem {l : Cells} {p : Point} : p ∈ pointsOf l ↔ ∃ c ∈ l, p ∈ corner4 c := by
  unfold pointsOf
  rw [inRows_mem]
  exact List.mem_flatMap
theorem wallPts_mem {l : Cells} {p : Point} : p ∈ wallPts l ↔ isW l p := by
  unfold wallPts
  rw [List.mem_filter, pointsOf_mem, Option.isSome_iff_exists]
  exact ⟨fun h => h.2, fun h => ⟨isW_mem h, h⟩⟩
theorem wallPts_rise (l : Cells) : Rise (wallPts l) := (inRows_rise _).filter _
theorem walksFrom_filter {l : Cells} : ∀ (ps seen : List Point), walksFrom l seen ps = walksFrom l seen (ps.filter fun p => (outOf l p).isSome)
  | [], seen => rfl
  | p :: r, seen => by
    cases ho : outOf l p with
    | none =>
      have e : ((p :: r).filter fun p => (outOf l p).isSome) = r.filter fun p => (outOf l p).isSome := by simp [ho]
      rw [e, walksFrom]
      simp only [ho]
      rw [walksFrom_filter r seen]
      split <;> rfl
    | some d =>
      have e : ((p :: r).filter fun p => (outOf l p).isSome) = p :: r.filter fun p => (outOf l p).isSome := by simp [ho]
      rw [e, walksFrom, walksFrom]
      simp only [ho]
      split
      · exact walksFrom_filter r seen
      · rw [walksFrom_filter r]
theorem walksOf_eq (l : Cells) : walksOf l = walksFrom l [] (wallPts l) := walksFrom_filter _ _
theorem walksFrom_step {l : Cells} {p : Point} {r seen : List Point} (h : isW l p) : walksFrom l seen (p :: r) = if seen.contains p = true then walksFrom l seen r else cornersOf (feetFrom l p) :: walksFrom l (seen ++ (feetFrom l p).map fun x => x.1) r := by
  rw [walksFrom]
  simp only [h.out]
  rfl
end Rp
namespace Rp
open Roof
def tog {α : Type} [DecidableEq α] : List α → List α
  | [] => []
  | a :: l => if a ∈ tog l then (tog l).erase a else a :: tog l
section
variable {α : Type} [DecidableEq α]
theorem tog_nodup : ∀ l : List α, (tog l).Nodup
  | [] => List.nodup_nil
  | a :: l => by
    unfold tog
    split
    · exact (tog_nodup l).erase a
    · rename_i h
      exact List.nodup_cons.mpr ⟨h, tog_nodup l⟩
theorem tog_mem {x : α} : ∀ l : List α, x ∈ tog l ↔ l.count x % 2 = 1
  | [] => by simp [tog]
  | a :: l => by
    have ih := tog_mem (x := x) l
    have iha := tog_mem (x := a) l
    unfold tog
    rw [List.count_cons]
    by_cases e : a = x
    · subst e
      simp only [beq_self_eq_true, if_true]
      split
      · rename_i h
        have := (iha.mp h)
        have hn : a ∉ (tog l).erase a := fun z => (List.Nodup.mem_erase_iff (tog_nodup l)).mp z |>.1 rfl
        constructor
        · exact fun z => absurd z hn
        · intro z; omega
      · rename_i h
        constructor
        · intro _
          have : ¬ l.count a % 2 = 1 := fun z => h (iha.mpr z)
          omega
        · intro _; simp
    · have e2 : (a == x) = false := by simpa using e
      simp only [e2, Bool.false_eq_true, if_false, Nat.add_zero]
      split
      · rw [List.Nodup.mem_erase_iff (tog_nodup l), ← ih]
        exact ⟨fun z => z.2, fun z => ⟨fun q => e q.symm, z⟩⟩
      · rw [List.mem_cons, ← ih]
        exact ⟨fun z => z.resolve_left (fun q => e q.symm), .inr⟩
theorem tog_par (P : α → Bool) : ∀ l : List α, (tog l).countP P % 2 = l.countP P % 2
  | [] => rfl
  | a :: l => by
    have ih := tog_par P l
    unfold tog
    rw [List.countP_cons]
    split
    · rename_i h
      have hp := (List.perm_cons_erase h).countP_eq P
      rw [List.countP_cons] at hp
      split at hp <;> rename_i hh <;> simp [hh] <;> omega
    · rw [List.countP_cons]
      split <;> omega
theorem odd_par (P : α → Bool) {L O : List α} (nd : O.Nodup) (h : ∀ x, x ∈ O ↔ L.count x % 2 = 1) : O.countP P % 2 = L.countP P % 2 := by
  rw [← tog_par P L]
  have e : O.countP P = (tog L).countP P := by
    rw [List.countP_eq_length_filter, List.countP_eq_length_filter]
    apply Nat.le_antisymm
    · refine nodup_sub_len _ _ (nd.filter _) fun x hx => ?_
      rw [List.mem_filter] at hx ⊢
      exact ⟨(tog_mem L).mpr ((h x).mp hx.1), hx.2⟩
    · refine nodup_sub_len _ _ ((tog_nodup L).filter _) fun x hx => ?_
      rw [List.mem_filter] at hx ⊢
      exact ⟨(h x).mpr ((tog_mem L).mp hx.1), hx.2⟩
  rw [e]
end
def span (a b : Int) : List Int := (List.range (b - a).toNat).map fun (i : Nat) => a + (i : Int)
def cover : List Int → List Int
  | a :: b :: r => span a b ++ cover r
  | _ => []
theorem span_mem {a b m : Int} : m ∈ span a b ↔ a ≤ m ∧ m < b := by
  unfold span
  rw [List.mem_map]
  constructor
  · rintro ⟨i, hi, rfl⟩
    have := List.mem_range.mp hi
    omega
  · rintro ⟨h1, h2⟩
    exact ⟨(m - a).toNat, List.mem_range.mpr (by omega), by omega⟩
theorem span_rise (a b : Int) : RiseI (span a b) := by
  unfold span RiseI
  rw [List.pairwise_map]
  exact List.pairwise_lt_range.imp fun h => by omega
def upTo (us : List Int) (m : Int) : Nat := us.countP fun u => decide (u ≤ m)
theorem upTo_zero {us : List Int} {a m : Int} (h : ∀ u ∈ us, a < u) (hm : m ≤ a) : upTo us m = 0 := by
  unfold upTo
  rw [List.countP_eq_zero]
  intro u hu
  have := h u hu
  simp; omega
theorem cover_mem : ∀ (us : List Int) (m : Int), RiseI us → us.length % 2 = 0 → (m ∈ cover us ↔ upTo us m % 2 = 1)
  | [], m, _, _ => by simp [cover, upTo]
  | [a], m, _, h => by simp at h
  | a :: b :: r, m, hr, hl => by
    have hb : ∀ u ∈ r, b < u := fun u hu => List.rel_of_pairwise_cons hr.of_cons hu
    have hab : a < b := List.rel_of_pairwise_cons hr (by simp)
    have ih := cover_mem r m hr.of_cons.of_cons (by simp at hl; omega)
    have e : upTo (a :: b :: r) m = upTo r m + (if b ≤ m then 1 else 0) + (if a ≤ m then 1 else 0) := by
      unfold upTo
      rw [List.countP_cons, List.countP_cons]
      simp
    unfold cover
    rw [List.mem_append, span_mem, ih, e]
    by_cases h1 : b ≤ m
    · rw [if_pos h1, if_pos (by omega)]
      omega
    · have : upTo r m = 0 := upTo_zero hb (by omega)
      rw [this, if_neg h1]
      split <;> omega
theorem cover_rise : ∀ (us : List Int), RiseI us → RiseI (cover us) ∧ ∀ a, (∀ u ∈ us, a < u) → ∀ m ∈ cover us, a < m
  | [], _ => ⟨by simp [cover, RiseI], by simp [cover]⟩
  | [a], _ => ⟨by simp [cover, RiseI], by simp [cover]⟩
  | a :: b :: r, hr => by
    have hb : ∀ u ∈ r, b < u := fun u hu => List.rel_of_pairwise_cons hr.of_cons hu
    have ih := cover_rise r hr.of_cons.of_cons
    unfold cover
    constructor
    · refine List.pairwise_append.mpr ⟨span_rise a b, ih.1, fun x hx y hy => ?_⟩
      have := span_mem.mp hx
      have := ih.2 b hb y hy
      omega
    · intro c hc m hm
      rcases List.mem_append.mp hm with hm | hm
      · have := span_mem.mp hm
        have := hc a (by simp)
        omega
      · exact ih.2 c (fun u hu => hc u (by simp [hu])) m hm
def upsSide (a b : Point) : List Point := if a.1 = b.1 then (List.range (max a.2 b.2 - min a.2 b.2)).map fun i => (a.1, min a.2 b.2 + i) else []
def upsW : Point → Walk → List Point
  | _, [] => []
  | z, c :: r => upsSide z c ++ upsW c r
def upsOf (w : Walk) : List Point := match w.getLast? with
  | none => []
  | some z => upsW z w
def upsAll (ws : List Walk) : List Point := ws.flatMap upsOf
theorem upsSide_bd {a b q : Point} (ha : PB a) (hb : PB b) (h : q ∈ upsSide a b) : q.1 ≤ 64 ∧ q.2 < 64 := by
  unfold upsSide at h
  split at h
  · obtain ⟨i, hi, rfl⟩ := List.mem_map.mp h
    have := List.mem_range.mp hi
    have := ha.1; have := ha.2; have := hb.2
    dsimp only
    omega
  · simp at h
theorem upsW_bd {q : Point} : ∀ (w : Walk) (z : Point), PB z → WB w → q ∈ upsW z w → q.1 ≤ 64 ∧ q.2 < 64
  | [], z, _, _, h => by simp [upsW] at h
  | c :: r, z, hz, hw, h => by
    have hc := hw c (by simp)
    rcases List.mem_append.mp h with h | h
    · exact upsSide_bd hz hc h
    · exact upsW_bd r c hc (fun p hp => hw p (List.mem_cons_of_mem _ hp)) h
theorem upsAll_bd {ws : List Walk} (hw : ∀ w ∈ ws, WB w) {q : Point} (h : q ∈ upsAll ws) : q.1 ≤ 64 ∧ q.2 < 64 := by
  obtain ⟨w, h1, h2⟩ := List.mem_flatMap.mp h
  unfold upsOf at h2
  split at h2
  · simp at h2
  · rename_i z hz
    exact upsW_bd w z (hw w h1 z (List.mem_of_getLast? hz)) (hw w h1) h2
theorem cnt_up (A : Prop) [Decidable A] (B C : Nat) : ∀ n, (List.range n).countP (fun i => decide (A ∧ B + i = C)) = if A ∧ B ≤ C ∧ C < B + n then 1 else 0
  | 0 => by simp; try omega
  | n + 1 => by
    rw [List.range_succ, List.countP_append, cnt_up A B C n]
    simp only [List.countP_cons, List.countP_nil, decide_eq_true_eq]
    by_cases hA : A
    · simp only [hA, true_and]
      split <;> split <;> split <;> omega
    · simp [hA]
theorem cnt_down (A : Prop) [Decidable A] (B C : Nat) : ∀ n, n ≤ B → (List.range n).countP (fun i => decide (A ∧ B - i = C + 1)) = if A ∧ B - n ≤ C ∧ C < B then 1 else 0
  | 0, _ => by simp; try omega
  | n + 1, h => by
    rw [List.range_succ, List.countP_append, cnt_down A B C n (by omega)]
    simp only [List.countP_cons, List.countP_nil, decide_eq_true_eq]
    by_cases hA : A
    · simp only [hA, true_and]
      split <;> split <;> split <;> omega
    · simp [hA]
def west (c : Cell) (q : Point) : Bool := decide (q.1 ≤ c.1 ∧ q.2 = c.2)
def footWest (c : Cell) (x : Foot) : Bool := decide (x.1.1 ≤ c.1) && ((x.2 == 1 && x.1.2 == c.2) || (x.2 == 3 && x.1.2 == c.2 + 1))
theorem feet_west (c : Cell) (a b : Point) : (feet a b).countP (footWest c) = (upsSide a b).countP (west c) := by
  unfold feet upsSide
  by_cases h2 : a.2 = b.2
  · rw [if_pos h2]
    have z : max a.2 b.2 - min a.2 b.2 = 0 := by omega
    rw [z]
    have r : (if a.1 = b.1 then ((List.range 0).map fun i => (a.1, min a.2 b.2 + i)) else ([] : List Point)).countP (west c) = 0 := by
      split <;> simp
    rw [r]
    split
    · rw [List.countP_eq_zero]; intro x hx; obtain ⟨i, _, rfl⟩ := List.mem_map.mp hx; simp [footWest]
    · rw [List.countP_eq_zero]; intro x hx; obtain ⟨i, _, rfl⟩ := List.mem_map.mp hx; simp [footWest]
  · rw [if_neg h2]
    by_cases h1 : a.1 = b.1
    · rw [if_pos h1, if_pos h1]
      by_cases h3 : a.2 < b.2
      · rw [if_pos h3, List.countP_map, List.countP_map]
        have e1 : max a.2 b.2 = b.2 := by omega
        have e2 : min a.2 b.2 = a.2 := by omega
        rw [e1, e2]
        apply List.countP_congr
        intro i _
        simp [footWest, west]
      · rw [if_neg h3, List.countP_map, List.countP_map]
        have e1 : max a.2 b.2 = a.2 := by omega
        have e2 : min a.2 b.2 = b.2 := by omega
        rw [e1, e2]
        have g1 : (footWest c ∘ fun i => ((a.1, a.2 - i), 3)) = fun i => decide (a.1 ≤ c.1 ∧ a.2 - i = c.2 + 1) := by
          funext i; simp [footWest]; rfl
        have g2 : (west c ∘ fun i => (a.1, b.2 + i)) = fun i => decide (a.1 ≤ c.1 ∧ b.2 + i = c.2) := by
          funext i; simp [west]
        rw [g1, g2, cnt_up, cnt_down _ _ _ _ (by omega)]
        by_cases hA : a.1 ≤ c.1
        · simp only [hA, true_and]
          split <;> split <;> omega
        · simp [hA]
    · rw [if_neg h1, if_neg h1]; rfl
def sumC (g : Point → Point → Nat) : Point → Walk → Nat
  | _, [] => 0
  | z, c :: r => g z c + sumC g c r
theorem zip_sum (g : Point → Point → Nat) : ∀ (r : Walk) (c e : Point), (((c :: r).zip (r ++ [e])).map fun x => g x.1 x.2).sum = sumC g c r + g ((c :: r).getLastD c) e
  | [], c, e => by simp [sumC]
  | d :: r, c, e => by
    have ih := zip_sum g r d e
    simp only [List.cons_append, List.zip_cons_cons, List.map_cons, List.sum_cons] at ih ⊢
    rw [ih, sumC]
    have : (c :: d :: r).getLastD c = (d :: r).getLastD d := by
      rw [List.getLastD_eq_getLast?, List.getLastD_eq_getLast?, List.getLast?_cons_cons, List.getLast?_eq_some_getLast (by simp : d :: r ≠ [])]
      rfl
    rw [this]
    omega
theorem sides_sum (g : Point → Point → Nat) (w : Walk) : ((sides w).map fun x => g x.1 x.2).sum = match w.getLast? with | none => 0 | some z => sumC g z w := by
  cases w with
  | nil => rfl
  | cons c r =>
    have e : sides (c :: r) = (c :: r).zip (r ++ [c]) := by simp [sides]
    rw [e, zip_sum]
    have e2 : (c :: r).getLast? = some ((c :: r).getLastD c) := by
      rw [List.getLastD_eq_getLast?]
      cases h : (c :: r).getLast? with
      | none => simp at h
      | some z => rfl
    rw [e2]
    simp only [sumC]
    omega
theorem upsW_cnt (P : Point → Bool) : ∀ (w : Walk) (z : Point), (upsW z w).countP P = sumC (fun a b => (upsSide a b).countP P) z w
  | [], z => rfl
  | c :: r, z => by rw [upsW, List.countP_append, upsW_cnt P r c, sumC]
theorem walk_west (c : Cell) (w : Walk) : (walkFeet w).countP (footWest c) = (upsOf w).countP (west c) := by
  unfold walkFeet
  rw [List.countP_flatMap]
  have e : (List.countP (footWest c) ∘ fun x : Point × Point => feet x.1 x.2) = fun x => (fun a b => (upsSide a b).countP (west c)) x.1 x.2 := by
    funext x; exact feet_west c x.1 x.2
  rw [e]
  refine (sides_sum (fun a b => (upsSide a b).countP (west c)) w).trans ?_
  unfold upsOf
  cases w.getLast? with
  | none => rfl
  | some z => exact (upsW_cnt _ _ _).symm
theorem all_west (c : Cell) (ws : List Walk) : (ws.flatMap walkFeet).countP (footWest c) = (upsAll ws).countP (west c) := by
  unfold upsAll
  rw [List.countP_flatMap, List.countP_flatMap]
  congr 1
  apply List.map_congr_left
  intro w _
  exact walk_west c w
theorem cellsIn_mem {ws : List Walk} {c : Cell} : c ∈ cellsIn ws ↔ c.1 < 64 ∧ c.2 < 64 ∧ (upsAll ws).countP (west c) % 2 = 1 := by
  rw [← all_west]
  unfold cellsIn
  simp only [List.mem_flatMap, List.mem_range]
  have key : ∀ y, c.2 = y → wallsWest (((ws.flatMap walkFeet).filter fun x => x.2 == 1 || x.2 == 3).filter fun x => x.1.2 == y || x.1.2 == y + 1) c = (ws.flatMap walkFeet).countP (footWest c) := by
    rintro y rfl
    unfold wallsWest
    rw [List.countP_filter, List.countP_filter]
    apply List.countP_congr
    intro x _
    simp only [footWest]
    constructor
    · intro h
      simp only [Bool.and_eq_true] at h ⊢
      exact h.1.1
    · intro h
      simp only [Bool.and_eq_true, Bool.or_eq_true, decide_eq_true_eq, beq_iff_eq] at h ⊢
      omega
  constructor
  · rintro ⟨y, hy, h⟩
    split at h
    · simp at h
    · obtain ⟨h1, h2⟩ := List.mem_filter.mp h
      obtain ⟨x, hx, e⟩ := List.mem_map.mp h1
      have hx' : x < 64 := List.mem_range.mp hx
      subst e
      rw [key y rfl] at h2
      exact ⟨hx', hy, by simpa using h2⟩
  · rintro ⟨h1, h2, h3⟩
    refine ⟨c.2, h2, ?_⟩
    split
    · rename_i hg
      have := key c.2 rfl
      rw [List.isEmpty_iff.mp hg] at this
      rw [← this] at h3
      simp [wallsWest] at h3
    · refine List.mem_filter.mpr ⟨List.mem_map.mpr ⟨c.1, List.mem_range.mpr h1, rfl⟩, ?_⟩
      rw [key c.2 rfl]
      simpa using h3
theorem cellsIn_rise (ws : List Walk) : Rise (cellsIn ws) := by
  unfold cellsIn
  simp only
  have row : ∀ (y : Nat) (P : Cell → Bool), Rise (((List.range SIDE).map fun (x : Nat) => ((x, y) : Cell)).filter P) := fun y P => by
    refine List.Pairwise.filter _ ?_
    rw [List.pairwise_map]
    exact List.pairwise_lt_range.imp fun h => by rw [before_iff]; exact .inr ⟨rfl, h⟩
  unfold Rise
  rw [List.pairwise_flatMap]
  constructor
  · intro y _
    split
    · exact List.Pairwise.nil
    · exact row y _
  · refine List.pairwise_lt_range.imp ?_
    intro y1 y2 h a ha b hb
    have in_row : ∀ (y : Nat) (L : List Cell) (g : Bool) (a : Cell) (P : Cell → Bool), a ∈ (if g = true then [] else ((List.range SIDE).map fun (x : Nat) => ((x, y) : Cell)).filter P) → a.2 = y := by
      intro y L g a P h
      split at h
      · simp at h
      · obtain ⟨h1, _⟩ := List.mem_filter.mp h
        obtain ⟨x, _, rfl⟩ := List.mem_map.mp h1
        rfl
    have e1 := in_row y1 [] _ a _ ha
    have e2 := in_row y2 [] _ b _ hb
    rw [before_iff]
    exact .inl (by omega)
theorem cellsIn_within {ws : List Walk} : ∀ c ∈ cellsIn ws, Roof.within c = true := fun c hc => within_iff.mpr ⟨(cellsIn_mem.mp hc).1, (cellsIn_mem.mp hc).2.1⟩
theorem side_row {a b : Point} (h : Ali a b) (r : Nat) : (upsSide a b).countP (fun q => decide (q.2 = r)) % 2 = ((if r < a.2 then 1 else 0) + (if r < b.2 then 1 else 0)) % 2 := by
  unfold upsSide
  by_cases h1 : a.1 = b.1
  · rw [if_pos h1, List.countP_map]
    have g : ((fun q : Point => decide (q.2 = r)) ∘ fun i => (a.1, min a.2 b.2 + i)) = fun i => decide (True ∧ min a.2 b.2 + i = r) := by
      funext i; simp
    rw [g, cnt_up]
    simp only [true_and]
    split <;> split <;> split <;> omega
  · rw [if_neg h1]
    have h2 : a.2 = b.2 := h.resolve_left h1
    rw [h2]
    simp only [List.countP_nil]
    split <;> omega
theorem chain_row (r : Nat) : ∀ (w : Walk) (z : Point), AL z w → (upsW z w).countP (fun q => decide (q.2 = r)) % 2 = ((if r < z.2 then 1 else 0) + (if r < (w.getLastD z).2 then 1 else 0)) % 2
  | [], z, _ => by simp [upsW]; split <;> omega
  | c :: w, z, h => by
    have h1 := side_row h.1 r
    have h2 := chain_row r w c h.2
    rw [upsW, List.countP_append, List.getLastD_cons]
    omega
theorem walk_row {w : Walk} (h : rightW w) (r : Nat) : (upsOf w).countP (fun q => decide (q.2 = r)) % 2 = 0 := by
  unfold upsOf
  cases hz : w.getLast? with
  | none => rfl
  | some z =>
    simp only
    rw [chain_row r w z (h z hz)]
    have : w.getLastD z = z := by rw [List.getLastD_eq_getLast?, hz]; rfl
    rw [this]
    split <;> omega
theorem all_row {ws : List Walk} (h : ∀ w ∈ ws, rightW w) (r : Nat) : (upsAll ws).countP (fun q => decide (q.2 = r)) % 2 = 0 := by
  unfold upsAll
  induction ws with
  | nil => rfl
  | cons w ws ih =>
    rw [List.flatMap_cons, List.countP_append]
    have h1 := walk_row (h w (by simp)) r
    have h2 := ih fun x hx => h x (List.mem_cons_of_mem _ hx)
    omega
theorem all_below {ws : List Walk} (h : ∀ w ∈ ws, rightW w) : ∀ r, (upsAll ws).countP (fun q => decide (q.2 < r)) % 2 = 0
  | 0 => by simp
  | r + 1 => by
    have e : (upsAll ws).countP (fun q => decide (q.2 < r + 1)) = (upsAll ws).countP (fun q => decide (q.2 < r)) + (upsAll ws).countP (fun q => decide (q.2 = r)) := by
      generalize upsAll ws = L
      induction L with
      | nil => rfl
      | cons a L ih =>
        simp only [List.countP_cons, ih, decide_eq_true_eq]
        split <;> split <;> split <;> omega
    rw [e]
    have h1 := all_below h r
    have h2 := all_row h r
    omega
theorem cover_cells {ws : List Walk} (hw : ∀ w ∈ ws, WB w) (hr : ∀ w ∈ ws, rightW w) {us : List Int} (hus : RiseI us) (hm : ∀ m, m ∈ us ↔ ((upsAll ws).map num).count m % 2 = 1) :
    us.length % 2 = 0 ∧ cover us = (cellsIn ws).map num := by
  have par : ∀ P : Int → Bool, us.countP P % 2 = (upsAll ws).countP (fun q => P (num q)) % 2 := fun P => by
    have nd : us.Nodup := hus.imp fun h => by omega
    rw [odd_par P nd hm, List.countP_map]
    rfl
  have bd := fun q (hq : q ∈ upsAll ws) => upsAll_bd hw hq
  have hlen : us.length % 2 = 0 := by
    have h1 := par fun _ => true
    have h2 := all_below hr 64
    have e : (upsAll ws).countP (fun q => decide (q.2 < 64)) = (upsAll ws).countP (fun q => (fun _ : Int => true) (num q)) := by
      apply List.countP_congr
      intro q hq
      have := bd q hq
      simp; omega
    rw [e, ← h1] at h2
    simpa using h2
  refine ⟨hlen, ?_⟩
  have upar : ∀ m, upTo us m % 2 = (upsAll ws).countP (fun q => decide (num q ≤ m)) % 2 := fun m => par fun u => decide (u ≤ m)
  apply riseI_unique _ _ (cover_rise us hus).1
  · exact num_rise (cellsIn_rise ws) fun c hc => by have := (cellsIn_mem.mp hc).1; omega
  · intro m
    rw [cover_mem us m hus hlen, upar]
    rw [List.mem_map]
    have split2 : ∀ (x y : Nat), x ≤ 255 → m = (y : Int) * 256 + x → (upsAll ws).countP (fun q => decide (num q ≤ m)) = (upsAll ws).countP (fun q => decide (q.2 < y)) + (upsAll ws).countP (west (x, y)) := by
      intro x y hx hmm
      have : ∀ L : List Point, (∀ q ∈ L, q.1 ≤ 64 ∧ q.2 < 64) → L.countP (fun q => decide (num q ≤ m)) = L.countP (fun q => decide (q.2 < y)) + L.countP (west (x, y)) := by
        intro L
        induction L with
        | nil => intro _; rfl
        | cons a L ih =>
          intro hL
          have ha := hL a (by simp)
          have e := ih fun q hq => hL q (List.mem_cons_of_mem _ hq)
          have hn : (num a ≤ m) ↔ (a.2 < y ∨ (a.1 ≤ x ∧ a.2 = y)) := by unfold num; omega
          rw [List.countP_cons, List.countP_cons, List.countP_cons, e]
          simp only [west, decide_eq_true_eq, hn]
          split <;> split <;> split <;> omega
      exact this _ bd
    constructor
    · intro h
      have hm0 : 0 ≤ m := by
        by_cases hneg : m < 0
        · have : (upsAll ws).countP (fun q => decide (num q ≤ m)) = 0 := by
            rw [List.countP_eq_zero]
            intro q _
            have : 0 ≤ num q := by unfold num; omega
            simp; omega
          rw [this] at h; simp at h
        · omega
      have hs := split2 (m % 256).toNat (m / 256).toNat (by omega) (by omega)
      have hb := all_below hr (m / 256).toNat
      rw [hs] at h
      have hx : (m % 256).toNat < 64 := by
        rcases Nat.lt_or_ge (m % 256).toNat 64 with h1 | h1
        · exact h1
        · have e : (upsAll ws).countP (west ((m % 256).toNat, (m / 256).toNat)) = (upsAll ws).countP (fun q => decide (q.2 = (m / 256).toNat)) := by
            apply List.countP_congr
            intro q hq
            have := bd q hq
            simp [west]; omega
          rw [e] at h
          have := all_row hr (m / 256).toNat
          omega
      have hodd : (upsAll ws).countP (west ((m % 256).toNat, (m / 256).toNat)) % 2 = 1 := by omega
      have hy : (m / 256).toNat < 64 := by
        rcases Nat.lt_or_ge (m / 256).toNat 64 with h1 | h1
        · exact h1
        · have : (upsAll ws).countP (west ((m % 256).toNat, (m / 256).toNat)) = 0 := by
            rw [List.countP_eq_zero]
            intro q hq
            have := bd q hq
            simp [west]; omega
          omega
      refine ⟨((m % 256).toNat, (m / 256).toNat), cellsIn_mem.mpr ⟨hx, hy, hodd⟩, ?_⟩
      simp only [num]; omega
    · rintro ⟨c, hc, rfl⟩
      obtain ⟨h1, h2, h3⟩ := cellsIn_mem.mp hc
      rw [split2 c.1 c.2 (by omega) rfl]
      have := all_below hr c.2
      have : (c.1, c.2) = c := rfl
      rw [this]
      omega
end Rp
namespace Rp
open Roof
theorem num_has {l : Cells} (hl : ∀ c ∈ l, Roof.within c = true) {x y : Nat} (hx : x < 256) {m : Int} (hm : m = (y : Int) * 256 + x) : m ∈ l.map num ↔ (x, y) ∈ l := by
  rw [List.mem_map]
  constructor
  · rintro ⟨c, hc, e⟩
    have := within_iff.mp (hl c hc)
    have : c = (x, y) := num_inj (by omega) hx (by rw [e, hm]; rfl)
    rw [← this]; exact hc
  · intro h
    exact ⟨(x, y), h, by rw [hm]; rfl⟩
theorem num_hasnt {l : Cells} (hl : ∀ c ∈ l, Roof.within c = true) {m : Int} (hm : 64 ≤ m % 256 ∨ m < 0) : m ∉ l.map num := by
  rw [List.mem_map]
  rintro ⟨c, hc, e⟩
  have := within_iff.mp (hl c hc)
  unfold num at e
  omega
section
variable {l : Cells} (hl : ∀ c ∈ l, Roof.within c = true) {c : Cell} (hc : c.1 < 64)
include hl hc
theorem has_N : num c + 256 ∈ l.map num ↔ (c.1, c.2 + 1) ∈ l := num_has hl (by omega) (by unfold num; push_cast; omega)
theorem has_NE : num c + 257 ∈ l.map num ↔ (c.1 + 1, c.2 + 1) ∈ l := num_has hl (by omega) (by unfold num; push_cast; omega)
theorem has_E : num c + 1 ∈ l.map num ↔ (c.1 + 1, c.2) ∈ l := num_has hl (by omega) (by unfold num; push_cast; omega)
theorem has_W : num c - 1 ∈ l.map num ↔ 0 < c.1 ∧ (c.1 - 1, c.2) ∈ l := by
  by_cases h : 0 < c.1
  · rw [num_has hl (x := c.1 - 1) (y := c.2) (by omega) (by unfold num; omega)]
    exact ⟨fun z => ⟨h, z⟩, fun z => z.2⟩
  · constructor
    · intro z
      exact absurd z (num_hasnt hl (by unfold num; omega))
    · intro z; exact absurd z.1 h
theorem has_NW : num c + 255 ∈ l.map num ↔ 0 < c.1 ∧ (c.1 - 1, c.2 + 1) ∈ l := by
  by_cases h : 0 < c.1
  · rw [num_has hl (x := c.1 - 1) (y := c.2 + 1) (by omega) (by unfold num; omega)]
    exact ⟨fun z => ⟨h, z⟩, fun z => z.2⟩
  · constructor
    · intro z
      exact absurd z (num_hasnt hl (by unfold num; omega))
    · intro z; exact absurd z.1 h
theorem has_S : num c - 256 ∈ l.map num ↔ 0 < c.2 ∧ (c.1, c.2 - 1) ∈ l := by
  by_cases h : 0 < c.2
  · rw [num_has hl (x := c.1) (y := c.2 - 1) (by omega) (by unfold num; omega)]
    exact ⟨fun z => ⟨h, z⟩, fun z => z.2⟩
  · constructor
    · intro z
      exact absurd z (num_hasnt hl (by unfold num; omega))
    · intro z; exact absurd z.1 h
end
def meetAt (ks : List Int) (m : Int) : Prop := m + 256 ∉ ks ∧ ((m + 257 ∈ ks ∧ m + 1 ∉ ks) ∨ (m + 255 ∈ ks ∧ m - 1 ∉ ks))
theorem meet_iff {l : Cells} (hl : ∀ c ∈ l, Roof.within c = true) : pinched l = true ↔ ∃ m ∈ l.map num, meetAt (l.map num) m := by
  unfold pinched
  rw [List.any_eq_true]
  have key : ∀ c ∈ l, (((l.contains (c.1 + 1, c.2 + 1) && !(l.contains (c.1 + 1, c.2) || l.contains (c.1, c.2 + 1))) || (decide (0 < c.1) && (l.contains (c.1 - 1, c.2 + 1) && !(l.contains (c.1 - 1, c.2) || l.contains (c.1, c.2 + 1))))) = true ↔ meetAt (l.map num) (num c)) := by
    intro c hc
    have h1 := (within_iff.mp (hl c hc)).1
    unfold meetAt
    rw [has_N hl h1, has_NE hl h1, has_E hl h1, has_NW hl h1, has_W hl h1]
    simp only [Bool.or_eq_true, Bool.and_eq_true, Bool.not_eq_true', Bool.or_eq_false_iff, decide_eq_true_eq, List.contains_iff_mem, ← Bool.not_eq_true]
    by_cases a : (c.1 + 1, c.2 + 1) ∈ l <;> by_cases b : (c.1 + 1, c.2) ∈ l <;> by_cases d : (c.1, c.2 + 1) ∈ l <;> by_cases e : (c.1 - 1, c.2 + 1) ∈ l <;> by_cases f : (c.1 - 1, c.2) ∈ l <;> by_cases g : 0 < c.1 <;> simp [a, b, d, e, f, g]
  constructor
  · rintro ⟨c, hc, h⟩
    exact ⟨num c, List.mem_map.mpr ⟨c, hc, rfl⟩, (key c hc).mp h⟩
  · rintro ⟨m, hm, h⟩
    obtain ⟨c, hc, rfl⟩ := List.mem_map.mp hm
    exact ⟨c, hc, (key c hc).mpr h⟩
inductive Con (l : Cells) (c : Cell) : Cell → Prop
  | base : Con l c c
  | step {x y : Cell} : Con l c x → y ∈ beside x → y ∈ l → Con l c y
def nb (m : Int) : List Int := [m - 256, m - 1, m + 1, m + 256]
theorem nb_beside {l : Cells} (hl : ∀ c ∈ l, Roof.within c = true) {x : Cell} (hx : x.1 < 64) {m : Int} : (m ∈ nb (num x) ∧ m ∈ l.map num) ↔ ∃ y, y ∈ beside x ∧ y ∈ l ∧ m = num y := by
  constructor
  · rintro ⟨h1, h2⟩
    simp only [nb, List.mem_cons, List.not_mem_nil, or_false] at h1
    rcases h1 with rfl | rfl | rfl | rfl
    · obtain ⟨h3, h4⟩ := (has_S hl hx).mp h2
      exact ⟨_, by simp [beside, h3], h4, by simp only [num]; omega⟩
    · obtain ⟨h3, h4⟩ := (has_W hl hx).mp h2
      exact ⟨_, by simp [beside, h3], h4, by simp only [num]; omega⟩
    · have h4 := (has_E hl hx).mp h2
      exact ⟨_, by simp [beside], h4, by simp only [num]; omega⟩
    · have h4 := (has_N hl hx).mp h2
      exact ⟨_, by simp [beside], h4, by simp only [num]; omega⟩
  · rintro ⟨y, h1, h2, rfl⟩
    refine ⟨?_, List.mem_map.mpr ⟨y, h2, rfl⟩⟩
    simp only [beside, List.mem_append, List.mem_cons, List.not_mem_nil, or_false] at h1
    simp only [nb, List.mem_cons, List.not_mem_nil, or_false]
    rcases h1 with (rfl | rfl) | h1 | h1
    · right; right; left; simp only [num]; omega
    · right; right; right; simp only [num]; omega
    · split at h1
      · simp at h1; subst h1; right; left; simp only [num]; omega
      · simp at h1
    · split at h1
      · simp at h1; subst h1; left; simp only [num]; omega
      · simp at h1
theorem nodup_dedup {α : Type} [BEq α] [LawfulBEq α] : ∀ (n : Nat) (l : List α), l.length ≤ n → l.eraseDups.Nodup
  | 0, l, h => by
    have : l = [] := List.eq_nil_of_length_eq_zero (by omega)
    subst this; simp
  | n + 1, [], h => by simp
  | n + 1, a :: l, h => by
    rw [List.eraseDups_cons]
    have h2 : (l.filter fun b => !b == a).length ≤ l.length := List.length_filter_le _ _
    refine List.nodup_cons.mpr ⟨fun hm => ?_, nodup_dedup n _ (by simp at h; omega)⟩
    rw [List.mem_eraseDups, List.mem_filter] at hm
    simp at hm
theorem reach_ok {l : Cells} {c : Cell} (nd : l.Nodup) : ∀ (f : Nat) (seen new : List Cell), seen.Nodup → (∀ x ∈ seen, x ∈ l ∧ Con l c x) → (∀ x ∈ new, x ∈ seen) → (∀ x ∈ seen, x ∈ new ∨ ∀ y ∈ beside x, y ∈ l → y ∈ seen) →
    c ∈ seen → l.length + 1 ≤ f + seen.length → (reach l f seen new).Nodup ∧ ∀ x, x ∈ reach l f seen new ↔ Con l c x
  | 0, seen, new, h1, h2, _, _, _, h6 => by
    have := nodup_sub_len seen l h1 fun x hx => (h2 x hx).1
    omega
  | f + 1, seen, new, h1, h2, h3, h4, h5, h6 => by
    unfold reach
    simp only
    generalize hn : ((new.flatMap beside).filter fun c => l.contains c && !seen.contains c).eraseDups = next
    have mem : ∀ y, y ∈ next ↔ (∃ x ∈ new, y ∈ beside x) ∧ y ∈ l ∧ y ∉ seen := by
      intro y
      rw [← hn, List.mem_eraseDups, List.mem_filter, List.mem_flatMap]
      simp
    split
    · rename_i he
      refine ⟨h1, fun x => ⟨fun hx => (h2 x hx).2, fun hx => ?_⟩⟩
      induction hx with
      | base => exact h5
      | @step x y _ hb hy ih =>
        rcases h4 x ih with hxn | hcl
        · by_cases hs : y ∈ seen
          · exact hs
          · have := (mem y).mpr ⟨⟨x, hxn, hb⟩, hy, hs⟩
            rw [he] at this; simp at this
        · exact hcl y hb hy
    · rename_i he
      have ndn : next.Nodup := by rw [← hn]; exact nodup_dedup _ _ (Nat.le_refl _)
      refine reach_ok nd f (seen ++ next) next ?_ ?_ ?_ ?_ ?_ ?_
      · refine List.nodup_append.mpr ⟨h1, ndn, fun a ha b hb e => ?_⟩
        subst e
        exact ((mem a).mp hb).2.2 ha
      · intro x hx
        rcases List.mem_append.mp hx with hx | hx
        · exact h2 x hx
        · obtain ⟨⟨z, hz, hb⟩, hy, _⟩ := (mem x).mp hx
          exact ⟨hy, .step (h2 z (h3 z hz)).2 hb hy⟩
      · intro x hx; exact List.mem_append.mpr (.inr hx)
      · intro x hx
        rcases List.mem_append.mp hx with hx | hx
        · right
          intro y hb hy
          rcases h4 x hx with hxn | hcl
          · by_cases hs : y ∈ seen
            · exact List.mem_append.mpr (.inl hs)
            · exact List.mem_append.mpr (.inr ((mem y).mpr ⟨⟨x, hxn, hb⟩, hy, hs⟩))
          · exact List.mem_append.mpr (.inl (hcl y hb hy))
        · exact .inl hx
      · exact List.mem_append.mpr (.inl h5)
      · have : 0 < next.length := List.length_pos_iff.mpr he
        rw [List.length_append]; omega
theorem rise_nodup {l : List Point} (h : Rise l) : l.Nodup := h.imp fun {a b} hab e => by subst e; exact before_irrefl _ hab
theorem reach_whole {l : Cells} {c : Cell} (nd : l.Nodup) (hc : c ∈ l) : (reach l l.length [c] [c]).Nodup ∧ ∀ x, x ∈ reach l l.length [c] [c] ↔ Con l c x :=
  reach_ok nd l.length [c] [c] (by simp) (fun x hx => by simp at hx; subst hx; exact ⟨hc, .base⟩) (fun x hx => hx) (fun x hx => .inl hx) (by simp) (by simp)
theorem con_mem {l : Cells} {c : Cell} (hc : c ∈ l) {x : Cell} (h : Con l c x) : x ∈ l := by
  cases h with
  | base => exact hc
  | step _ _ hy => exact hy
theorem reach_len {l : Cells} (hl : ∀ c ∈ l, Roof.within c = true) (hr : Rise l) {c : Cell} (hc : c ∈ l) {R : List Int} (nd : R.Nodup) (h0 : num c ∈ R)
    (hs : ∀ m ∈ R, ∃ x, Con l c x ∧ m = num x) (hcl : ∀ m ∈ R, ∀ k ∈ nb m, k ∈ l.map num → k ∈ R) : R.length = (reach l l.length [c] [c]).length := by
  obtain ⟨h1, h2⟩ := reach_whole (rise_nodup hr) hc
  have all : ∀ x, Con l c x → num x ∈ R := by
    intro x hx
    induction hx with
    | base => exact h0
    | @step x y hx hb hy ih =>
      have hxl := con_mem hc hx
      obtain ⟨h3, h4⟩ := (nb_beside hl (within_iff.mp (hl x hxl)).1 (m := num y)).mpr ⟨y, hb, hy, rfl⟩
      exact hcl _ ih _ h3 h4
  have ndm : ((reach l l.length [c] [c]).map num).Nodup := by
    unfold List.Nodup
    rw [List.pairwise_map]
    refine List.Pairwise.imp_of_mem (fun {a b} ha hb hab e => hab ?_) h1
    have ea := within_iff.mp (hl a (con_mem hc ((h2 a).mp ha)))
    have eb := within_iff.mp (hl b (con_mem hc ((h2 b).mp hb)))
    exact num_inj (by omega) (by omega) e
  rw [← List.length_map (f := num)]
  apply Nat.le_antisymm
  · refine nodup_sub_len _ _ nd fun m hm => ?_
    obtain ⟨x, hx, rfl⟩ := hs m hm
    exact List.mem_map.mpr ⟨x, (h2 x).mpr hx, rfl⟩
  · refine nodup_sub_len _ _ ndm fun m hm => ?_
    obtain ⟨x, hx, rfl⟩ := List.mem_map.mp hm
    exact all x ((h2 x).mp hx)
theorem isHouse_iff {l : Cells} (hl : ∀ c ∈ l, Roof.within c = true) (hr : Rise l) : isHouse l = true ↔ ∃ c r, l = c :: r ∧ l.length ≤ 256 ∧ pinched l = false ∧ (reach l l.length [c] [c]).length = l.length := by
  cases l with
  | nil => simp [isHouse]
  | cons c r =>
    unfold isHouse
    have e1 : (c :: r).all Roof.within = true := List.all_eq_true.mpr hl
    have e2 : rising (c :: r) = true := (rising_iff _).mpr hr
    simp only [e1, e2, Bool.true_and, Bool.and_eq_true, decide_eq_true_iff, beq_iff_eq, Bool.not_eq_true']
    constructor
    · rintro ⟨h1, h2, h3⟩
      exact ⟨c, r, rfl, h1, h3, h2⟩
    · rintro ⟨c', r', e, h1, h3, h2⟩
      cases e
      exact ⟨h1, h2, h3⟩
def stepI (d : Nat) : Int := if d = 0 then 1 else if d = 1 then 256 else if d = 2 then -1 else -256
theorem stepI_inj {d e : Nat} (hd : d < 4) (he : e < 4) (h : stepI d = stepI e) : d = e := by
  rcases d_cases hd with rfl | rfl | rfl | rfl <;> rcases d_cases he with rfl | rfl | rfl | rfl <;> first | rfl | (simp [stepI] at h)
def cellFeet (ks : List Int) (m : Int) : List (Int × Int) :=
  (if m - 256 ∈ ks then [] else [(m, 1)]) ++ ((if m + 1 ∈ ks then [] else [(m + 1, 256)]) ++ ((if m + 256 ∈ ks then [] else [(m + 257, -1)]) ++ (if m - 1 ∈ ks then [] else [(m + 256, -256)])))
theorem cellFeet_mem {l : Cells} (hl : ∀ c ∈ l, Roof.within c = true) {c : Cell} (hc : c ∈ l) {x : Int × Int} : x ∈ cellFeet (l.map num) (num c) ↔ ∃ p d, d < 4 ∧ wallFoot l p d = true ∧ leftOf p d = some c ∧ x = (num p, stepI d) := by
  have h1 := (within_iff.mp (hl c hc)).1
  unfold cellFeet
  simp only [has_S hl h1, has_E hl h1, has_N hl h1, has_W hl h1, List.mem_append]
  have f0 : wallFoot l c 0 = true ↔ ¬ (0 < c.2 ∧ (c.1, c.2 - 1) ∈ l) := by
    rw [foot0]; simp [cNE, cSE, hc]
    constructor
    · rintro (h | h) h2
      · omega
      · exact h
    · intro h
      by_cases h2 : c.2 = 0
      · exact .inl h2
      · exact .inr (h (by omega))
  have f1 : wallFoot l (c.1 + 1, c.2) 1 = true ↔ ¬ (c.1 + 1, c.2) ∈ l := by
    rw [foot1]; simp [cNE, cNW, hc]
  have f2 : wallFoot l (c.1 + 1, c.2 + 1) 2 = true ↔ ¬ (c.1, c.2 + 1) ∈ l := by
    rw [foot2]; simp [cSW, cNW, hc]
  have f3 : wallFoot l (c.1, c.2 + 1) 3 = true ↔ ¬ (0 < c.1 ∧ (c.1 - 1, c.2) ∈ l) := by
    rw [foot3]; simp [cSW, cSE, hc]
    constructor
    · rintro (h | h) h2
      · omega
      · exact h
    · intro h
      by_cases h2 : c.1 = 0
      · exact .inl h2
      · exact .inr (h (by omega))
  constructor
  · rintro (h | h | h | h)
    · split at h
      · simp at h
      · rename_i hn
        simp at h
        exact ⟨c, 0, by omega, f0.mpr hn, by simp [leftOf], by rw [h]; rfl⟩
    · split at h
      · simp at h
      · rename_i hn
        simp at h
        exact ⟨_, 1, by omega, f1.mpr hn, by simp [leftOf], by rw [h]; simp [num, stepI]; omega⟩
    · split at h
      · simp at h
      · rename_i hn
        simp at h
        exact ⟨_, 2, by omega, f2.mpr hn, by simp [leftOf], by rw [h]; simp [num, stepI]; omega⟩
    · split at h
      · simp at h
      · rename_i hn
        simp at h
        exact ⟨_, 3, by omega, f3.mpr hn, by simp [leftOf], by rw [h]; simp [num, stepI]; omega⟩
  · rintro ⟨p, d, hd, hw, hlf, rfl⟩
    rcases d_cases hd with rfl | rfl | rfl | rfl
    · simp [leftOf] at hlf
      subst hlf
      left; rw [if_neg (f0.mp hw)]; simp [stepI]
    · simp [leftOf] at hlf
      obtain ⟨h2, rfl⟩ := hlf
      have e : p = (p.1 - 1 + 1, p.2) := Prod.ext (by simp; omega) rfl
      rw [e] at hw
      right; left; rw [if_neg (f1.mp hw)]; simp [stepI, num]; omega
    · simp [leftOf] at hlf
      obtain ⟨h2, rfl⟩ := hlf
      have e : p = (p.1 - 1 + 1, p.2 - 1 + 1) := Prod.ext (by simp; omega) (by simp; omega)
      rw [e] at hw
      right; right; left; rw [if_neg (f2.mp hw)]; simp [stepI, num]; omega
    · simp [leftOf] at hlf
      obtain ⟨h2, rfl⟩ := hlf
      have e : p = (p.1, p.2 - 1 + 1) := Prod.ext rfl (by simp; omega)
      rw [e] at hw
      right; right; right; rw [if_neg (f3.mp hw)]; simp [stepI, num]; omega
theorem allFeet_mem {l : Cells} (np : NoPinch l) (hl : ∀ c ∈ l, Roof.within c = true) {x : Int × Int} : x ∈ (l.map num).flatMap (cellFeet (l.map num)) ↔ ∃ p, isW l p ∧ x = (num p, stepI (dirAt l p)) := by
  rw [List.mem_flatMap]
  constructor
  · rintro ⟨m, hm, h⟩
    obtain ⟨c, hc, rfl⟩ := List.mem_map.mp hm
    obtain ⟨p, d, hd, hw, _, rfl⟩ := (cellFeet_mem hl hc).mp h
    have ho := outOf_of np hd hw
    exact ⟨p, ⟨d, ho⟩, by unfold dirAt; rw [ho]; rfl⟩
  · rintro ⟨p, hp, rfl⟩
    have hf := hp.foot
    have : ∃ c, leftOf p (dirAt l p) = some c ∧ c ∈ l := by
      unfold wallFoot isIn at hf
      cases e : leftOf p (dirAt l p) with
      | none => rw [e] at hf; simp at hf
      | some c => rw [e] at hf; simp at hf; exact ⟨c, rfl, hf.1⟩
    obtain ⟨c, hlf, hc⟩ := this
    exact ⟨num c, List.mem_map.mpr ⟨c, hc, rfl⟩, (cellFeet_mem hl hc).mpr ⟨p, _, hp.lt, hf, hlf, rfl⟩⟩
theorem allFeet_fun {l : Cells} (np : NoPinch l) (hl : ∀ c ∈ l, Roof.within c = true) {m v v' : Int} (h1 : (m, v) ∈ (l.map num).flatMap (cellFeet (l.map num))) (h2 : (m, v') ∈ (l.map num).flatMap (cellFeet (l.map num))) : v = v' := by
  obtain ⟨p, hp, e⟩ := (allFeet_mem np hl).mp h1
  obtain ⟨q, hq, e'⟩ := (allFeet_mem np hl).mp h2
  cases e
  injection e' with e1 e2
  have b1 := isW_bd hl hp
  have b2 := isW_bd hl hq
  have : p = q := num_inj (by have := b1.1; omega) (by have := b2.1; omega) e1
  subst this
  rw [e2]
theorem num_next {l : Cells} {p : Point} (h : isW l p) : num (nxt l p) = num p + stepI (dirAt l p) := by
  have hf := h.foot
  unfold nxt
  rcases d_cases h.lt with e | e | e | e
  · rw [e]; simp [stepped, num, stepI]; omega
  · rw [e]; simp [stepped, num, stepI]; omega
  · rw [e, foot2] at hf
    rw [e]; simp [cSW] at hf; simp [stepped, num, stepI]; omega
  · rw [e, foot3] at hf
    rw [e]; simp [cSE] at hf; simp [stepped, num, stepI]; omega
end Rp
namespace Rp
open Roof
theorem isHouse_np {l : Cells} (h : isHouse l = true) : NoPinch l := by
  apply noPinch_of
  unfold isHouse at h
  cases l with
  | nil => simp at h
  | cons c r =>
    simp only [Bool.and_eq_true, Bool.not_eq_true'] at h
    exact h.2.2.2.2
open Classical in
noncomputable def houseW (ws : List Walk) : Option Cells := if (∀ w ∈ ws, rightW w) ∧ isHouse (cellsIn ws) = true ∧ walksOf (cellsIn ws) = ws then some (cellsIn ws) else none
theorem houseOf_ok {t : Bytes} {ws : List Walk} (h : readWalks t = .ok ws) : houseOf t = houseW ws := by
  obtain ⟨h1, h2, _⟩ := readWalks_ok h
  unfold houseOf houseW
  rw [h]
  simp only
  by_cases hh : isHouse (cellsIn ws) = true
  · have np := isHouse_np hh
    have e : textOf (cellsIn ws) = t ↔ walksOf (cellsIn ws) = ws := by
      unfold textOf
      constructor
      · intro e
        rw [← h1] at e
        exact walks_inj _ _ (fun w hw => walk_bd np cellsIn_within hw) (fun w hw => (h2 w hw).1) e
      · intro e
        rw [e, h1]
    by_cases hw : walksOf (cellsIn ws) = ws
    · rw [if_pos ⟨hh, e.mpr hw⟩, if_pos ⟨fun w hm => walk_right np (by rw [hw]; exact hm), hh, hw⟩]
    · rw [if_neg (fun z => hw (e.mp z.2)), if_neg (fun z => hw z.2.2)]
  · rw [if_neg (fun z => hh z.1), if_neg (fun z => hh z.2.1)]
theorem houseOf_err {t : Bytes} {p : Nat} (h : readWalks t = .error p) : houseOf t = none := by
  unfold houseOf
  rw [h]
end Rp
namespace Rp
open Roof
def nth (w : Walk) (j : Nat) : Point := w.getD j (0, 0)
def prevOr (z : Point) (w : Walk) (j : Nat) : Point := if j = 0 then z else nth w (j - 1)
def prevAt (w : Walk) (j : Nat) : Point := prevOr (w.getLastD (0, 0)) w j
theorem prevOr_succ (z c : Point) (w : Walk) (j : Nat) : prevOr z (c :: w) (j + 1) = prevOr c w j := by
  unfold prevOr
  rw [if_neg (by omega)]
  cases j with
  | zero => rfl
  | succ j => rw [if_neg (by omega)]; rfl
theorem AL_iff : ∀ (w : Walk) (z : Point), AL z w ↔ ∀ j, j < w.length → Ali (prevOr z w j) (nth w j)
  | [], z => by simp [AL]
  | c :: w, z => by
    unfold AL
    rw [AL_iff w c]
    constructor
    · rintro ⟨h1, h2⟩ j hj
      cases j with
      | zero => exact h1
      | succ j => rw [prevOr_succ]; exact h2 j (by simpa using hj)
    · intro h
      refine ⟨h 0 (by simp), fun j hj => ?_⟩
      have := h (j + 1) (by simpa using hj)
      rw [prevOr_succ] at this
      exact this
theorem rightW_iff (w : Walk) : rightW w ↔ ∀ j, j < w.length → Ali (prevAt w j) (nth w j) := by
  unfold rightW prevAt
  cases hz : w.getLast? with
  | none =>
    have : w = [] := List.getLast?_eq_none_iff.mp hz
    subst this
    simp
  | some z =>
    have e : w.getLastD (0, 0) = z := by rw [List.getLastD_eq_getLast?, hz]; rfl
    rw [e]
    constructor
    · intro h; exact (AL_iff w z).mp (h z rfl)
    · intro h y hy; cases hy; exact (AL_iff w z).mpr h
theorem upsW_range : ∀ (w : Walk) (z : Point), upsW z w = (List.range w.length).flatMap fun j => upsSide (prevOr z w j) (nth w j)
  | [], z => rfl
  | c :: w, z => by
    rw [upsW, upsW_range w c, List.length_cons, List.range_succ_eq_map, List.flatMap_cons, List.flatMap_map]
    have e : (fun j => upsSide (prevOr c w j) (nth w j)) = fun j => upsSide (prevOr z (c :: w) (Nat.succ j)) (nth (c :: w) (Nat.succ j)) := by
      funext j
      rw [Nat.succ_eq_add_one, prevOr_succ]
      rfl
    rw [e]
    rfl
theorem upsOf_range (w : Walk) : upsOf w = (List.range w.length).flatMap fun j => upsSide (prevAt w j) (nth w j) := by
  unfold upsOf prevAt
  cases hz : w.getLast? with
  | none =>
    have : w = [] := List.getLast?_eq_none_iff.mp hz
    subst this
    rfl
  | some z =>
    have e : w.getLastD (0, 0) = z := by rw [List.getLastD_eq_getLast?, hz]; rfl
    rw [e]
    exact upsW_range w z
theorem nth_mem {w : Walk} {j : Nat} (h : j < w.length) : nth w j ∈ w := by
  unfold nth
  rw [List.getD_eq_getElem?_getD, List.getElem?_eq_getElem h]
  exact List.getElem_mem h
theorem prevAt_mem {w : Walk} {j : Nat} (h : j < w.length) : prevAt w j ∈ w := by
  unfold prevAt prevOr
  split
  · cases hz : w.getLast? with
    | none =>
      have : w = [] := List.getLast?_eq_none_iff.mp hz
      subst this; simp at h
    | some z =>
      rw [List.getLastD_eq_getLast?, hz]
      exact List.mem_of_getLast? hz
  · exact nth_mem (by omega)
theorem num_mod {q : Point} (h : q.1 < 256) : num q % 256 = (q.1 : Int) := by unfold num; omega
theorem num_div {q : Point} (h : q.1 < 256) : num q / 256 = (q.2 : Int) := by unfold num; omega
theorem upsSide_num {a b : Point} (ha : a.1 < 256) (hb : b.1 < 256) (h : a.1 = b.1) : (upsSide a b).map num = (List.range (max a.2 b.2 - min a.2 b.2)).map fun (i : Nat) => (min (num a) (num b)) + (i : Int) * 256 := by
  unfold upsSide
  rw [if_pos h, List.map_map]
  apply List.map_congr_left
  intro i _
  simp only [Function.comp, num]
  omega
theorem upsSide_none {a b : Point} (h : ¬ a.1 = b.1) : upsSide a b = [] := by unfold upsSide; rw [if_neg h]
theorem cover_take : ∀ (i : Nat) (us : List Int) (a b : Int), us[2 * i]? = some a → us[2 * i + 1]? = some b → cover (us.take (2 * (i + 1))) = cover (us.take (2 * i)) ++ span a b
  | 0, [], a, b, h, _ => by simp at h
  | 0, [x], a, b, _, h => by simp at h
  | 0, x :: y :: r, a, b, h1, h2 => by
    simp at h1 h2
    subst h1 h2
    simp [cover]
  | i + 1, [], a, b, h, _ => by simp at h
  | i + 1, [x], a, b, _, h => by simp at h
  | i + 1, x :: y :: r, a, b, h1, h2 => by
    have e1 : 2 * (i + 1 + 1) = 2 * (i + 1) + 1 + 1 := by omega
    have e2 : 2 * (i + 1) = 2 * i + 1 + 1 := by omega
    have h1' : r[2 * i]? = some a := by rw [e2] at h1; simpa using h1
    have h2' : r[2 * i + 1]? = some b := by rw [e2] at h2; simpa using h2
    have ih := cover_take i r a b h1' h2'
    rw [e1, List.take_succ_cons, List.take_succ_cons, cover, ih]
    conv => rhs; rw [e2, List.take_succ_cons, List.take_succ_cons, cover]
    rw [List.append_assoc]
theorem span_take (a b : Int) (j : Nat) (h : (j : Int) < b - a) : (span a b).take (j + 1) = (span a b).take j ++ [a + j] := by
  unfold span
  rw [← List.map_take, ← List.map_take, List.take_range, List.take_range]
  have e1 : min (j + 1) (b - a).toNat = j + 1 := by omega
  have e2 : min j (b - a).toNat = j := by omega
  rw [e1, e2, List.range_succ, List.map_append]
  rfl
theorem span_len (a b : Int) : (span a b).length = (b - a).toNat := by unfold span; simp
end Rp
namespace Rp
open Roof
structure KeysOf (ks : List Int) (l : Cells) : Prop where
  nd : ks.Nodup
  mem : ∀ m, m ∈ ks ↔ m ∈ l.map num
theorem num_nodup {l : Cells} (hl : ∀ c ∈ l, Roof.within c = true) (nd : l.Nodup) : (l.map num).Nodup := by
  unfold List.Nodup
  rw [List.pairwise_map]
  refine List.Pairwise.imp_of_mem (fun {a b} ha hb hab e => hab ?_) nd
  have ea := within_iff.mp (hl a ha)
  have eb := within_iff.mp (hl b hb)
  exact num_inj (by omega) (by omega) e
theorem KeysOf.len {ks : List Int} {l : Cells} (h : KeysOf ks l) (hl : ∀ c ∈ l, Roof.within c = true) (hr : Rise l) : ks.length = l.length := by
  rw [← List.length_map (f := num) (as := l)]
  apply Nat.le_antisymm
  · exact nodup_sub_len _ _ h.nd fun m hm => (h.mem m).mp hm
  · exact nodup_sub_len _ _ (num_nodup hl (rise_nodup hr)) fun m hm => (h.mem m).mpr hm
theorem KeysOf.self {l : Cells} (hl : ∀ c ∈ l, Roof.within c = true) (hr : Rise l) : KeysOf (l.map num) l := ⟨num_nodup hl (rise_nodup hr), fun _ => Iff.rfl⟩
theorem meetAt_keys {ks : List Int} {l : Cells} (h : KeysOf ks l) (m : Int) : meetAt ks m ↔ meetAt (l.map num) m := by
  unfold meetAt
  simp only [h.mem]
theorem meet_keys {ks : List Int} {l : Cells} (h : KeysOf ks l) (hl : ∀ c ∈ l, Roof.within c = true) : pinched l = true ↔ ∃ m ∈ ks, meetAt ks m := by
  rw [meet_iff hl]
  constructor
  · rintro ⟨m, h1, h2⟩; exact ⟨m, (h.mem m).mpr h1, (meetAt_keys h m).mpr h2⟩
  · rintro ⟨m, h1, h2⟩; exact ⟨m, (h.mem m).mp h1, (meetAt_keys h m).mp h2⟩
theorem cellFeet_keys {ks : List Int} {l : Cells} (h : KeysOf ks l) (m : Int) : cellFeet ks m = cellFeet (l.map num) m := by
  unfold cellFeet
  simp only [h.mem]
theorem allFeet_keys {ks : List Int} {l : Cells} (h : KeysOf ks l) {x : Int × Int} : x ∈ ks.flatMap (cellFeet ks) ↔ x ∈ (l.map num).flatMap (cellFeet (l.map num)) := by
  rw [List.mem_flatMap, List.mem_flatMap]
  constructor
  · rintro ⟨m, h1, h2⟩; exact ⟨m, (h.mem m).mp h1, by rw [← cellFeet_keys h]; exact h2⟩
  · rintro ⟨m, h1, h2⟩; exact ⟨m, (h.mem m).mpr h1, by rw [cellFeet_keys h]; exact h2⟩
inductive ConI (ks : List Int) (c : Int) : Int → Prop
  | base : ConI ks c c
  | step {x y : Int} : ConI ks c x → y ∈ nb x → y ∈ ks → ConI ks c y
theorem conI_mem {ks : List Int} {c : Int} (hc : c ∈ ks) {x : Int} (h : ConI ks c x) : x ∈ ks := by
  cases h with
  | base => exact hc
  | step _ _ hy => exact hy
theorem conI_num {ks : List Int} {l : Cells} (h : KeysOf ks l) (hl : ∀ c ∈ l, Roof.within c = true) {c : Cell} (hc : c ∈ l) (m : Int) : ConI ks (num c) m ↔ ∃ x, Con l c x ∧ m = num x := by
  constructor
  · intro hm
    induction hm with
    | base => exact ⟨c, .base, rfl⟩
    | @step x y _ hb hy ih =>
      obtain ⟨z, hz, rfl⟩ := ih
      have hzl := con_mem hc hz
      obtain ⟨u, h1, h2, h3⟩ := (nb_beside hl (within_iff.mp (hl z hzl)).1).mp ⟨hb, (h.mem y).mp hy⟩
      exact ⟨u, .step hz h1 h2, h3⟩
  · rintro ⟨x, hx, rfl⟩
    induction hx with
    | base => exact .base
    | @step x y hx hb hy ih =>
      have hxl := con_mem hc hx
      obtain ⟨h3, h4⟩ := (nb_beside hl (within_iff.mp (hl x hxl)).1 (m := num y)).mpr ⟨y, hb, hy, rfl⟩
      exact .step ih h3 ((h.mem _).mpr h4)
theorem reach_keys {ks : List Int} {l : Cells} (h : KeysOf ks l) (hl : ∀ c ∈ l, Roof.within c = true) (hr : Rise l) {c : Cell} (hc : c ∈ l) {R : List Int} (nd : R.Nodup) (hR : ∀ m, m ∈ R ↔ ConI ks (num c) m) : R.length = (reach l l.length [c] [c]).length := by
  refine reach_len hl hr hc nd ((hR _).mpr .base) (fun m hm => (conI_num h hl hc m).mp ((hR m).mp hm)) fun m hm k hk hkl => ?_
  exact (hR k).mpr (.step ((hR m).mp hm) hk ((h.mem k).mpr hkl))
def step1 (ks : List Int) (s : List Int × List Int) (b : Int) : List Int × List Int := if b ∈ ks ∧ b ∉ s.1 then (s.1 ++ [b], s.2 ++ [b]) else s
structure DInv (ks : List Int) (c : Int) (R Wt : List Int) : Prop where
  nd : R.Nodup
  c0 : c ∈ R
  con : ∀ m ∈ R, ConI ks c m
  sub : ∀ m ∈ Wt, m ∈ R
  clo : ∀ m ∈ R, m ∈ Wt ∨ ∀ k ∈ nb m, k ∈ ks → k ∈ R
structure DIn2 (ks : List Int) (c : Int) (x : Int) (done : List Int) (M : Nat) (R Wt : List Int) : Prop where
  nd : R.Nodup
  c0 : c ∈ R
  xR : x ∈ R
  con : ∀ m ∈ R, ConI ks c m
  sub : ∀ m ∈ Wt, m ∈ R
  clo : ∀ m ∈ R, m ∈ Wt ∨ m = x ∨ ∀ k ∈ nb m, k ∈ ks → k ∈ R
  don : ∀ k ∈ done, k ∈ ks → k ∈ R
  mea : 2 * (ks.length - R.length) + Wt.length ≤ M
theorem con_len {ks : List Int} {c : Int} (hc : c ∈ ks) {R : List Int} (nd : R.Nodup) (con : ∀ m ∈ R, ConI ks c m) : R.length ≤ ks.length :=
  nodup_sub_len R ks nd fun m hm => conI_mem hc (con m hm)
theorem DIn2.step {ks : List Int} {c : Int} (hc : c ∈ ks) {x : Int} {done : List Int} {M : Nat} {R Wt : List Int} (h : DIn2 ks c x done M R Wt) {b : Int} (hb : b ∈ nb x) :
    DIn2 ks c x (done ++ [b]) M (step1 ks (R, Wt) b).1 (step1 ks (R, Wt) b).2 := by
  unfold step1
  by_cases hh : b ∈ ks ∧ b ∉ R
  · simp only [hh, and_self, not_false_eq_true, if_true]
    have hcz : ConI ks c b := .step (h.con x h.xR) hb hh.1
    have nd2 : (R ++ [b]).Nodup := List.nodup_append.mpr ⟨h.nd, by simp, fun a ha y hy e => by
      have : y = b := by simpa using hy
      subst this; subst e; exact hh.2 ha⟩
    have con2 : ∀ m ∈ R ++ [b], ConI ks c m := fun m hm => by
      rcases List.mem_append.mp hm with hm | hm
      · exact h.con m hm
      · have : m = b := by simpa using hm
        rw [this]; exact hcz
    have len2 := con_len hc nd2 con2
    rw [List.length_append] at len2
    simp at len2
    refine ⟨nd2, List.mem_append.mpr (.inl h.c0), List.mem_append.mpr (.inl h.xR), con2, fun m hm => ?_, fun m hm => ?_, fun k hk hkl => ?_, ?_⟩
    · rcases List.mem_append.mp hm with hm | hm
      · exact List.mem_append.mpr (.inl (h.sub m hm))
      · exact List.mem_append.mpr (.inr hm)
    · rcases List.mem_append.mp hm with hm | hm
      · rcases h.clo m hm with h1 | h1 | h1
        · exact .inl (List.mem_append.mpr (.inl h1))
        · exact .inr (.inl h1)
        · exact .inr (.inr fun k hk hkl => List.mem_append.mpr (.inl (h1 k hk hkl)))
      · exact .inl (List.mem_append.mpr (.inr hm))
    · rcases List.mem_append.mp hk with hk | hk
      · exact List.mem_append.mpr (.inl (h.don k hk hkl))
      · exact List.mem_append.mpr (.inr hk)
    · have := h.mea
      simp only [List.length_append, List.length_cons, List.length_nil]
      omega
  · simp only [hh, if_false]
    refine ⟨h.nd, h.c0, h.xR, h.con, h.sub, h.clo, fun k hk hkl => ?_, h.mea⟩
    rcases List.mem_append.mp hk with hk | hk
    · exact h.don k hk hkl
    · have : k = b := by simpa using hk
      subst this
      by_cases hR : k ∈ R
      · exact hR
      · exact absurd ⟨hkl, hR⟩ hh
theorem DInv.open_ {ks : List Int} {c : Int} {R Wt : List Int} {x : Int} (h : DInv ks c R (Wt ++ [x])) : DIn2 ks c x [] (2 * (ks.length - R.length) + Wt.length) R Wt := by
  refine ⟨h.nd, h.c0, h.sub x (by simp), h.con, fun m hm => h.sub m (List.mem_append.mpr (.inl hm)), fun m hm => ?_, fun k hk => (by cases hk), Nat.le_refl _⟩
  rcases h.clo m hm with h1 | h1
  · rcases List.mem_append.mp h1 with h1 | h1
    · exact .inl h1
    · exact .inr (.inl (by simpa using h1))
  · exact .inr (.inr h1)
theorem DIn2.close {ks : List Int} {c : Int} {R Wt : List Int} {x : Int} {M : Nat} (h : DIn2 ks c x (nb x) M R Wt) : DInv ks c R Wt := by
  refine ⟨h.nd, h.c0, h.con, h.sub, fun m hm => ?_⟩
  rcases h.clo m hm with h1 | h1 | h1
  · exact .inl h1
  · right
    intro k hk hkl
    rw [h1] at hk
    exact h.don k hk hkl
  · exact .inr h1
theorem DInv.start (ks : List Int) (c : Int) : DInv ks c [c] [c] :=
  ⟨by simp, by simp, fun m hm => by have : m = c := by simpa using hm
                                    rw [this]; exact .base, fun m hm => hm, fun m hm => .inl hm⟩
theorem DInv.fin {ks : List Int} {c : Int} {R : List Int} (h : DInv ks c R []) : ∀ m, m ∈ R ↔ ConI ks c m := fun m => by
  constructor
  · exact h.con m
  · intro hm
    induction hm with
    | base => exact h.c0
    | @step x y _ hb hy ih =>
      rcases h.clo x ih with h1 | h1
      · cases h1
      · exact h1 y hb hy
theorem rise_min {c : Cell} {r : Cells} {ks : List Int} (hl : ∀ x ∈ c :: r, Roof.within x = true) (hr : Rise (c :: r)) (hk : KeysOf ks (c :: r)) {m : Int} (hm : m ∈ ks) (hmin : ∀ y ∈ ks, m ≤ y) : m = num c := by
  have h1 := hmin (num c) ((hk.mem _).mpr (by simp))
  have h2 : RiseI ((c :: r).map num) := num_rise hr fun p hp => by have := (within_iff.mp (hl p hp)).1; omega
  rw [hk.mem, List.map_cons] at hm
  rw [List.map_cons] at h2
  rcases List.mem_cons.mp hm with e | e
  · exact e
  · have := List.rel_of_pairwise_cons h2 e
    omega
end Rp
namespace Rp
open Roof
def pd (d : Nat) (f : List Foot) (i : Nat) : Nat := if i = 0 then d else (f.getD (i - 1) ((0, 0), 0)).2
theorem turns_take : ∀ (f : List Foot) (d i : Nat) (x : Foot), f[i]? = some x → turns d (f.take (i + 1)) = turns d (f.take i) ++ (if x.2 = pd d f i then [] else [x.1])
  | [], d, i, x, h => by simp at h
  | y :: r, d, 0, x, h => by
    simp at h
    subst h
    simp only [pd, if_true, List.take_succ_cons, List.take_zero, turns, List.nil_append]
  | y :: r, d, i + 1, x, h => by
    have ih := turns_take r y.2 i x (by simpa using h)
    have e : pd d (y :: r) (i + 1) = pd y.2 r i := by
      unfold pd
      rw [if_neg (by omega)]
      cases i with
      | zero => rfl
      | succ i => rw [if_neg (by omega)]; rfl
    rw [List.take_succ_cons, List.take_succ_cons, e]
    simp only [turns]
    rw [ih]
    split
    · rfl
    · rfl
def ptsN (l : Cells) (p : Point) (n : Nat) : Walk := (List.range n).map fun i => it l i p
def footN (l : Cells) (p : Point) (n : Nat) : List Foot := (List.range n).map fun i => (it l i p, dirAt l (it l i p))
theorem footN_fst (l : Cells) (p : Point) (n : Nat) : (footN l p n).map (·.1) = ptsN l p n := by unfold footN ptsN; rw [List.map_map]; rfl
theorem footN_at (l : Cells) (p : Point) {n i : Nat} (h : i < n) : (footN l p n)[i]? = some (it l i p, dirAt l (it l i p)) := by
  unfold footN; rw [List.getElem?_map, List.getElem?_range h]; rfl
theorem ptsN_nth (l : Cells) (p : Point) {n i : Nat} (h : i < n) : nth (ptsN l p n) i = it l i p := by
  unfold nth ptsN; rw [List.getD_eq_getElem?_getD, List.getElem?_map, List.getElem?_range h]; rfl
theorem ptsN_len (l : Cells) (p : Point) (n : Nat) : (ptsN l p n).length = n := by unfold ptsN; simp
theorem footN_last (l : Cells) (p : Point) {n : Nat} (h : 0 < n) : (footN l p n).getLast? = some (it l (n - 1) p, dirAt l (it l (n - 1) p)) := by
  obtain ⟨m, rfl⟩ : ∃ m, n = m + 1 := ⟨n - 1, by omega⟩
  unfold footN
  rw [List.range_succ, List.map_append]
  simp
theorem ptsN_prev (l : Cells) (p : Point) {n k : Nat} (h : k < n) : prevAt (ptsN l p n) k = it l (if k = 0 then n - 1 else k - 1) p := by
  unfold prevAt prevOr
  split
  · rename_i h0
    have e : (ptsN l p n).getLast? = some (it l (n - 1) p) := by
      rw [← footN_fst, List.getLast?_map, footN_last l p (by omega)]; rfl
    rw [List.getLastD_eq_getLast?, e]
    rfl
  · exact ptsN_nth l p (by omega)
theorem pd_prev (l : Cells) (p : Point) {n k : Nat} (h : k < n) : pd (dirAt l (it l (n - 1) p)) (footN l p n) k = dirAt l (prevAt (ptsN l p n) k) := by
  rw [ptsN_prev l p h]
  unfold pd
  split
  · rfl
  · rw [List.getD_eq_getElem?_getD, footN_at l p (by omega)]
    rfl
theorem corners_footN (l : Cells) (p : Point) {n : Nat} (h : 0 < n) : cornersOf (footN l p n) = turns (dirAt l (it l (n - 1) p)) (footN l p n) := by
  unfold cornersOf
  rw [footN_last l p h]
theorem turns_len : ∀ (f : List Foot) (d : Nat), (turns d f).length ≤ f.length
  | [], d => by simp [turns]
  | x :: r, d => by
    have := turns_len r x.2
    unfold turns
    split <;> simp <;> omega
end Rp
namespace Rp
open Roof
def inZ (l : Cells) (i j : Int) : Prop := 0 ≤ i ∧ 0 ≤ j ∧ ((i / 2).toNat, (j / 2).toNat) ∈ l
def Sq (l : Cells) (i j : Int) (k : Nat) : Prop := ∀ a b : Int, -(k : Int) ≤ a → a ≤ k → -(k : Int) ≤ b → b ≤ k → inZ l (i + a) (j + b)
theorem inZ_bd {l : Cells} (hl : ∀ c ∈ l, Roof.within c = true) {i j : Int} (h : inZ l i j) : 0 ≤ i ∧ i ≤ 127 ∧ 0 ≤ j ∧ j ≤ 127 := by
  obtain ⟨h1, h2, h3⟩ := h
  have := within_iff.mp (hl _ h3)
  simp only at this
  omega
theorem Sq_zero {l : Cells} {i j : Int} : Sq l i j 0 ↔ inZ l i j := by
  constructor
  · intro h
    have := h 0 0 (by simp) (by simp) (by simp) (by simp)
    simpa using this
  · intro h a b h1 h2 h3 h4
    have ea : a = 0 := by simp at h1 h2; omega
    have eb : b = 0 := by simp at h3 h4; omega
    subst ea eb
    simpa using h
theorem Sq_mono {l : Cells} {i j : Int} {k m : Nat} (h : Sq l i j m) (hk : k ≤ m) : Sq l i j k := fun a b h1 h2 h3 h4 => h a b (by omega) (by omega) (by omega) (by omega)
theorem Sq_succ {l : Cells} {i j : Int} {k : Nat} : Sq l i j (k + 1) ↔ ∀ a b : Int, -1 ≤ a → a ≤ 1 → -1 ≤ b → b ≤ 1 → Sq l (i + a) (j + b) k := by
  constructor
  · intro h a b h1 h2 h3 h4 c d h5 h6 h7 h8
    have := h (a + c) (b + d) (by push_cast; omega) (by push_cast; omega) (by push_cast; omega) (by push_cast; omega)
    rw [show i + a + c = i + (a + c) by omega, show j + b + d = j + (b + d) by omega]
    exact this
  · intro h c d h5 h6 h7 h8
    push_cast at h5 h6 h7 h8
    have key : ∀ x : Int, -((k : Int) + 1) ≤ x → x ≤ (k : Int) + 1 → ∃ a, -1 ≤ a ∧ a ≤ 1 ∧ -(k : Int) ≤ x - a ∧ x - a ≤ k := by
      intro x hx1 hx2
      by_cases h9 : x = (k : Int) + 1
      · exact ⟨1, by omega, by omega, by omega, by omega⟩
      · by_cases h10 : x = -((k : Int) + 1)
        · exact ⟨-1, by omega, by omega, by omega, by omega⟩
        · exact ⟨0, by omega, by omega, by omega, by omega⟩
    obtain ⟨a, a1, a2, a3, a4⟩ := key c h5 h6
    obtain ⟨b, b1, b2, b3, b4⟩ := key d h7 h8
    have := h a b a1 a2 b1 b2 (c - a) (d - b) a3 a4 b3 b4
    rw [show i + a + (c - a) = i + c by omega, show j + b + (d - b) = j + d by omega] at this
    exact this
theorem W_eq : W = 130 := rfl
theorem halves_mem {l : Cells} {r : Nat} : r ∈ halvesOf l ↔ ∃ i j : Nat, (i / 2, j / 2) ∈ l ∧ r = raw i j := by
  unfold halvesOf
  rw [(List.mergeSort_perm _ _).mem_iff, List.mem_flatMap]
  constructor
  · rintro ⟨c, hc, h⟩
    simp only [List.mem_cons, List.not_mem_nil, or_false] at h
    rcases h with rfl | rfl | rfl | rfl
    · exact ⟨_, _, by rw [show 2 * c.1 / 2 = c.1 by omega, show 2 * c.2 / 2 = c.2 by omega]; exact hc, rfl⟩
    · exact ⟨_, _, by rw [show (2 * c.1 + 1) / 2 = c.1 by omega, show 2 * c.2 / 2 = c.2 by omega]; exact hc, rfl⟩
    · exact ⟨_, _, by rw [show 2 * c.1 / 2 = c.1 by omega, show (2 * c.2 + 1) / 2 = c.2 by omega]; exact hc, rfl⟩
    · exact ⟨_, _, by rw [show (2 * c.1 + 1) / 2 = c.1 by omega, show (2 * c.2 + 1) / 2 = c.2 by omega]; exact hc, rfl⟩
  · rintro ⟨i, j, hc, rfl⟩
    refine ⟨_, hc, ?_⟩
    simp only [List.mem_cons, List.not_mem_nil, or_false, raw, W_eq]
    omega
theorem halves_at {l : Cells} (hl : ∀ c ∈ l, Roof.within c = true) {i j : Int} {q : Nat} (h1 : -1 ≤ i) (h2 : i ≤ 128) (h3 : -1 ≤ j) (hq : (q : Int) = 130 * (j + 1) + (i + 1)) : q ∈ halvesOf l ↔ inZ l i j := by
  rw [halves_mem]
  constructor
  · rintro ⟨a, b, hm, rfl⟩
    have := within_iff.mp (hl _ hm)
    simp only [raw, W_eq] at hq this
    push_cast at hq
    have ei : i = a := by omega
    have ej : j = b := by omega
    subst ei ej
    refine ⟨by omega, by omega, ?_⟩
    have e1 : ((a : Int) / 2).toNat = a / 2 := by omega
    have e2 : ((b : Int) / 2).toNat = b / 2 := by omega
    rw [e1, e2]
    exact hm
  · intro h
    obtain ⟨h4, h5, hm⟩ := h
    refine ⟨i.toNat, j.toNat, ?_, ?_⟩
    · have e1 : (i / 2).toNat = i.toNat / 2 := by omega
      have e2 : (j / 2).toNat = j.toNat / 2 := by omega
      rw [← e1, ← e2]; exact hm
    · simp only [raw, W_eq]; omega
def Dp (h : List Nat) : Nat → Nat → Prop
  | 0, r => r ∈ h
  | k + 1, r => Dp h k r ∧ ∀ q ∈ about r, Dp h k q
theorem Dp_mono {h : List Nat} {r : Nat} : ∀ {k m : Nat}, Dp h m r → k ≤ m → Dp h k r := by
  intro k m
  induction m with
  | zero => intro h1 h2; have : k = 0 := by omega
            subst this; exact h1
  | succ m ih =>
    intro h1 h2
    by_cases e : k = m + 1
    · subst e; exact h1
    · exact ih h1.1 (by omega)
theorem put_val : ∀ (l : List Nat) (g : Grid) (k r : Nat), (put g k l).size = g.size ∧ (put g k l).val r = if r ∈ l ∧ r < g.size then k else g.val r
  | [], g, k, r => by simp [put]
  | a :: l, g, k, r => by
    have ih := put_val l (g.setIfInBounds a k) k r
    have e : put g k (a :: l) = put (g.setIfInBounds a k) k l := rfl
    rw [e, ih.1, ih.2, Array.size_setIfInBounds]
    refine ⟨rfl, ?_⟩
    have hv : Grid.val (g.setIfInBounds a k) r = if r = a ∧ r < g.size then k else g.val r := by
      unfold Grid.val
      rw [Array.getD_eq_getD_getElem?, Array.getElem?_setIfInBounds, Array.getD_eq_getD_getElem?]
      by_cases h1 : a = r
      · subst h1
        by_cases h2 : a < g.size
        · simp [h2]
        · simp [h2]
      · rw [if_neg h1, if_neg (fun z => h1 z.1.symm)]
    rw [hv]
    by_cases h1 : r ∈ l ∧ r < g.size
    · rw [if_pos h1, if_pos ⟨List.mem_cons_of_mem _ h1.1, h1.2⟩]
    · rw [if_neg h1]
      by_cases h2 : r = a ∧ r < g.size
      · rw [if_pos h2, if_pos ⟨by rw [h2.1]; simp, h2.2⟩]
      · rw [if_neg h2, if_neg]
        rintro ⟨h3, h4⟩
        rcases List.mem_cons.mp h3 with h5 | h5
        · exact h2 ⟨h5, h4⟩
        · exact h1 ⟨h5, h4⟩
structure SinkOk (h : List Nat) (k : Nat) (l : List Nat) (g : Grid) : Prop where
  size : ∀ r ∈ h, r < g.size
  val : ∀ r j, j < k → (j < g.val r ↔ Dp h j r)
  le : ∀ r, g.val r ≤ k
  mem : ∀ r, r ∈ l ↔ Dp h (k - 1) r
  pos : 0 < k
theorem Dp_in {h : List Nat} {k r : Nat} (d : Dp h k r) : r ∈ h := Dp_mono (k := 0) d (Nat.zero_le _)
theorem sink_ok {h : List Nat} (hb : ∀ r, ¬ Dp h 128 r) : ∀ (f k : Nat) (l : List Nat) (g : Grid), SinkOk h k l g → 128 ≤ f + k → ∀ r j, j < (sink f k l g).val r ↔ Dp h j r
  | 0, k, l, g, ok, hf, r, j => by
    show j < g.val r ↔ _
    by_cases hj : j < k
    · exact ok.val r j hj
    · constructor
      · intro z; have := ok.le r; omega
      · intro z; exact absurd (Dp_mono z (show 128 ≤ j by omega)) (hb r)
  | f + 1, k, l, g, ok, hf, r, j => by
    have hp := ok.pos
    unfold sink
    simp only
    generalize hn : (l.filter fun r => (about r).all fun q => decide (k ≤ g.val q)) = next
    have mem : ∀ r, r ∈ next ↔ Dp h k r := by
      intro r
      rw [← hn, List.mem_filter, ok.mem, List.all_eq_true]
      obtain ⟨m, rfl⟩ : ∃ m, k = m + 1 := ⟨k - 1, by omega⟩
      simp only [Nat.add_sub_cancel, decide_eq_true_eq]
      constructor
      · rintro ⟨h1, h2⟩
        exact ⟨h1, fun q hq => (ok.val q m (by omega)).mp (h2 q hq)⟩
      · rintro ⟨h1, h2⟩
        exact ⟨h1, fun q hq => (ok.val q m (by omega)).mpr (h2 q hq)⟩
    split
    · rename_i he
      have he' : next = [] := List.isEmpty_iff.mp he
      by_cases hj : j < k
      · exact ok.val r j hj
      · constructor
        · intro z; have := ok.le r; omega
        · intro z
          have := (mem r).mpr (Dp_mono z (by omega))
          rw [he'] at this; cases this
    · have hv : ∀ r, (put g (k + 1) next).val r = if r ∈ next then k + 1 else g.val r := by
        intro r
        rw [(put_val next g (k + 1) r).2]
        by_cases h1 : r ∈ next
        · rw [if_pos h1, if_pos ⟨h1, ok.size r (Dp_in ((mem r).mp h1))⟩]
        · rw [if_neg h1, if_neg (fun z => h1 z.1)]
      refine sink_ok hb f (k + 1) next (put g (k + 1) next) ⟨?_, ?_, ?_, ?_, by omega⟩ (by omega) r j
      · intro r hr; rw [(put_val next g (k + 1) r).1]; exact ok.size r hr
      · intro r j hj
        rw [hv]
        by_cases h1 : r ∈ next
        · rw [if_pos h1]
          exact ⟨fun _ => Dp_mono ((mem r).mp h1) (by omega), fun _ => hj⟩
        · rw [if_neg h1]
          by_cases h2 : j < k
          · exact ok.val r j h2
          · have e : j = k := by omega
            subst e
            constructor
            · intro z; have := ok.le r; omega
            · intro z; exact absurd ((mem r).mpr z) h1
      · intro r
        rw [hv]
        split
        · omega
        · have := ok.le r; omega
      · intro r; rw [mem]; simp
theorem Dp_Sq {l : Cells} (hl : ∀ c ∈ l, Roof.within c = true) : ∀ (k : Nat) (i j : Int) (q : Nat), -1 ≤ i → i ≤ 128 → -1 ≤ j → (q : Int) = 130 * (j + 1) + (i + 1) → (Dp (halvesOf l) k q ↔ Sq l i j k)
  | 0, i, j, q, h1, h2, h3, hq => by
    rw [Sq_zero]
    exact halves_at hl h1 h2 h3 hq
  | k + 1, i, j, q, h1, h2, h3, hq => by
    rw [Sq_succ]
    constructor
    · rintro ⟨h4, h5⟩ a b a1 a2 b1 b2
      have hz := inZ_bd hl ((halves_at hl h1 h2 h3 hq).mp (Dp_in h4))
      by_cases h0 : a = 0 ∧ b = 0
      · rw [h0.1, h0.2, Int.add_zero, Int.add_zero]
        exact (Dp_Sq hl k i j q h1 h2 h3 hq).mp h4
      · have hm : (q + 130 * (b + 1).toNat + (a + 1).toNat - 131) ∈ about q := by
          simp only [about, W_eq, List.mem_cons, List.not_mem_nil, or_false]
          have : a = -1 ∨ a = 0 ∨ a = 1 := by omega
          have : b = -1 ∨ b = 0 ∨ b = 1 := by omega
          rcases ‹a = -1 ∨ a = 0 ∨ a = 1› with rfl | rfl | rfl <;> rcases ‹b = -1 ∨ b = 0 ∨ b = 1› with rfl | rfl | rfl <;> simp at * <;> omega
        exact (Dp_Sq hl k (i + a) (j + b) _ (by omega) (by omega) (by omega) (by omega)).mp (h5 _ hm)
    · intro h
      have h0 := h 0 0 (by omega) (by omega) (by omega) (by omega)
      rw [Int.add_zero, Int.add_zero] at h0
      have hz := inZ_bd hl (Sq_zero.mp (Sq_mono h0 (Nat.zero_le _)))
      refine ⟨(Dp_Sq hl k i j q h1 h2 h3 hq).mpr h0, fun r hr => ?_⟩
      simp only [about, W_eq, List.mem_cons, List.not_mem_nil, or_false] at hr
      have go : ∀ a b : Int, -1 ≤ a → a ≤ 1 → -1 ≤ b → b ≤ 1 → (r : Int) = q + 130 * b + a → Dp (halvesOf l) k r := fun a b a1 a2 b1 b2 e =>
        (Dp_Sq hl k (i + a) (j + b) r (by omega) (by omega) (by omega) (by omega)).mpr (h a b a1 a2 b1 b2)
      rcases hr with e | e | e | e | e | e | e | e
      · exact go (-1) (-1) (by omega) (by omega) (by omega) (by omega) (by omega)
      · exact go 0 (-1) (by omega) (by omega) (by omega) (by omega) (by omega)
      · exact go 1 (-1) (by omega) (by omega) (by omega) (by omega) (by omega)
      · exact go (-1) 0 (by omega) (by omega) (by omega) (by omega) (by omega)
      · exact go 1 0 (by omega) (by omega) (by omega) (by omega) (by omega)
      · exact go (-1) 1 (by omega) (by omega) (by omega) (by omega) (by omega)
      · exact go 0 1 (by omega) (by omega) (by omega) (by omega) (by omega)
      · exact go 1 1 (by omega) (by omega) (by omega) (by omega) (by omega)
theorem half_raw {l : Cells} (hl : ∀ c ∈ l, Roof.within c = true) {r : Nat} (h : r ∈ halvesOf l) : ∃ i j : Nat, i < 128 ∧ j < 128 ∧ r = raw i j ∧ (r : Int) = 130 * ((j : Int) + 1) + ((i : Int) + 1) := by
  obtain ⟨i, j, hm, rfl⟩ := halves_mem.mp h
  have := within_iff.mp (hl _ hm)
  simp only at this
  refine ⟨i, j, by omega, by omega, rfl, by simp only [raw, W_eq]; omega⟩
theorem grid_all {l : Cells} (hl : ∀ c ∈ l, Roof.within c = true) (r k : Nat) : k < (gridOf (halvesOf l)).val r ↔ Dp (halvesOf l) k r := by
  unfold gridOf
  have hv := put_val (halvesOf l) (Array.replicate (W * W) 0) 1
  have hz : ∀ r, Grid.val (Array.replicate (W * W) 0) r = 0 := by
    intro r
    unfold Grid.val
    rw [Array.getD_eq_getD_getElem?, Array.getElem?_replicate]
    split <;> rfl
  have hs : ∀ r ∈ halvesOf l, r < (Array.replicate (W * W) (0 : Nat)).size := by
    intro r hr
    obtain ⟨i, j, h1, h2, _, h3⟩ := half_raw hl hr
    rw [Array.size_replicate, W_eq]
    omega
  refine sink_ok ?_ _ 1 _ _ ⟨?_, ?_, ?_, ?_, by omega⟩ (by show 128 ≤ HALVES + 1; decide) r k
  · intro r d
    obtain ⟨i, j, h1, h2, _, h3⟩ := half_raw hl (Dp_in d)
    have := (Dp_Sq hl 128 i j r (by omega) (by omega) (by omega) h3).mp d
    have := inZ_bd hl (this 128 0 (by simp) (by simp) (by simp) (by simp))
    omega
  · intro r hr; rw [(hv r).1]; exact hs r hr
  · intro r j hj
    have e : j = 0 := by omega
    subst e
    rw [(hv r).2, hz]
    show _ ↔ r ∈ halvesOf l
    by_cases h1 : r ∈ halvesOf l
    · rw [if_pos ⟨h1, hs r h1⟩]; simp [h1]
    · rw [if_neg (fun z => h1 z.1)]; simp [h1]
  · intro r
    rw [(hv r).2, hz]
    split <;> omega
  · intro r; exact Iff.rfl
theorem grid_val {l : Cells} (hl : ∀ c ∈ l, Roof.within c = true) {i j : Int} {q : Nat} (k : Nat) (h1 : -1 ≤ i) (h2 : i ≤ 128) (h3 : -1 ≤ j) (hq : (q : Int) = 130 * (j + 1) + (i + 1)) : k < (gridOf (halvesOf l)).val q ↔ Sq l i j k := by
  rw [grid_all hl]
  exact Dp_Sq hl k i j q h1 h2 h3 hq
end Rp
namespace Rp
open Roof
structure HalfK (hs : List Int) (l : Cells) : Prop where
  nd : hs.Nodup
  mem : ∀ m, m ∈ hs ↔ ∃ i j : Int, inZ l i j ∧ m = j * 256 + i
theorem HalfK.at_ {hs : List Int} {l : Cells} (h : HalfK hs l) (hl : ∀ c ∈ l, Roof.within c = true) {i j m : Int} (h1 : -64 ≤ i) (h2 : i < 192) (hm : m = j * 256 + i) : m ∈ hs ↔ inZ l i j := by
  rw [h.mem]
  constructor
  · rintro ⟨a, b, hz, e⟩
    have := inZ_bd hl hz
    have e1 : a = i := by omega
    have e2 : b = j := by omega
    rw [← e1, ← e2]; exact hz
  · intro hz; exact ⟨i, j, hz, hm⟩
def SqR (l : Cells) (x y : Int) (n : Nat) : Prop := ∀ a b : Int, 0 ≤ a → a < n → 0 ≤ b → b < n → inZ l (x + a) (y + b)
def bordAt (hs : List Int) (least : Int) (side : Nat) (s : Nat) : Prop := least + (s : Int) ∈ hs ∧ least + ((side : Int) - 1) * 256 + s ∈ hs ∧ least + (s : Int) * 256 ∈ hs ∧ least + (s : Int) * 256 + ((side : Int) - 1) ∈ hs
def Bord (hs : List Int) (least : Int) (side : Nat) : Prop := ∀ s, s < side → bordAt hs least side s
theorem SqR_grow {hs : List Int} {l : Cells} (h : HalfK hs l) (hl : ∀ c ∈ l, Roof.within c = true) {x y : Int} {n : Nat} (hx : 0 ≤ x) (hx2 : x + n ≤ 128) (hs0 : SqR l x y n) : Bord hs ((y - 1) * 256 + (x - 1)) (n + 2) ↔ SqR l (x - 1) (y - 1) (n + 2) := by
  constructor
  · intro hb a b a1 a2 b1 b2
    push_cast at a2 b2
    by_cases ha : a = 0
    · obtain ⟨_, _, h3, _⟩ := hb b.toNat (by omega)
      exact (h.at_ hl (i := x - 1 + a) (j := y - 1 + b) (by omega) (by omega) (by omega)).mp h3
    · by_cases ha2 : a = n + 1
      · obtain ⟨_, _, _, h4⟩ := hb b.toNat (by omega)
        refine (h.at_ hl (i := x - 1 + a) (j := y - 1 + b) (by omega) (by omega) ?_).mp h4
        push_cast; omega
      · by_cases hb0 : b = 0
        · obtain ⟨h1, _⟩ := hb a.toNat (by omega)
          exact (h.at_ hl (i := x - 1 + a) (j := y - 1 + b) (by omega) (by omega) (by omega)).mp h1
        · by_cases hb2 : b = n + 1
          · obtain ⟨_, h2, _⟩ := hb a.toNat (by omega)
            refine (h.at_ hl (i := x - 1 + a) (j := y - 1 + b) (by omega) (by omega) ?_).mp h2
            push_cast; omega
          · have := hs0 (a - 1) (b - 1) (by omega) (by omega) (by omega) (by omega)
            rw [show x + (a - 1) = x - 1 + a by omega, show y + (b - 1) = y - 1 + b by omega] at this
            exact this
  · intro hq s hs1
    have g := fun (a b : Int) h1 h2 h3 h4 => hq a b h1 h2 h3 h4
    refine ⟨?_, ?_, ?_, ?_⟩
    · exact (h.at_ hl (i := x - 1 + s) (j := y - 1 + 0) (by omega) (by omega) (by omega)).mpr (hq s 0 (by omega) (by omega) (by omega) (by omega))
    · refine (h.at_ hl (i := x - 1 + s) (j := y - 1 + (n + 1)) (by omega) (by omega) ?_).mpr (hq s (n + 1) (by omega) (by omega) (by omega) (by omega))
      push_cast; omega
    · exact (h.at_ hl (i := x - 1 + 0) (j := y - 1 + s) (by omega) (by omega) (by omega)).mpr (hq 0 s (by omega) (by omega) (by omega) (by omega))
    · refine (h.at_ hl (i := x - 1 + (n + 1)) (j := y - 1 + s) (by omega) (by omega) ?_).mpr (hq (n + 1) s (by omega) (by omega) (by omega) (by omega))
      push_cast; omega
theorem SqR_bd {l : Cells} (hl : ∀ c ∈ l, Roof.within c = true) {x y : Int} {n : Nat} (h : SqR l x y n) (hn : 0 < n) : 0 ≤ x ∧ x + n ≤ 128 ∧ 0 ≤ y ∧ y + n ≤ 128 := by
  have h1 := inZ_bd hl (h 0 0 (by omega) (by omega) (by omega) (by omega))
  have h2 := inZ_bd hl (h (n - 1) (n - 1) (by omega) (by omega) (by omega) (by omega))
  omega
structure Room (l : Cells) (x y : Int) (side : Nat) (room : Nat) : Prop where
  yes : SqR l (x - room) (y - room) (side + 2 * room)
  no : ¬ SqR l (x - (room + 1 : Nat)) (y - (room + 1 : Nat)) (side + 2 * (room + 1))
theorem SqR_mono {l : Cells} {x y : Int} {side k m : Nat} (h : SqR l (x - m) (y - m) (side + 2 * m)) (hk : k ≤ m) : SqR l (x - k) (y - k) (side + 2 * k) := by
  intro a b a1 a2 b1 b2
  have := h (a + (m - k)) (b + (m - k)) (by omega) (by omega) (by omega) (by omega)
  rw [show x - (m : Int) + (a + (m - k)) = x - k + a by omega, show y - (m : Int) + (b + (m - k)) = y - k + b by omega] at this
  exact this
theorem Room.iff {l : Cells} {x y : Int} {side room : Nat} (h : Room l x y side room) (k : Nat) : k ≤ room ↔ SqR l (x - k) (y - k) (side + 2 * k) := by
  constructor
  · intro hk; exact SqR_mono h.yes hk
  · intro hk
    rcases Nat.lt_or_ge room k with z | z
    · exact absurd (SqR_mono hk (show room + 1 ≤ k by omega)) h.no
    · exact z
theorem raw_int (i j : Nat) : ((raw i j : Nat) : Int) = 130 * ((j : Int) + 1) + ((i : Int) + 1) := by simp only [raw, W_eq]; omega
theorem height_val {l : Cells} (hl : ∀ c ∈ l, Roof.within c = true) {X Y : Nat} (hX : X ≤ 128) {k : Nat} (h : Room l X Y 0 k) : heightAt (gridOf (halvesOf l)) X Y = k := by
  unfold heightAt
  have g1 := fun m => grid_val hl m (i := (X : Int) - 1) (j := (Y : Int) - 1) (q := W * Y + X) (by omega) (by omega) (by omega) (by rw [W_eq]; push_cast; omega)
  have g2 := fun m => grid_val hl m (i := (X : Int)) (j := (Y : Int) - 1) (q := W * Y + X + 1) (by omega) (by omega) (by omega) (by rw [W_eq]; push_cast; omega)
  have g3 := fun m => grid_val hl m (i := (X : Int) - 1) (j := (Y : Int)) (q := W * (Y + 1) + X) (by omega) (by omega) (by omega) (by rw [W_eq]; push_cast; omega)
  have g4 := fun m => grid_val hl m (i := (X : Int)) (j := (Y : Int)) (q := W * (Y + 1) + X + 1) (by omega) (by omega) (by omega) (by rw [W_eq]; push_cast; omega)
  generalize (gridOf (halvesOf l)).val (W * Y + X) = v1 at *
  generalize (gridOf (halvesOf l)).val (W * Y + X + 1) = v2 at *
  generalize (gridOf (halvesOf l)).val (W * (Y + 1) + X) = v3 at *
  generalize (gridOf (halvesOf l)).val (W * (Y + 1) + X + 1) = v4 at *
  have key : ∀ m, m < min (min v1 v2) (min v3 v4) ↔ m + 1 ≤ k := by
    intro m
    rw [h.iff]
    have e : (m < min (min v1 v2) (min v3 v4)) ↔ (m < v1 ∧ m < v2 ∧ m < v3 ∧ m < v4) := by omega
    rw [e, g1, g2, g3, g4]
    constructor
    · rintro ⟨s1, s2, s3, s4⟩ a b a1 a2 b1 b2
      push_cast at a2 b2 ⊢
      by_cases ha : a ≤ 2 * m
      · by_cases hb : b ≤ 2 * m
        · have := s1 (a - m) (b - m) (by omega) (by omega) (by omega) (by omega)
          rw [show (X : Int) - 1 + (a - m) = X - (m + 1) + a by omega, show (Y : Int) - 1 + (b - m) = Y - (m + 1) + b by omega] at this
          exact this
        · have := s3 (a - m) (b - m - 1) (by omega) (by omega) (by omega) (by omega)
          rw [show (X : Int) - 1 + (a - m) = X - (m + 1) + a by omega, show (Y : Int) + (b - m - 1) = Y - (m + 1) + b by omega] at this
          exact this
      · by_cases hb : b ≤ 2 * m
        · have := s2 (a - m - 1) (b - m) (by omega) (by omega) (by omega) (by omega)
          rw [show (X : Int) + (a - m - 1) = X - (m + 1) + a by omega, show (Y : Int) - 1 + (b - m) = Y - (m + 1) + b by omega] at this
          exact this
        · have := s4 (a - m - 1) (b - m - 1) (by omega) (by omega) (by omega) (by omega)
          rw [show (X : Int) + (a - m - 1) = X - (m + 1) + a by omega, show (Y : Int) + (b - m - 1) = Y - (m + 1) + b by omega] at this
          exact this
    · intro s
      push_cast at s
      refine ⟨?_, ?_, ?_, ?_⟩ <;> intro a b a1 a2 b1 b2
      · have := s (a + m) (b + m) (by omega) (by push_cast; omega) (by omega) (by push_cast; omega)
        push_cast at this
        rw [show (X : Int) - (m + 1) + (a + m) = X - 1 + a by omega, show (Y : Int) - (m + 1) + (b + m) = Y - 1 + b by omega] at this
        exact this
      · have := s (a + m + 1) (b + m) (by omega) (by push_cast; omega) (by omega) (by push_cast; omega)
        push_cast at this
        rw [show (X : Int) - (m + 1) + (a + m + 1) = X + a by omega, show (Y : Int) - (m + 1) + (b + m) = Y - 1 + b by omega] at this
        exact this
      · have := s (a + m) (b + m + 1) (by omega) (by push_cast; omega) (by omega) (by push_cast; omega)
        push_cast at this
        rw [show (X : Int) - (m + 1) + (a + m) = X - 1 + a by omega, show (Y : Int) - (m + 1) + (b + m + 1) = Y + b by omega] at this
        exact this
      · have := s (a + m + 1) (b + m + 1) (by omega) (by push_cast; omega) (by omega) (by push_cast; omega)
        push_cast at this
        rw [show (X : Int) - (m + 1) + (a + m + 1) = X + a by omega, show (Y : Int) - (m + 1) + (b + m + 1) = Y + b by omega] at this
        exact this
  have h2 := mt (key k).mp (by omega)
  by_cases hk : k = 0
  · omega
  · have h1 := (key (k - 1)).mpr (by omega)
    omega
end Rp
namespace Rp
open Roof
structure Low (l : Cells) : Prop where
  ne : l ≠ []
  lt : ∀ c ∈ l, c.1 < 64 ∧ c.2 < 64
theorem house_low {l : Cells} (h : isHouse l = true) : Low l ∧ (∀ c ∈ l, Roof.within c = true) ∧ Rise l ∧ l.length ≤ 256 := by
  unfold isHouse at h
  cases l with
  | nil => simp at h
  | cons c r =>
    simp only [Bool.and_eq_true, decide_eq_true_eq] at h
    have hw : ∀ x ∈ c :: r, Roof.within x = true := List.all_eq_true.mp h.2.1
    exact ⟨⟨by simp, fun x hx => within_iff.mp (hw x hx)⟩, hw, (rising_iff _).mp h.2.2.1, h.1⟩
end Rp
namespace Rp
open Roof
theorem half_numH {l : Cells} (hl : ∀ c ∈ l, Roof.within c = true) {hs : List Int} (h : HalfK hs l) {m : Int} : m ∈ hs ↔ ∃ i j : Nat, i < 128 ∧ j < 128 ∧ raw i j ∈ halvesOf l ∧ m = (j : Int) * 256 + i := by
  rw [h.mem]
  constructor
  · rintro ⟨i, j, hz, rfl⟩
    have hb := inZ_bd hl hz
    refine ⟨i.toNat, j.toNat, by omega, by omega, ?_, by omega⟩
    refine (halves_at hl (i := i) (j := j) (by omega) (by omega) (by omega) ?_).mpr hz
    rw [raw_int]; omega
  · rintro ⟨i, j, hi, hj, hm, rfl⟩
    exact ⟨i, j, (halves_at hl (i := i) (j := j) (by omega) (by omega) (by omega) (raw_int i j)).mp hm, rfl⟩
def hN (l : Cells) (m : Int) : Nat := heightAt (gridOf (halvesOf l)) (m % 256).toNat (m / 256).toNat
theorem hN_at {l : Cells} {i j : Nat} (hi : i < 256) : hN l ((j : Int) * 256 + i) = heightAt (gridOf (halvesOf l)) i j := by
  unfold hN
  rw [show (((j : Int) * 256 + i) % 256).toNat = i by omega, show (((j : Int) * 256 + i) / 256).toNat = j by omega]
def allPts : List Point := (List.range (HALVES + 1)).flatMap fun Y => (List.range (HALVES + 1)).map fun X => (X, Y)
theorem highest_fold (g : Grid) : highestOf g = allPts.foldl (fun (z : Nat × Point) (p : Point) => if z.1 < heightAt g p.1 p.2 then (heightAt g p.1 p.2, p) else z) (0, (0, 0)) := by
  unfold highestOf allPts
  rw [List.foldl_flatMap]
  have e : ∀ (x : Nat × Point) (Y : Nat), ((List.range (HALVES + 1)).map fun X => ((X, Y) : Point)).foldl (fun (z : Nat × Point) (p : Point) => if z.1 < heightAt g p.1 p.2 then (heightAt g p.1 p.2, p) else z) x = (List.range (HALVES + 1)).foldl (fun (z : Nat × Point) (X : Nat) => let h := heightAt g X Y
    if z.1 < h then (h, (X, Y)) else z) x := fun x Y => List.foldl_map
  simp only [e]
theorem allPts_mem {p : Point} : p ∈ allPts ↔ p.1 ≤ 128 ∧ p.2 ≤ 128 := by
  unfold allPts
  rw [List.mem_flatMap]
  have : HALVES = 128 := rfl
  constructor
  · rintro ⟨Y, hY, h⟩
    obtain ⟨X, hX, rfl⟩ := List.mem_map.mp h
    rw [List.mem_range] at hX hY
    dsimp only; omega
  · rintro ⟨h1, h2⟩
    exact ⟨p.2, List.mem_range.mpr (by omega), List.mem_map.mpr ⟨p.1, List.mem_range.mpr (by omega), rfl⟩⟩
theorem allPts_rise : Rise allPts := by
  unfold allPts Rise
  rw [List.pairwise_flatMap]
  constructor
  · intro Y _
    rw [List.pairwise_map]
    exact List.pairwise_lt_range.imp fun h => by rw [before_iff]; exact .inr ⟨rfl, h⟩
  · refine List.pairwise_lt_range.imp fun {a b} hab x hx y hy => ?_
    obtain ⟨_, _, rfl⟩ := List.mem_map.mp hx
    obtain ⟨_, _, rfl⟩ := List.mem_map.mp hy
    rw [before_iff]; exact .inl hab
theorem fold_low (ht : Point → Nat) {H : Nat} : ∀ (A : List Point) (z : Nat × Point), z.1 < H → (∀ a ∈ A, ht a < H) → (A.foldl (fun (z : Nat × Point) (p : Point) => if z.1 < ht p then (ht p, p) else z) z).1 < H
  | [], z, h, _ => h
  | a :: A, z, h, ha => by
    rw [List.foldl_cons]
    refine fold_low ht A _ ?_ fun b hb => ha b (List.mem_cons_of_mem _ hb)
    split
    · exact ha a (by simp)
    · exact h
theorem fold_stay (ht : Point → Nat) : ∀ (B : List Point) (z : Nat × Point), (∀ b ∈ B, ht b ≤ z.1) → B.foldl (fun (z : Nat × Point) (p : Point) => if z.1 < ht p then (ht p, p) else z) z = z
  | [], z, _ => rfl
  | b :: B, z, h => by
    rw [List.foldl_cons, if_neg (by have := h b (by simp); omega)]
    exact fold_stay ht B z fun c hc => h c (List.mem_cons_of_mem _ hc)
theorem highest_eq {l : Cells} (hl : ∀ c ∈ l, Roof.within c = true) {hs : List Int} (h : HalfK hs l) {m : Int} (hm : m ∈ hs) (h1 : ∀ q ∈ hs, hN l q ≤ hN l m) (h2 : ∀ q ∈ hs, q < m → hN l q < hN l m) :
    highestOf (gridOf (halvesOf l)) = (hN l m, ((m % 256).toNat, (m / 256).toNat)) := by
  obtain ⟨i, j, hi, hj, hr, rfl⟩ := (half_numH hl h).mp hm
  rw [show (((j : Int) * 256 + i) % 256).toNat = i by omega, show (((j : Int) * 256 + i) / 256).toNat = j by omega, highest_fold]
  have inH : ∀ p : Point, p.1 ≤ 128 → 0 < heightAt (gridOf (halvesOf l)) p.1 p.2 → ((p.2 : Int) * 256 + p.1) ∈ hs := by
    intro p hp hz
    have h3 : 0 < (gridOf (halvesOf l)).val (W * (p.2 + 1) + p.1 + 1) := by unfold heightAt at hz; omega
    have h4 := (grid_val hl 0 (i := p.1) (j := p.2) (q := W * (p.2 + 1) + p.1 + 1) (by omega) (by omega) (by omega) (by rw [W_eq]; push_cast; omega)).mp h3
    exact (h.mem _).mpr ⟨_, _, Sq_zero.mp h4, rfl⟩
  -- the height there is above 0
  have hpos : 0 < hN l ((j : Int) * 256 + i) := by
    have hz := (halves_at hl (i := i) (j := j) (by omega) (by omega) (by omega) (raw_int i j)).mp hr
    obtain ⟨_, _, hc⟩ := hz
    rw [show ((i : Int) / 2).toNat = i / 2 by omega, show ((j : Int) / 2).toNat = j / 2 by omega] at hc
    have hb := within_iff.mp (hl _ hc)
    simp only at hb
    have four : ∀ a b : Nat, a < 2 → b < 2 → inZ l ((2 * (i / 2) + a : Nat) : Int) ((2 * (j / 2) + b : Nat) : Int) := by
      intro a b ha hb
      refine ⟨by omega, by omega, ?_⟩
      rw [show (((2 * (i / 2) + a : Nat) : Int) / 2).toNat = i / 2 by omega, show (((2 * (j / 2) + b : Nat) : Int) / 2).toNat = j / 2 by omega]
      exact hc
    have key : 0 < heightAt (gridOf (halvesOf l)) (2 * (i / 2) + 1) (2 * (j / 2) + 1) := by
      unfold heightAt
      have g1 := (grid_val hl 0 (i := ((2 * (i / 2) + 0 : Nat) : Int)) (j := ((2 * (j / 2) + 0 : Nat) : Int)) (q := W * (2 * (j / 2) + 1) + (2 * (i / 2) + 1)) (by omega) (by omega) (by omega) (by rw [W_eq]; push_cast; omega)).mpr (Sq_zero.mpr (four 0 0 (by omega) (by omega)))
      have g2 := (grid_val hl 0 (i := ((2 * (i / 2) + 1 : Nat) : Int)) (j := ((2 * (j / 2) + 0 : Nat) : Int)) (q := W * (2 * (j / 2) + 1) + (2 * (i / 2) + 1) + 1) (by omega) (by omega) (by omega) (by rw [W_eq]; push_cast; omega)).mpr (Sq_zero.mpr (four 1 0 (by omega) (by omega)))
      have g3 := (grid_val hl 0 (i := ((2 * (i / 2) + 0 : Nat) : Int)) (j := ((2 * (j / 2) + 1 : Nat) : Int)) (q := W * (2 * (j / 2) + 1 + 1) + (2 * (i / 2) + 1)) (by omega) (by omega) (by omega) (by rw [W_eq]; push_cast; omega)).mpr (Sq_zero.mpr (four 0 1 (by omega) (by omega)))
      have g4 := (grid_val hl 0 (i := ((2 * (i / 2) + 1 : Nat) : Int)) (j := ((2 * (j / 2) + 1 : Nat) : Int)) (q := W * (2 * (j / 2) + 1 + 1) + (2 * (i / 2) + 1) + 1) (by omega) (by omega) (by omega) (by rw [W_eq]; push_cast; omega)).mpr (Sq_zero.mpr (four 1 1 (by omega) (by omega)))
      omega
    have hin := inH (2 * (i / 2) + 1, 2 * (j / 2) + 1) (by dsimp only; omega) key
    have h5 := h1 _ hin
    dsimp only at h5
    rw [hN_at (by omega)] at h5
    omega
  rw [hN_at (by omega)] at hpos h1 h2 ⊢
  have le : ∀ p : Point, p ∈ allPts → heightAt (gridOf (halvesOf l)) p.1 p.2 ≤ heightAt (gridOf (halvesOf l)) i j := by
    intro p hp
    rcases Nat.eq_zero_or_pos (heightAt (gridOf (halvesOf l)) p.1 p.2) with z | z
    · omega
    · have hp' := allPts_mem.mp hp
      have := h1 _ (inH p hp'.1 z)
      rw [hN_at (by omega)] at this
      exact this
  obtain ⟨A, B, e⟩ := List.append_of_mem (allPts_mem.mpr (show (i, j).1 ≤ 128 ∧ (i, j).2 ≤ 128 by dsimp only; omega))
  have hR := allPts_rise
  rw [e] at hR
  have hA : ∀ a ∈ A, before a (i, j) = true := fun a ha => (List.pairwise_append.mp hR).2.2 a ha (i, j) (by simp)
  rw [e, List.foldl_append, List.foldl_cons]
  have hlow := fold_low (fun p => heightAt (gridOf (halvesOf l)) p.1 p.2) (H := heightAt (gridOf (halvesOf l)) i j) A (0, (0, 0)) hpos (fun a ha => by
    have hap : a ∈ allPts := by rw [e]; simp [ha]
    have hp' := allPts_mem.mp hap
    rcases Nat.eq_zero_or_pos (heightAt (gridOf (halvesOf l)) a.1 a.2) with z | z
    · omega
    · have hb := before_iff.mp (hA a ha)
      have := h2 _ (inH a hp'.1 z) (by dsimp only at hb; omega)
      rw [hN_at (by omega)] at this
      exact this)
  rw [if_pos hlow]
  exact fold_stay (fun p => heightAt (gridOf (halvesOf l)) p.1 p.2) B _ fun b hb => le b (by rw [e]; simp [hb])
end Rp
namespace Rp
open Roof
def fourI (m : Int) : List Int := [m, m + 1, m + 256, m + 256 + 1]
theorem four_half {l : Cells} {x : Int} : (∃ c ∈ l, x ∈ fourI (2 * num c)) ↔ ∃ i j : Int, inZ l i j ∧ x = j * 256 + i := by
  constructor
  · rintro ⟨c, hc, h⟩
    have go : ∀ a b : Nat, a < 2 → b < 2 → inZ l (2 * c.1 + a : Int) (2 * c.2 + b : Int) := fun a b ha hb =>
      ⟨by omega, by omega, by rw [show ((2 * (c.1 : Int) + a) / 2).toNat = c.1 by omega, show ((2 * (c.2 : Int) + b) / 2).toNat = c.2 by omega]; exact hc⟩
    simp only [fourI, num, List.mem_cons, List.not_mem_nil, or_false] at h
    rcases h with rfl | rfl | rfl | rfl
    · exact ⟨_, _, go 0 0 (by omega) (by omega), by omega⟩
    · exact ⟨_, _, go 1 0 (by omega) (by omega), by omega⟩
    · exact ⟨_, _, go 0 1 (by omega) (by omega), by omega⟩
    · exact ⟨_, _, go 1 1 (by omega) (by omega), by omega⟩
  · rintro ⟨i, j, ⟨h1, h2, h3⟩, rfl⟩
    refine ⟨_, h3, ?_⟩
    simp only [fourI, num, List.mem_cons, List.not_mem_nil, or_false]
    omega
theorem half_keys {ks hs : List Int} {l : Cells} (hk : KeysOf ks l) (nd : hs.Nodup) (h : ∀ x, x ∈ hs ↔ x ∈ ks.flatMap fun m => fourI (2 * m)) : HalfK hs l := by
  refine ⟨nd, fun x => ?_⟩
  rw [h, List.mem_flatMap, ← four_half]
  constructor
  · rintro ⟨m, hm, hx⟩
    obtain ⟨c, hc, rfl⟩ := List.mem_map.mp ((hk.mem m).mp hm)
    exact ⟨c, hc, hx⟩
  · rintro ⟨c, hc, hx⟩
    exact ⟨num c, (hk.mem _).mpr (List.mem_map.mpr ⟨c, hc, rfl⟩), hx⟩
theorem half_room {l : Cells} (hl : ∀ c ∈ l, Roof.within c = true) {hs : List Int} (h : HalfK hs l) {m : Int} (hm : m ∈ hs) : ∃ i j : Nat, i < 128 ∧ j < 128 ∧ m = (j : Int) * 256 + i ∧ SqR l i j 1 := by
  obtain ⟨i, j, hz, e⟩ := (h.mem m).mp hm
  have hb := inZ_bd hl hz
  refine ⟨i.toNat, j.toNat, by omega, by omega, by omega, fun a b a1 a2 b1 b2 => ?_⟩
  have ea : a = 0 := by omega
  have eb : b = 0 := by omega
  rw [ea, eb, show ((i.toNat : Nat) : Int) + 0 = i by omega, show ((j.toNat : Nat) : Int) + 0 = j by omega]
  exact hz
theorem height_num {l : Cells} (hl : ∀ c ∈ l, Roof.within c = true) {X Y : Nat} (hX : X ≤ 128) {k : Nat} (h : Room l X Y 0 k) : hN l ((Y : Int) * 256 + X) = k := by
  rw [hN_at (by omega), height_val hl hX h]
end Rp
namespace Pf
open PySem L2
def t_s10_highest (i : Nat) : Stmt := PySem.Challenge.pw_roofplans_s10_highest.main.body.getD i (.Pass ⟨0, 0, 0, 0⟩)
abbrev sPlace : Stmt := t_s10_highest 2
abbrev sEast : Stmt := t_s10_highest 3
abbrev sNorth : Stmt := t_s10_highest 4
abbrev sBeside : Stmt := t_s10_highest 5
abbrev sInit : Stmt := inClass (t_s10_highest 14) 0
abbrev sTake : Stmt := inClass (t_s10_highest 14) 1
abbrev sDigit : Stmt := inClass (t_s10_highest 14) 2
abbrev sComma : Stmt := inClass (t_s10_highest 14) 3
abbrev sBlank : Stmt := inClass (t_s10_highest 14) 4
abbrev sFeed : Stmt := inClass (t_s10_highest 14) 5
abbrev sEnd : Stmt := inClass (t_s10_highest 14) 6
abbrev sRead : Stmt := t_s10_highest 15
abbrev sSteps : Stmt := t_s10_highest 17
abbrev sPoints : Stmt := t_s10_highest 18
abbrev sCorners : Stmt := t_s10_highest 19
abbrev sRows : Stmt := t_s10_highest 20
abbrev sMeet : Stmt := t_s10_highest 23
abbrev sReached : Stmt := t_s10_highest 24
abbrev sIsHouse : Stmt := t_s10_highest 25
abbrev sRight : Stmt := t_s10_highest 26
abbrev sOdd : Stmt := t_s10_highest 27
abbrev sWithin : Stmt := t_s10_highest 28
abbrev sHouseL : Stmt := t_s10_highest 29
abbrev sHouseT : Stmt := t_s10_highest 30
abbrev sFour : Stmt := t_s10_highest 32
abbrev sHalf : Stmt := t_s10_highest 33
abbrev sBorder : Stmt := t_s10_highest 34
abbrev sRoom : Stmt := t_s10_highest 35
abbrev sHeightO : Stmt := t_s10_highest 36
abbrev sHighP : Stmt := t_s10_highest 37
abbrev sHighest : Stmt := t_s10_highest 39
end Pf
namespace Pf
open PySem L2
structure Cal (P : Program) (w : World) (K : PySem.W.Frag) (mg : Str → Option Value) (base : Heap) (k : Nat) (name : Str) (ps : List Str) (sp : Sp) (f : Addr) (fd : FuncData) : Prop where
  at_ : mg name = some (.ref f)
  kp : PySem.W.keepIn K (.ref f) = true
  b : Binds K fd ps []
  ok : FnOk P w K mg base CX0 k f fd ps sp
structure Glo (mg : Str → Option Value) : Prop where
  row : ∃ t, mg "ROW" = some (.int 256 t)
  lf : ∃ t, mg "LINE_FEED" = some (.int 10 t)
  blank : ∃ t, mg "BLANK" = some (.int 32 t)
  comma : ∃ t, mg "COMMA" = some (.int 44 t)
  d0 : ∃ t, mg "DIGIT_0" = some (.int 48 t)
  mc : ∃ t, mg "MOST_CELLS" = some (.int 256 t)
  len : mg "len" = none
  enum : mg "enumerate" = none
  rng : mg "range" = none
  srt : mg "sorted" = none
  mn : mg "min" = none
  mx : mg "max" = none
  sm : mg "sum" = none
  al : mg "all" = none
  an : mg "any" = none
  dc : mg "dict" = none
structure GRd (mg : Str → Option Value) : Prop where
  d9 : ∃ t, mg "DIGIT_9" = some (.int 57 t)
  gr : ∃ t, mg "GREATEST" = some (.int 64 t)
  lc : ∃ t, mg "LEAST_CORNERS" = some (.int 4 t)
section
variable {P : Program} {w : World} {K : PySem.W.Frag} {mg : Str → Option Value} {base : Heap}
def spEast : Sp := fun vs H Q _ => ∃ x : Int, vs = [.int x] ∧ Q (.int (x % 256)) H
theorem scEast : FnScope ["spot"] ["spot"] (defScope sEast) := ⟨rfl, rfl, rfl, by decide +kernel, rfl, by decide +kernel, by decide +kernel⟩
theorem ok_east {f : Addr} {fd : FuncData} (F : Fun K "eastward" "eastward" sEast f fd) (G : Glo mg) : FnOk P w K mg base CX0 1 f fd ["spot"] spEast := by
  obtain ⟨t, hrow⟩ := G.row
  refine F.ok scEast (fun vs H Q E h => ?_) (fun cdv A outer s H vs Q E hr h => ?_)
  · obtain ⟨x, rfl, _⟩ := h
    rfl
  · obtain ⟨x, rfl, k⟩ := h
    refine ⟨_, pss_one (ps_ret (pe_op op_mod (pv 0) (pe_glob (v := .int 256) rfl hrow ⟨_, rfl⟩))), ?_⟩
    exact ⟨_, rfl, _, _, rfl, rfl, (by show (0 : Int) < 256; decide), k⟩
def spNorth : Sp := fun vs H Q _ => ∃ x : Int, vs = [.int x] ∧ Q (.int (x / 256)) H
theorem scNorth : FnScope ["spot"] ["spot"] (defScope sNorth) := ⟨rfl, rfl, rfl, by decide +kernel, rfl, by decide +kernel, by decide +kernel⟩
theorem ok_north {f : Addr} {fd : FuncData} (F : Fun K "northward" "northward" sNorth f fd) (G : Glo mg) : FnOk P w K mg base CX0 1 f fd ["spot"] spNorth := by
  obtain ⟨t, hrow⟩ := G.row
  refine F.ok scNorth (fun vs H Q E h => ?_) (fun cdv A outer s H vs Q E hr h => ?_)
  · obtain ⟨x, rfl, _⟩ := h
    rfl
  · obtain ⟨x, rfl, k⟩ := h
    refine ⟨_, pss_one (ps_ret (pe_op op_fdiv (pv 0) (pe_glob (v := .int 256) rfl hrow ⟨_, rfl⟩))), ?_⟩
    exact ⟨_, rfl, _, _, rfl, rfl, ⟨by decide, by decide⟩, k⟩
open Rp (nb)
def spBeside : Sp := fun vs H Q _ => ∃ x : Int, vs = [.int x] ∧ ∀ t, H t = none → Q (.ref t) (upd H t (.tup ((nb x).map V.int)))
theorem scBeside : FnScope ["spot"] ["spot"] (defScope sBeside) := ⟨rfl, rfl, rfl, by decide +kernel, rfl, by decide +kernel, by decide +kernel⟩
theorem ok_beside {f : Addr} {fd : FuncData} (F : Fun K "beside" "beside" sBeside f fd) (G : Glo mg) : FnOk P w K mg base CX0 1 f fd ["spot"] spBeside := by
  obtain ⟨t, hrow⟩ := G.row
  refine F.ok scBeside (fun vs H Q E h => ?_) (fun cdv A outer s H vs Q E hr h => ?_)
  · obtain ⟨x, rfl, _⟩ := h
    rfl
  · obtain ⟨x, rfl, k⟩ := h
    refine ⟨_, pss_one (ps_ret (pe_tup (pa_cons (pe_op op_sub (pv 0) (pe_glob (v := .int 256) rfl hrow ⟨_, rfl⟩)) (pa_cons (pe_op op_sub (pv 0) pe_int) (pa_cons (pe_op op_add (pv 0) pe_int) (pa_cons (pe_op op_add (pv 0) (pe_glob (v := .int 256) rfl hrow ⟨_, rfl⟩)) pa_nil)))))), ?_⟩
    exact ⟨_, rfl, _, _, rfl, rfl, _, rfl, _, _, rfl, rfl, _, rfl, _, _, rfl, rfl, _, rfl, _, _, rfl, rfl, (by rw [sizeLine_eq]; show 4 ≤ 16777216; decide), fun t ht => k t ht⟩
end
end Pf
namespace Pf
open PySem L2
section
variable {P : Program} {w : World} {K : PySem.W.Frag} {mg : Str → Option Value} {base : Heap}
def spPlace : Sp := fun vs H Q _ => ∃ x y : Int, vs = [.int x, .int y] ∧ (-(2 ^ 64) < y ∧ y < 2 ^ 64) ∧ Q (.int (y * 256 + x)) H
theorem scPlace : FnScope ["x", "y"] ["x", "y"] (defScope sPlace) := ⟨rfl, rfl, rfl, by decide +kernel, rfl, by decide +kernel, by decide +kernel⟩
theorem ok_place {f : Addr} {fd : FuncData} (F : Fun K "place" "place" sPlace f fd) (G : Glo mg) : FnOk P w K mg base CX0 1 f fd ["x", "y"] spPlace := by
  obtain ⟨t, hrow⟩ := G.row
  refine F.ok scPlace (fun vs H Q E h => ?_) (fun cdv A outer s H vs Q E hr h => ?_)
  · obtain ⟨x, y, rfl, _⟩ := h
    rfl
  · obtain ⟨x, y, rfl, hy, k⟩ := h
    refine ⟨_, pss_one (ps_ret (pe_op op_add (pe_op op_mul (pv 1) (pe_glob (v := .int 256) rfl hrow ⟨_, rfl⟩)) (pv 0))), ?_⟩
    exact ⟨_, rfl, _, _, rfl, rfl, .inl hy, _, rfl, _, _, rfl, rfl, k⟩
end
end Pf
namespace Pf
open PySem L2
theorem n_cl : ¬ (("corners" : Str) = "lines") := by decide +kernel
theorem n_xl : ¬ (("x" : Str) = "lines") := by decide +kernel
theorem n_xc : ¬ (("x" : Str) = "corners") := by decide +kernel
theorem n_nl : ¬ (("number" : Str) = "lines") := by decide +kernel
theorem n_nc : ¬ (("number" : Str) = "corners") := by decide +kernel
theorem n_nx : ¬ (("number" : Str) = "x") := by decide +kernel
theorem n_wl : ¬ (("wrong" : Str) = "lines") := by decide +kernel
theorem n_wc : ¬ (("wrong" : Str) = "corners") := by decide +kernel
theorem n_wx : ¬ (("wrong" : Str) = "x") := by decide +kernel
theorem n_wn : ¬ (("wrong" : Str) = "number") := by decide +kernel
def flds (L c : Addr) (x n wr : V) : List (Str × V) := [("lines", .ref L), ("corners", .ref c), ("x", x), ("number", n), ("wrong", wr)]
abbrev g1 (L : Addr) : List (Str × V) := [("lines", .ref L)]
abbrev g2 (L c : Addr) : List (Str × V) := [("lines", .ref L), ("corners", .ref c)]
abbrev g3 (L c : Addr) (x : V) : List (Str × V) := [("lines", .ref L), ("corners", .ref c), ("x", x)]
abbrev g4 (L c : Addr) (x n : V) : List (Str × V) := [("lines", .ref L), ("corners", .ref c), ("x", x), ("number", n)]
section
variable (L c : Addr) (x n wr : V)
theorem put_lines : putF "lines" (.ref L) [] = g1 L := rfl
theorem put_corners0 : putF "corners" (.ref c) (g1 L) = g2 L c := by
  simp only [putF, if_neg (fun e : ("lines" : Str) = "corners" => n_cl e.symm)]
theorem put_x0 : putF "x" x (g2 L c) = g3 L c x := by
  simp only [putF, if_neg (fun e : ("lines" : Str) = "x" => n_xl e.symm), if_neg (fun e : ("corners" : Str) = "x" => n_xc e.symm)]
theorem put_n0 : putF "number" n (g3 L c x) = g4 L c x n := by
  simp only [putF, if_neg (fun e : ("lines" : Str) = "number" => n_nl e.symm), if_neg (fun e : ("corners" : Str) = "number" => n_nc e.symm), if_neg (fun e : ("x" : Str) = "number" => n_nx e.symm)]
theorem put_w0 : putF "wrong" wr (g4 L c x n) = flds L c x n wr := by
  simp only [putF, if_neg (fun e : ("lines" : Str) = "wrong" => n_wl e.symm), if_neg (fun e : ("corners" : Str) = "wrong" => n_wc e.symm), if_neg (fun e : ("x" : Str) = "wrong" => n_wx e.symm), if_neg (fun e : ("number" : Str) = "wrong" => n_wn e.symm), flds]
theorem put_c (c' : Addr) : putF "corners" (.ref c') (flds L c x n wr) = flds L c' x n wr := by
  simp only [flds, putF, if_neg (fun e : ("lines" : Str) = "corners" => n_cl e.symm), if_true]
theorem put_x (y : V) : putF "x" y (flds L c x n wr) = flds L c y n wr := by
  simp only [flds, putF, if_neg (fun e : ("lines" : Str) = "x" => n_xl e.symm), if_neg (fun e : ("corners" : Str) = "x" => n_xc e.symm), if_true]
theorem put_n (y : V) : putF "number" y (flds L c x n wr) = flds L c x y wr := by
  simp only [flds, putF, if_neg (fun e : ("lines" : Str) = "number" => n_nl e.symm), if_neg (fun e : ("corners" : Str) = "number" => n_nc e.symm), if_neg (fun e : ("x" : Str) = "number" => n_nx e.symm), if_true]
theorem put_w (y : V) : putF "wrong" y (flds L c x n wr) = flds L c x n y := by
  simp only [flds, putF, if_neg (fun e : ("lines" : Str) = "wrong" => n_wl e.symm), if_neg (fun e : ("corners" : Str) = "wrong" => n_wc e.symm), if_neg (fun e : ("x" : Str) = "wrong" => n_wx e.symm), if_neg (fun e : ("number" : Str) = "wrong" => n_wn e.symm), if_true]
theorem look_eq (f : Str) : (flds L c x n wr).lookup f = if f = "lines" then some (.ref L) else if f = "corners" then some (.ref c) else if f = "x" then some x else if f = "number" then some n else if f = "wrong" then some wr else none := by
  have h : ∀ (a : Str) (v : V) (r : List (Str × V)), ((a, v) :: r).lookup f = if f = a then some v else r.lookup f := fun a v r => by
    rw [List.lookup_cons]
    by_cases e : f = a
    · rw [if_pos e, e]; simp
    · rw [if_neg e]
      have : (f == a) = false := by simpa using e
      rw [this]
  unfold flds
  simp only [h]
  rfl
theorem look_l : (flds L c x n wr).lookup ("lines" : Str) = some (.ref L) := by rw [look_eq, if_pos rfl]
theorem look_c : (flds L c x n wr).lookup ("corners" : Str) = some (.ref c) := by rw [look_eq, if_neg n_cl, if_pos rfl]
theorem look_x : (flds L c x n wr).lookup ("x" : Str) = some x := by rw [look_eq, if_neg n_xl, if_neg n_xc, if_pos rfl]
theorem look_n : (flds L c x n wr).lookup ("number" : Str) = some n := by rw [look_eq, if_neg n_nl, if_neg n_nc, if_neg n_nx, if_pos rfl]
theorem look_w : (flds L c x n wr).lookup ("wrong" : Str) = some wr := by rw [look_eq, if_neg n_wl, if_neg n_wc, if_neg n_wx, if_neg n_wn, if_pos rfl]
theorem look_no {m : Str} (h1 : ¬ m = "lines") (h2 : ¬ m = "corners") (h3 : ¬ m = "x") (h4 : ¬ m = "number") (h5 : ¬ m = "wrong") : (flds L c x n wr).lookup m = none := by
  rw [look_eq, if_neg h1, if_neg h2, if_neg h3, if_neg h4, if_neg h5]
end
theorem flds_len (L c : Addr) (x n wr : V) : (flds L c x n wr).length < 1000 := by show 5 < 1000; decide
structure Rdr (K : PySem.W.Frag) (mg : Str → Option Value) (C : Addr) : Prop where
  cl : Cls K C
  nl : NoAttr K C "lines"
  nc : NoAttr K C "corners"
  nx : NoAttr K C "x"
  nn : NoAttr K C "number"
  nw : NoAttr K C "wrong"
  at_ : mg "Reader" = some (.ref C)
structure Met (P : Program) (w : World) (K : PySem.W.Frag) (mg : Str → Option Value) (base : Heap) (C : Addr) (k : Nat) (name : Str) (ps : List Str) (sp : Sp) (f : Addr) (fd : FuncData) : Prop where
  m : Meth K C name f
  b : Binds K fd ps []
  ok : FnOk P w K mg base CX0 k f fd ps sp
section
variable {P : Program} {w : World} {K : PySem.W.Frag} {mg : Str → Option Value} {base : Heap} {C : Addr}
def spInit (C : Addr) : Sp := fun vs H Q _ => ∃ p dx, vs = [.ref p] ∧ H p = some (.ins C dx []) ∧ ∀ L c, H L = none → H c = none → L ≠ c → Q .non (upd (upd (upd H L (.lst [])) c (.lst [])) p (.ins C dx (flds L c .non .non .non)))
theorem scInit : FnScope ["self"] ["self"] (defScope sInit) := ⟨rfl, rfl, rfl, by decide +kernel, rfl, by decide +kernel, by decide +kernel⟩
theorem upd_swap {H : Hp} {a b : Addr} {o u : HO} (h : a ≠ b) : upd (upd H a o) b u = upd (upd H b u) a o := by
  funext x
  unfold upd
  by_cases h1 : x = b
  · subst h1
    rw [if_pos rfl, if_neg (Ne.symm h), if_pos rfl]
  · rw [if_neg h1]
    by_cases h2 : x = a
    · rw [if_pos h2, if_pos h2]
    · rw [if_neg h2, if_neg h2, if_neg h1]
theorem ok_init {f : Addr} {fd : FuncData} (F : Fun K "__init__" "Reader.__init__" sInit f fd) (T : Rdr K mg C) : FnOk P w K mg base CX0 1 f fd ["self"] (spInit C) := by
  refine F.ok scInit (fun vs H Q E h => ?_) (fun cdv A outer s H vs Q E hr h => ?_)
  · obtain ⟨p, dx, rfl, _⟩ := h
    rfl
  · obtain ⟨p, dx, rfl, hp, k⟩ := h
    refine ⟨_, pss_cons (ps_fld (pv 0) (pe_lst pa_nil) rfl) (pss_cons (ps_fld (pv 0) (pe_lst pa_nil) rfl) (pss_cons (ps_fld (pv 0) pe_non rfl) (pss_cons (ps_fld (pv 0) pe_non rfl) (pss_one (ps_fld (pv 0) pe_non rfl))))), ?_⟩
    refine ⟨by decide, fun L hL => ?_⟩
    have npL : p ≠ L := ne_of_none hp hL
    refine ⟨_, rfl, p, C, dx, [], rfl, (by rw [upd_ne npL]; exact hp), T.cl, T.nl, (by show 0 < 1000; decide), ?_⟩
    refine ⟨by decide, fun c hc => ?_⟩
    have hcp : c ≠ p := by rintro rfl; rw [upd_same] at hc; cases hc
    have hcL : c ≠ L := by rintro rfl; rw [upd_ne hcp, upd_same] at hc; cases hc
    have hc0 : H c = none := by rw [upd_ne hcp, upd_ne hcL] at hc; exact hc
    refine ⟨_, rfl, p, C, dx, _, rfl, (by rw [upd_ne (Ne.symm hcp), upd_same]), T.cl, T.nc, (by show 1 < 1000; decide), ?_⟩
    refine ⟨_, rfl, p, C, dx, _, rfl, upd_same, T.cl, T.nx, (by rw [put_lines, put_corners0]; show 2 < 1000; decide), ?_⟩
    refine ⟨_, rfl, p, C, dx, _, rfl, upd_same, T.cl, T.nn, (by rw [put_lines, put_corners0, put_x0]; show 3 < 1000; decide), ?_⟩
    refine ⟨_, rfl, p, C, dx, _, rfl, upd_same, T.cl, T.nw, (by rw [put_lines, put_corners0, put_x0, put_n0]; show 4 < 1000; decide), ?_⟩
    have := k L c hL hc0 (Ne.symm hcL)
    rw [upd_upd, upd_upd, upd_upd, put_lines, put_corners0, put_x0, put_n0, put_w0]
    rw [upd_swap (H := upd H L (.lst [])) (a := p) (b := c) (Ne.symm hcp), upd_upd]
    exact this
end
end Pf
namespace Pf
open PySem L2
theorem ifT {c A B : Prop} [Decidable c] (hc : c) (h : A) : if c then A else B := by rw [if_pos hc]; exact h
theorem ifF {c A B : Prop} [Decidable c] (hc : ¬ c) (h : B) : if c then A else B := by rw [if_neg hc]; exact h
theorem lt_line {n : Nat} (h : n < 16777216) : n < sizeLine := by rw [sizeLine_eq]; exact h
theorem le_line {n : Nat} (h : n ≤ 16777216) : n ≤ sizeLine := by rw [sizeLine_eq]; exact h
theorem nInt (v : Int) : decide (V.int v = V.non) = false := decide_eq_false (fun z => nomatch z)
section
variable {P : Program} {w : World} {K : PySem.W.Frag} {mg : Str → Option Value} {base : Heap} {C : Addr}
def dNum (n : V) (d : Int) : Int := match n with
  | .int v => v * 10 + d
  | _ => d
def spDigit (C : Addr) : Sp := fun vs H Q _ => ∃ p dx L c x n wr d, vs = [.ref p, .int d] ∧ H p = some (.ins C dx (flds L c x n wr)) ∧ (n = .non ∨ ∃ v : Int, n = .int v ∧ 0 ≤ v ∧ v ≤ 64) ∧
  ((n = .int 0 ∨ 64 < dNum n d) → Q (.bl false) H) ∧ (¬ (n = .int 0 ∨ 64 < dNum n d) → Q (.bl true) (upd H p (.ins C dx (flds L c x (.int (dNum n d)) wr))))
theorem scDigit : FnScope ["self", "digit", "number"] ["self", "digit"] (defScope sDigit) := ⟨rfl, rfl, rfl, by decide +kernel, rfl, by decide +kernel, by decide +kernel⟩
theorem ok_digit {f : Addr} {fd : FuncData} (F : Fun K "take_digit" "Reader.take_digit" sDigit f fd) (G : GRd mg) (T : Rdr K mg C) : FnOk P w K mg base CX0 1 f fd ["self", "digit"] (spDigit C) := by
  obtain ⟨t, hgr⟩ := G.gr
  refine F.ok scDigit (fun vs H Q E h => ?_) (fun cdv A outer s H vs Q E hr h => ?_)
  · obtain ⟨p, dx, L, c, x, n, wr, d, rfl, _⟩ := h
    rfl
  · obtain ⟨p, dx, L, c, x, n, wr, d, rfl, hp, hn, k1, k2⟩ := h
    refine ⟨_, pss_cons (ps_set (i := 2) scDigit.nd rfl (Or.inl rfl) (pv 1))
      (pss_cons (ps_if (pt_cmp (pc_notN (pe_fld (pv 0) rfl))) (pss_one (ps_set (i := 2) scDigit.nd rfl (Or.inl rfl) (pe_op op_add (pe_op op_mul (pe_fld (pv 0) rfl) pe_int) (pv 1)))) pss_nil)
      (pss_cons (ps_if (PW.pt (pw_or (pt_cmpR op_eq (pe_fld (pv 0) rfl) pe_int (nomark _)) (pw_or1 (pt_cmpR op_gt (pv 2) (pe_glob (v := .int 64) rfl hgr ⟨_, rfl⟩) (nomark _))))) (pss_one (ps_ret pe_bl)) pss_nil)
      (pss_cons (ps_fld (pv 0) (pv 2) rfl) (pss_one (ps_ret pe_bl))))), ?_⟩
    refine ⟨_, rfl, _, rfl, p, C, dx, _, _, rfl, hp, T.cl, T.nn, look_n _ _ _ _ _, _, rfl, ?_⟩
    have fin : ∀ m : Int, (¬ (n = .int 0 ∨ 64 < m) → Q (.bl true) (upd H p (.ins C dx (flds L c x (.int m) wr)))) → ((n = .int 0 ∨ 64 < m) → Q (.bl false) H) → scal n (.int 0) = true →
        (tSeq (tIfS (tOr (tTest (tOp rEq (tFld K (tVar 0) "number") (tC (.int 0)))) (tTest (tOp (rI0 fun i j => .bl (decide (j < i))) (tVar 2) (tC (.int 64))))) (tRet (tC (.bl false))) tNext) (tSeq (sFld K (tVar 0) (tVar 2) "number") (tRet (tC (.bl true)))))
          { nx := fun _ H' => Q .non H', rt := Q } [some (.ref p), some (.int d), some (.int m)] H := by
      intro m q1 q2 hs
      refine ⟨_, rfl, p, C, dx, _, _, rfl, hp, T.cl, T.nn, look_n _ _ _ _ _, hs, _, rfl, ?_⟩
      refine ite2 (fun e => ?_) (fun e => ?_)
      · refine iteT ?_
        exact q2 (.inl (of_decide_eq_true e))
      · refine ⟨_, rfl, _, _, rfl, rfl, _, rfl, ?_⟩
        refine ite2 (fun e2 => ?_) (fun e2 => ?_)
        · exact q2 (.inr (of_decide_eq_true e2))
        · refine ⟨_, rfl, _, rfl, p, C, dx, _, rfl, hp, T.cl, T.nn, flds_len _ _ _ _ _, ?_⟩
          rw [put_n]
          exact q1 fun z => z.elim (fun z => e (decide_eq_true z)) fun z => e2 (decide_eq_true z)
    rcases hn with rfl | ⟨v, rfl, h0, h1⟩
    · refine ifF (by decide) ?_
      exact fin d k2 k1 rfl
    · refine ifT (by rw [nInt]; decide) ?_
      refine ⟨_, rfl, p, C, dx, _, _, rfl, hp, T.cl, T.nn, look_n _ _ _ _ _, _, _, rfl, rfl, .inl ⟨by omega, by omega⟩, _, rfl, _, _, rfl, rfl, ?_⟩
      exact fin (v * 10 + d) k2 k1 rfl
def spComma (C : Addr) : Sp := fun vs H Q _ => ∃ p dx L c x n wr, vs = [.ref p] ∧ H p = some (.ins C dx (flds L c x n wr)) ∧ (x ≠ .non → Q (.bl false) H) ∧ (x = .non → Q (.bl true) (upd H p (.ins C dx (flds L c n .non wr))))
theorem scComma : FnScope ["self"] ["self"] (defScope sComma) := ⟨rfl, rfl, rfl, by decide +kernel, rfl, by decide +kernel, by decide +kernel⟩
theorem ok_comma {f : Addr} {fd : FuncData} (F : Fun K "take_comma" "Reader.take_comma" sComma f fd) (G : Glo mg) (T : Rdr K mg C) : FnOk P w K mg base CX0 1 f fd ["self"] (spComma C) := by
  refine F.ok scComma (fun vs H Q E h => ?_) (fun cdv A outer s H vs Q E hr h => ?_)
  · obtain ⟨p, dx, L, c, x, n, wr, rfl, _⟩ := h
    rfl
  · obtain ⟨p, dx, L, c, x, n, wr, rfl, hp, k1, k2⟩ := h
    refine ⟨_, pss_cons (ps_if (pt_cmp (pc_notN (pe_fld (pv 0) rfl))) (pss_one (ps_ret pe_bl)) pss_nil)
      (pss_cons (ps_fld (pv 0) (pe_fld (pv 0) rfl) rfl) (pss_cons (ps_fld (pv 0) pe_non rfl) (pss_one (ps_ret pe_bl)))), ?_⟩
    refine ⟨_, rfl, p, C, dx, _, _, rfl, hp, T.cl, T.nx, look_x _ _ _ _ _, _, rfl, ?_⟩
    by_cases hx : x = .non
    · refine ifF (by rw [decide_eq_true hx]; decide) ?_
      refine ⟨_, rfl, p, C, dx, _, _, rfl, hp, T.cl, T.nn, look_n _ _ _ _ _, _, rfl, p, C, dx, _, rfl, hp, T.cl, T.nx, flds_len _ _ _ _ _, ?_⟩
      rw [put_x]
      refine ⟨_, rfl, p, C, dx, _, rfl, upd_same, T.cl, T.nn, flds_len _ _ _ _ _, ?_⟩
      rw [put_n, upd_upd]
      exact k2 hx
    · refine ifT (by rw [decide_eq_false hx]; decide) ?_
      exact k1 hx
def spEnd (C : Addr) : Sp := fun vs H Q _ => ∃ p dx L c wr, ∃ (x y : Int) (cs : List V), vs = [.ref p] ∧ H p = some (.ins C dx (flds L c (.int x) (.int y) wr)) ∧ H c = some (.lst cs) ∧ cs.length < 100000 ∧ (0 ≤ y ∧ y ≤ 64) ∧
  Q .non (upd (upd H c (.lst (cs ++ [.int (y * 256 + x)]))) p (.ins C dx (flds L c .non .non wr)))
theorem scEnd : FnScope ["self"] ["self"] (defScope sEnd) := ⟨rfl, rfl, rfl, by decide +kernel, rfl, by decide +kernel, by decide +kernel⟩
theorem ok_end {f fp : Addr} {fd fdp : FuncData} (F : Fun K "end_corner" "Reader.end_corner" sEnd f fd) (G : Glo mg) (T : Rdr K mg C) (cp : Cal P w K mg base 1 "place" ["x", "y"] spPlace fp fdp) : FnOk P w K mg base CX0 2 f fd ["self"] (spEnd C) := by
  refine F.ok scEnd (fun vs H Q E h => ?_) (fun cdv A outer s H vs Q E hr h => ?_)
  · obtain ⟨p, dx, L, c, wr, x, y, cs, rfl, _⟩ := h
    rfl
  · obtain ⟨p, dx, L, c, wr, x, y, cs, rfl, hp, hc, hl, hy, k⟩ := h
    have npc : p ≠ c := ne_of hp hc (by intro z; cases z)
    refine ⟨_, pss_cons (ps_expr (pe_bm PySem.F.plainAttrs_list PySem.F.slot_list_append PySem.F.type_list_append mt_append (pe_fld (pv 0) rfl) (pa_cons (pe_call cp.ok hr rfl cp.at_ cp.kp cp.b .nil pass0 (pa_cons (pe_fld (pv 0) rfl) (pa_cons (pe_fld (pv 0) rfl) pa_nil))) pa_nil)))
      (pss_cons (ps_fld (pv 0) pe_non rfl) (pss_one (ps_fld (pv 0) pe_non rfl))), ?_⟩
    refine ⟨_, rfl, p, C, dx, _, _, rfl, hp, T.cl, T.nc, look_c _ _ _ _ _, .inl ⟨rfl, _, SqL.of hc⟩, ?_⟩
    refine ⟨_, rfl, p, C, dx, _, _, rfl, hp, T.cl, T.nx, look_x _ _ _ _ _, _, rfl, p, C, dx, _, _, rfl, hp, T.cl, T.nn, look_n _ _ _ _ _, x, y, rfl, ⟨by omega, by omega⟩, ?_⟩
    refine ⟨c, cs, _, rfl, rfl, hc, lt_line (by omega), ?_⟩
    refine ⟨_, rfl, p, C, dx, _, rfl, (by rw [upd_ne npc]; exact hp), T.cl, T.nx, flds_len _ _ _ _ _, ?_⟩
    rw [put_x]
    refine ⟨_, rfl, p, C, dx, _, rfl, upd_same, T.cl, T.nn, flds_len _ _ _ _ _, ?_⟩
    rw [put_n, upd_upd]
    exact k
def spBlank (C : Addr) : Sp := fun vs H Q _ => ∃ p dx L c x n wr, ∃ (cs : List V), vs = [.ref p] ∧ H p = some (.ins C dx (flds L c x n wr)) ∧ H c = some (.lst cs) ∧ cs.length < 100000 ∧
  ((x = .non ∧ Q (.bl false) H) ∨ ∃ (a y : Int), x = .int a ∧ n = .int y ∧ (0 ≤ y ∧ y ≤ 64) ∧ Q (.bl true) (upd (upd H c (.lst (cs ++ [.int (y * 256 + a)]))) p (.ins C dx (flds L c .non .non wr))))
theorem scBlank : FnScope ["self"] ["self"] (defScope sBlank) := ⟨rfl, rfl, rfl, by decide +kernel, rfl, by decide +kernel, by decide +kernel⟩
theorem ok_blank {f fe : Addr} {fd fde : FuncData} (F : Fun K "take_blank" "Reader.take_blank" sBlank f fd) (G : Glo mg) (T : Rdr K mg C) (ce : Met P w K mg base C 2 "end_corner" ["self"] (spEnd C) fe fde) : FnOk P w K mg base CX0 3 f fd ["self"] (spBlank C) := by
  refine F.ok scBlank (fun vs H Q E h => ?_) (fun cdv A outer s H vs Q E hr h => ?_)
  · obtain ⟨p, dx, L, c, x, n, wr, cs, rfl, _⟩ := h
    rfl
  · obtain ⟨p, dx, L, c, x, n, wr, cs, rfl, hp, hc, hl, k⟩ := h
    refine ⟨_, pss_cons (ps_if (pt_cmp (pc_isN (pe_fld (pv 0) rfl))) (pss_one (ps_ret pe_bl)) pss_nil)
      (pss_cons (ps_expr (pe_meth0 (pv 0) T.cl ce.m ce.ok hr ce.b .nil pass0)) (pss_one (ps_ret pe_bl))), ?_⟩
    refine ⟨_, rfl, p, C, dx, _, _, rfl, hp, T.cl, T.nx, look_x _ _ _ _ _, _, rfl, ?_⟩
    rcases k with ⟨rfl, k⟩ | ⟨a, y, rfl, rfl, hy, k⟩
    · exact ifT (by decide) k
    · refine ifF (by rw [nInt]; decide) ?_
      refine ⟨_, rfl, p, dx, _, rfl, hp, look_no _ _ _ _ _ (by decide +kernel) (by decide +kernel) (by decide +kernel) (by decide +kernel) (by decide +kernel), p, dx, L, c, wr, a, y, cs, rfl, hp, hc, hl, hy, ?_⟩
      exact k
def spFeed (C : Addr) : Sp := fun vs H Q _ => ∃ p dx L c x n wr, ∃ (cs ls : List V), vs = [.ref p] ∧ H p = some (.ins C dx (flds L c x n wr)) ∧ H c = some (.lst cs) ∧ H L = some (.lst ls) ∧ L ≠ c ∧ cs.length < 100000 ∧ ls.length < 100000 ∧
  ((x = .non ∧ Q (.bl false) H) ∨ ∃ (a y : Int), x = .int a ∧ n = .int y ∧ (0 ≤ y ∧ y ≤ 64) ∧ (cs.length < 3 → Q (.bl false) H) ∧
    (3 ≤ cs.length → ∀ c', H c' = none → Q (.bl true) (upd (upd (upd (upd H c (.lst (cs ++ [.int (y * 256 + a)]))) L (.lst (ls ++ [.ref c]))) c' (.lst [])) p (.ins C dx (flds L c' .non .non wr)))))
theorem scFeed : FnScope ["self"] ["self"] (defScope sFeed) := ⟨rfl, rfl, rfl, by decide +kernel, rfl, by decide +kernel, by decide +kernel⟩
theorem ok_feed {f fe : Addr} {fd fde : FuncData} (F : Fun K "take_line_feed" "Reader.take_line_feed" sFeed f fd) (G : Glo mg) (GR : GRd mg) (T : Rdr K mg C) (ce : Met P w K mg base C 2 "end_corner" ["self"] (spEnd C) fe fde) : FnOk P w K mg base CX0 3 f fd ["self"] (spFeed C) := by
  obtain ⟨t, hlc⟩ := GR.lc
  refine F.ok scFeed (fun vs H Q E h => ?_) (fun cdv A outer s H vs Q E hr h => ?_)
  · obtain ⟨p, dx, L, c, x, n, wr, cs, ls, rfl, _⟩ := h
    rfl
  · obtain ⟨p, dx, L, c, x, n, wr, cs, ls, rfl, hp, hc, hL, nLc, hl, hl2, k⟩ := h
    have npc : p ≠ c := ne_of hp hc (by intro z; cases z)
    have npL : p ≠ L := ne_of hp hL (by intro z; cases z)
    refine ⟨_, pss_cons (ps_if (PW.pt (pw_or (pt_cmp (pc_isN (pe_fld (pv 0) rfl))) (pw_or1 (pt_cmpR op_lt (pe_op op_add (pe_callB call_len_seq (by rfl) G.len PySem.boot_len (pa_cons (pe_fld (pv 0) rfl) pa_nil)) pe_int) (pe_glob (v := .int 4) rfl hlc ⟨_, rfl⟩) (nomark _))))) (pss_one (ps_ret pe_bl)) pss_nil)
      (pss_cons (ps_expr (pe_meth0 (pv 0) T.cl ce.m ce.ok hr ce.b .nil pass0))
      (pss_cons (ps_expr (pe_bm PySem.F.plainAttrs_list PySem.F.slot_list_append PySem.F.type_list_append mt_append (pe_fld (pv 0) rfl) (pa_cons (pe_fld (pv 0) rfl) pa_nil)))
      (pss_cons (ps_fld (pv 0) (pe_lst pa_nil) rfl) (pss_one (ps_ret pe_bl))))), ?_⟩
    refine ⟨_, rfl, p, C, dx, _, _, rfl, hp, T.cl, T.nx, look_x _ _ _ _ _, _, rfl, ?_⟩
    rcases k with ⟨rfl, k⟩ | ⟨a, y, rfl, rfl, hy, k1, k2⟩
    · exact ifT (by decide) (iteT k)
    · refine ifF (by rw [nInt]; decide) ?_
      refine ⟨_, rfl, p, C, dx, _, _, rfl, hp, T.cl, T.nc, look_c _ _ _ _ _, c, _, rfl, .inl (SqL.of hc), _, _, rfl, rfl, _, _, rfl, rfl, _, rfl, ?_⟩
      refine ite2 (fun e => ?_) (fun e => ?_)
      · exact k1 (by have := of_decide_eq_true e; omega)
      · have e' : ¬ ((cs.length : Int) + 1 < 4) := fun z => e (decide_eq_true z)
        refine ⟨_, rfl, p, dx, _, rfl, hp, look_no _ _ _ _ _ (by decide +kernel) (by decide +kernel) (by decide +kernel) (by decide +kernel) (by decide +kernel), p, dx, L, c, wr, a, y, cs, rfl, hp, hc, hl, hy, ?_⟩
        have hLL : (upd (upd H c (.lst (cs ++ [.int (y * 256 + a)]))) p (.ins C dx (flds L c .non .non wr))) L = some (.lst ls) := by
          rw [upd_ne (Ne.symm npL), upd_ne nLc]; exact hL
        refine ⟨_, rfl, p, C, dx, _, _, rfl, upd_same, T.cl, T.nl, look_l _ _ _ _ _, .inl ⟨rfl, _, SqL.of hLL⟩, _, rfl, p, C, dx, _, _, rfl, upd_same, T.cl, T.nc, look_c _ _ _ _ _, L, ls, _, rfl, rfl, hLL, lt_line (by omega), ?_⟩
        refine ⟨by decide, fun c' hc' => ?_⟩
        have h1 : c' ≠ L := by rintro rfl; rw [upd_same] at hc'; cases hc'
        rw [upd_ne h1] at hc'
        have h2 : c' ≠ p := by rintro rfl; rw [upd_same] at hc'; cases hc'
        rw [upd_ne h2] at hc'
        have h3 : c' ≠ c := by rintro rfl; rw [upd_same] at hc'; cases hc'
        rw [upd_ne h3] at hc'
        refine ⟨_, rfl, p, C, dx, _, rfl, (by rw [upd_ne (Ne.symm h2), upd_ne npL, upd_same]), T.cl, T.nc, flds_len _ _ _ _ _, ?_⟩
        rw [put_c]
        have := k2 (by omega) c' hc'
        rw [upd_swap (a := p) (b := L) npL, upd_swap (a := p) (b := c') (Ne.symm h2), upd_upd]
        exact this
end
end Pf
namespace Pf
open PySem L2 Roof
open Rp (num ROk)
def Kp (S : List Addr) (H H' : Hp) : Prop := ∀ b o, H b = some o → b ∉ S → H' b = some o
theorem Kp.upd {S : List Addr} {H : Hp} {a : Addr} {o : HO} (h : a ∈ S) : Kp S H (L2.upd H a o) := fun b u e hb => by
  rw [L2.upd_ne (show b ≠ a from fun z => hb (by rw [z]; exact h))]; exact e
theorem Kp.new {S : List Addr} {H : Hp} {a : Addr} {o : HO} (h : H a = none) : Kp S H (L2.upd H a o) := fun b u e _ => by
  rw [upd_ne (ne_of_none e h)]; exact e
theorem Kp.trans {S : List Addr} {H H1 H2 : Hp} (h1 : Kp S H H1) (h2 : Kp S H1 H2) : Kp S H H2 := fun b u e hb => h2 b u (h1 b u e hb) hb
theorem Paired.memP {α β : Type} {F G : α → β → Prop} : ∀ {l₁ : List α} {l₂ : List β}, Paired F l₁ l₂ → (∀ a ∈ l₁, ∀ b, F a b → G a b) → Paired G l₁ l₂
  | _, _, .nil, _ => .nil
  | _, _, .cons r t, f => .cons (f _ (by simp) _ r) (Paired.memP t fun a ha => f a (List.mem_cons_of_mem _ ha))
def nI (q : Point) : V := .int (num q)
def xV (r : Reading) : V := if r.part = 2 ∨ r.part = 3 then .int r.east else .non
def nV (r : Reading) : V := if r.part = 1 ∨ r.part = 3 then .int r.val else .non
abbrev LinesAt (H : Hp) (ls : List Addr) (ws : List Walk) : Prop := Paired (fun a (w : Walk) => H a = some (.lst (w.map nI))) ls ws
structure RdAt (C : Addr) (H : Hp) (p dx L c : Addr) (ls : List Addr) (r : Reading) : Prop where
  ob : H p = some (.ins C dx (flds L c (xV r) (nV r) .non))
  ln : H L = some (.lst (ls.map V.ref))
  cs : H c = some (.lst (r.now.reverse.map nI))
  ws : LinesAt H ls r.done.reverse
  nLc : L ≠ c
  ncl : c ∉ ls
  nLl : L ∉ ls
section
variable {P : Program} {w : World} {K : PySem.W.Frag} {mg : Str → Option Value} {base : Heap} {C : Addr}
def spTake (C : Addr) : Sp := fun vs H Q _ => ∃ p dx L c, ∃ (ls : List Addr) (r : Reading) (b : UInt8), vs = [.ref p, .int (b.toNat : Int)] ∧ RdAt C H p dx L c ls r ∧ ROk r ∧ r.now.length < 90000 ∧ r.done.length < 90000 ∧
  (r.more b = none → Q (.bl false) H) ∧ (∀ s, r.more b = some s → ∀ H' c' ls', RdAt C H' p dx L c' ls' s → Kp [p, L, c] H H' → (c' = c ∨ H c' = none) → Q (.bl true) H')
theorem scTake : FnScope ["self", "byte"] ["self", "byte"] (defScope sTake) := ⟨rfl, rfl, rfl, by decide +kernel, rfl, by decide +kernel, by decide +kernel⟩
theorem lines_keep {H H' : Hp} {ls : List Addr} {ws : List Walk} (h : LinesAt H ls ws) (k : ∀ a ∈ ls, ∀ o, H a = some o → H' a = some o) : LinesAt H' ls ws := Paired.memP h fun a ha b e => k a ha _ e
theorem lines_lst {H : Hp} : ∀ {ls : List Addr} {ws : List Walk}, LinesAt H ls ws → ∀ a ∈ ls, ∃ xs, H a = some (.lst xs)
  | _, _, .nil, a, ha => by cases ha
  | _, _, .cons r t, a, ha => by
    rcases List.mem_cons.mp ha with rfl | ha
    · exact ⟨_, r⟩
    · exact lines_lst t a ha
theorem u8_eq {b : UInt8} {n : Nat} (hn : n < 256) : b.toNat = n ↔ b = UInt8.ofNat n := by
  constructor
  · intro h; rw [← h, UInt8.ofNat_toNat]
  · intro h; rw [h]; simp [UInt8.toNat_ofNat]; omega
theorem u8_int {b : UInt8} {n : Nat} (hn : n < 256) : ((b.toNat : Int) = (n : Int)) ↔ b = UInt8.ofNat n := by
  rw [← u8_eq hn]; omega
theorem ok_take {f fD fC fB fF : Addr} {fd fdD fdC fdB fdF : FuncData} (F : Fun K "take" "Reader.take" sTake f fd) (G : Glo mg) (GR : GRd mg) (T : Rdr K mg C) (mD : Met P w K mg base C 1 "take_digit" ["self", "digit"] (spDigit C) fD fdD)
    (mC : Met P w K mg base C 1 "take_comma" ["self"] (spComma C) fC fdC) (mB : Met P w K mg base C 3 "take_blank" ["self"] (spBlank C) fB fdB) (mF : Met P w K mg base C 3 "take_line_feed" ["self"] (spFeed C) fF fdF) : FnOk P w K mg base CX0 4 f fd ["self", "byte"] (spTake C) := by
  obtain ⟨t0, h0⟩ := G.d0
  obtain ⟨t9, h9⟩ := GR.d9
  obtain ⟨tc, hcm⟩ := G.comma
  obtain ⟨tb, hbl⟩ := G.blank
  obtain ⟨tl, hlf⟩ := G.lf
  refine F.ok scTake (fun vs H Q E h => ?_) (fun cdv A outer s H vs Q E hr h => ?_)
  · obtain ⟨p, dx, L, c, ls, r, b, rfl, _⟩ := h
    rfl
  · obtain ⟨p, dx, L, c, ls, r, b, rfl, R, ok, hl1, hl2, kN, kS⟩ := h
    have npc : p ≠ c := ne_of R.ob R.cs (by intro z; cases z)
    have npL : p ≠ L := ne_of R.ob R.ln (by intro z; cases z)
    have lsp : ∀ a ∈ ls, a ≠ p := fun a ha e => by
      obtain ⟨xs, hx⟩ := lines_lst R.ws a ha
      rw [e, R.ob] at hx; cases hx
    have lsc : ∀ a ∈ ls, a ≠ c := fun a ha e => R.ncl (e ▸ ha)
    have lsL : ∀ a ∈ ls, a ≠ L := fun a ha e => R.nLl (e ▸ ha)
    have clen : (r.now.reverse.map nI).length = r.now.length := by simp
    have llen : ls.length = r.done.length := by have := Paired.length R.ws; simpa using this
    have fld : ∀ {x n : V} {s : Reading}, s.now = r.now → s.done = r.done → xV s = x → nV s = n → RdAt C (upd H p (.ins C dx (flds L c x n .non))) p dx L c ls s := by
      intro x n s e1 e2 e3 e4
      subst e3 e4
      exact ⟨upd_same, by rw [upd_ne (Ne.symm npL)]; exact R.ln, by rw [upd_ne (Ne.symm npc), e1]; exact R.cs, by rw [e2]; exact lines_keep R.ws fun a ha o e => by rw [upd_ne (lsp a ha)]; exact e, R.nLc, R.ncl, R.nLl⟩
    have hr1 : Room 1 _ := hr.mono (by decide)
    have nm : ∀ {m : Str}, ¬ m = "lines" → ¬ m = "corners" → ¬ m = "x" → ¬ m = "number" → ¬ m = "wrong" → (flds L c (xV r) (nV r) .non).lookup m = none := fun a b c d e => look_no _ _ _ _ _ a b c d e
    refine ⟨_, pss_cons (ps_if (pt_chain op_le op_le (pe_glob (v := .int 48) rfl h0 ⟨_, rfl⟩) (pv 1) (pe_glob (v := .int 57) rfl h9 ⟨_, rfl⟩)) (pss_one (ps_ret (pe_meth (pv 0) T.cl mD.m mD.ok hr1 mD.b .nil pass0 (pa_cons (pe_op op_sub (pv 1) (pe_glob (v := .int 48) rfl h0 ⟨_, rfl⟩)) pa_nil)))) pss_nil)
      (pss_cons (ps_if (pt_cmp (pc_isN (pe_fld (pv 0) rfl))) (pss_one (ps_ret pe_bl)) pss_nil)
      (pss_cons (ps_if (pt_cmpR op_eq (pv 1) (pe_glob (v := .int 44) rfl hcm ⟨_, rfl⟩) (nomark _)) (pss_one (ps_ret (pe_meth0 (pv 0) T.cl mC.m mC.ok hr1 mC.b .nil pass0))) pss_nil)
      (pss_cons (ps_if (pt_cmpR op_eq (pv 1) (pe_glob (v := .int 32) rfl hbl ⟨_, rfl⟩) (nomark _)) (pss_one (ps_ret (pe_meth0 (pv 0) T.cl mB.m mB.ok hr mB.b .nil pass0))) pss_nil)
      (pss_cons (ps_if (pt_cmpR op_eq (pv 1) (pe_glob (v := .int 10) rfl hlf ⟨_, rfl⟩) (nomark _)) (pss_one (ps_ret (pe_meth0 (pv 0) T.cl mF.m mF.ok hr mF.b .nil pass0))) pss_nil)
      (pss_one (ps_ret pe_bl)))))), ?_⟩
    -- the chain
    suffices hh : (48 ≤ b.toNat ∧ b.toNat ≤ 57 → tRet (tMeth C "take_digit" (spDigit C) [] E0 (tVar 0) (tCons (tOp (rI0 fun i j => .int (i - j)) (tVar 1) (tC (.int 48))) tNil)) { nx := fun _ H' => Q .non H', rt := Q } [some (.ref p), some (.int (b.toNat : Int))] H) ∧
        (¬ (48 ≤ b.toNat ∧ b.toNat ≤ 57) → _) by
      refine ⟨_, rfl, _, _, rfl, rfl, _, rfl, ?_⟩
      refine ite2 (fun e => ?_) (fun e => ?_)
      · refine ⟨_, _, rfl, rfl, _, rfl, ?_⟩
        refine ite2 (fun e2 => ?_) (fun e2 => ?_)
        · exact hh.1 ⟨by have := of_decide_eq_true e; omega, by have := of_decide_eq_true e2; omega⟩
        · exact hh.2 fun z => e2 (decide_eq_true (by omega))
      · refine ⟨_, rfl, ?_⟩
        refine iteF ?_
        exact hh.2 fun z => e (decide_eq_true (by omega))
    constructor
    · -- a digit
      rintro ⟨d1, d2⟩
      have hdig : digit b = some (b.toNat - 48) := by unfold digit; rw [if_pos ⟨d1, d2⟩]
      have ed : (b.toNat : Int) - 48 = ((b.toNat - 48 : Nat) : Int) := by omega
      refine ⟨_, rfl, p, dx, _, rfl, R.ob, nm (by decide +kernel) (by decide +kernel) (by decide +kernel) (by decide +kernel) (by decide +kernel), _, rfl, _, _, rfl, rfl, ?_⟩
      refine ⟨p, dx, L, c, xV r, nV r, .non, (b.toNat : Int) - 48, rfl, R.ob, ?_, ?_, ?_⟩
      · unfold nV
        by_cases hp : r.part = 1 ∨ r.part = 3
        · rw [if_pos hp]; exact .inr ⟨_, rfl, by omega, by have := ok.val hp; omega⟩
        · rw [if_neg hp]; exact .inl rfl
      · intro hbad
        refine kN ?_
        unfold Reading.more
        rw [hdig]
        simp only
        by_cases hp : r.part = 1 ∨ r.part = 3
        · rw [if_neg (by omega)]
          have : r.val = 0 ∨ SIDE < 10 * r.val + (b.toNat - 48) := by
            unfold nV at hbad
            rw [if_pos hp] at hbad
            rcases hbad with z | z
            · left; have := V.int.inj z; omega
            · right; show 64 < _; simp only [dNum] at z; omega
          rw [if_pos this]
        · unfold nV at hbad
          rw [if_neg hp] at hbad
          rcases hbad with z | z
          · cases z
          · simp only [dNum] at z; omega
      · intro hgood
        have hp4 := ok.part
        by_cases hp : r.part = 1 ∨ r.part = 3
        · unfold nV at hgood ⊢
          rw [if_pos hp] at hgood ⊢
          have h1 : ¬ (r.val = 0 ∨ SIDE < 10 * r.val + (b.toNat - 48)) := by
            intro z
            apply hgood
            rcases z with z | z
            · left; rw [z]; rfl
            · right
              have z' : 64 < 10 * r.val + (b.toNat - 48) := z
              simp only [dNum]; omega
          have hm : r.more b = some { r with val := 10 * r.val + (b.toNat - 48) } := by
            unfold Reading.more
            rw [hdig]
            simp only
            rw [if_neg (by omega), if_neg h1]
          refine kS _ hm _ c ls (fld rfl rfl rfl ?_) (Kp.upd (by simp)) (.inl rfl)
          unfold nV
          rw [if_pos hp]
          simp only [dNum]
          congr 1
          omega
        · unfold nV at hgood ⊢
          rw [if_neg hp] at hgood ⊢
          have hm : r.more b = some { r with part := r.part + 1, val := b.toNat - 48 } := by
            unfold Reading.more
            rw [hdig]
            simp only
            rw [if_pos (by omega)]
          refine kS _ hm _ c ls (fld rfl rfl ?_ ?_) (Kp.upd (by simp)) (.inl rfl)
          · unfold xV
            simp only
            have : r.part = 0 ∨ r.part = 2 := by omega
            rcases this with z | z <;> simp [z]
          · unfold nV
            simp only
            rw [if_pos (by omega)]
            simp only [dNum]
            congr 1
            omega
    · -- no digit
      intro hd
      have hdig : digit b = none := by unfold digit; rw [if_neg hd]
      refine ⟨_, rfl, p, C, dx, _, _, rfl, R.ob, T.cl, T.nn, look_n _ _ _ _ _, _, rfl, ?_⟩
      have hp4 := ok.part
      have more_eq : r.more b = if r.part = 1 ∧ b = 44 then some { r with part := 2, east := r.val } else if r.part = 3 ∧ b = 32 then some { r with now := (r.east, r.val) :: r.now, part := 0 } else if r.part = 3 ∧ b = 10 ∧ 3 ≤ r.now.length then some { r with done := ((r.east, r.val) :: r.now).reverse :: r.done, now := [], part := 0 } else none := by
        unfold Reading.more
        rw [hdig]
      by_cases hp : r.part = 1 ∨ r.part = 3
      · have en : nV r = .int r.val := by unfold nV; rw [if_pos hp]
        rw [en]
        refine ifF (by rw [nInt]; decide) ?_
        refine ⟨_, rfl, rfl, _, rfl, ?_⟩
        refine ite2 (fun e => ?_) (fun e => ?_)
        · -- a comma
          have eb : b = 44 := (u8_int (n := 44) (by decide)).mp (V.int.inj (of_decide_eq_true e))
          refine ⟨_, rfl, p, dx, _, rfl, R.ob, nm (by decide +kernel) (by decide +kernel) (by decide +kernel) (by decide +kernel) (by decide +kernel), p, dx, L, c, xV r, nV r, .non, rfl, R.ob, fun hx => ?_, fun hx => ?_⟩
          · refine kN ?_
            have : r.part = 3 := by
              rcases hp with z | z
              · exfalso; apply hx; unfold xV; rw [if_neg (by omega)]
              · exact z
            rw [more_eq, if_neg (by omega), if_neg (fun z => absurd (eb.symm.trans z.2) (by decide)), if_neg (fun z => absurd (eb.symm.trans z.2.1) (by decide))]
          · have h1 : r.part = 1 := by
              rcases hp with z | z
              · exact z
              · exfalso; unfold xV at hx; rw [if_pos (.inr z)] at hx; cases hx
            have hm : r.more b = some { r with part := 2, east := r.val } := by rw [more_eq, if_pos ⟨h1, eb⟩]
            refine kS _ hm _ c ls (fld rfl rfl ?_ ?_) (Kp.upd (by simp)) (.inl rfl)
            · rw [en]; simp [xV]
            · simp [nV]
        · have nb : b ≠ 44 := fun z => e (decide_eq_true (congrArg V.int ((u8_int (n := 44) (by decide)).mpr z)))
          refine ⟨_, rfl, rfl, _, rfl, ?_⟩
          refine ite2 (fun e2 => ?_) (fun e2 => ?_)
          · -- a blank
            have eb : b = 32 := (u8_int (n := 32) (by decide)).mp (V.int.inj (of_decide_eq_true e2))
            refine ⟨_, rfl, p, dx, _, rfl, R.ob, nm (by decide +kernel) (by decide +kernel) (by decide +kernel) (by decide +kernel) (by decide +kernel), p, dx, L, c, xV r, nV r, .non, _, rfl, R.ob, R.cs, by rw [clen]; omega, ?_⟩
            rcases hp with z | z
            · left
              refine ⟨by unfold xV; rw [if_neg (by omega)], kN ?_⟩
              rw [more_eq, if_neg (fun y => nb y.2), if_neg (by omega), if_neg (by omega)]
            · right
              have hm : r.more b = some { r with now := (r.east, r.val) :: r.now, part := 0 } := by rw [more_eq, if_neg (by omega), if_pos ⟨z, eb⟩]
              refine ⟨r.east, r.val, by unfold xV; rw [if_pos (.inr z)], en, ⟨by omega, by have := ok.val (.inr z); omega⟩, kS _ hm _ c ls ?_ ((Kp.upd (by simp)).trans (Kp.upd (by simp))) (.inl rfl)⟩
              refine ⟨upd_same, by rw [upd_ne (Ne.symm npL), upd_ne R.nLc]; exact R.ln, by rw [upd_ne (Ne.symm npc), upd_same]; simp [nI, num], ?_, R.nLc, R.ncl, R.nLl⟩
              exact lines_keep R.ws fun a ha o e => by rw [upd_ne (lsp a ha), upd_ne (lsc a ha)]; exact e
          · have nb2 : b ≠ 32 := fun z => e2 (decide_eq_true (congrArg V.int ((u8_int (n := 32) (by decide)).mpr z)))
            refine ⟨_, rfl, rfl, _, rfl, ?_⟩
            refine ite2 (fun e3 => ?_) (fun e3 => ?_)
            · -- a line feed
              have eb : b = 10 := (u8_int (n := 10) (by decide)).mp (V.int.inj (of_decide_eq_true e3))
              refine ⟨_, rfl, p, dx, _, rfl, R.ob, nm (by decide +kernel) (by decide +kernel) (by decide +kernel) (by decide +kernel) (by decide +kernel), p, dx, L, c, xV r, nV r, .non, _, _, rfl, R.ob, R.cs, R.ln, R.nLc, by rw [clen]; omega, by rw [List.length_map]; omega, ?_⟩
              rcases hp with z | z
              · left
                refine ⟨by unfold xV; rw [if_neg (by omega)], kN ?_⟩
                rw [more_eq, if_neg (fun y => nb y.2), if_neg (by omega), if_neg (by omega)]
              · right
                refine ⟨r.east, r.val, by unfold xV; rw [if_pos (.inr z)], en, ⟨by omega, by have := ok.val (.inr z); omega⟩, fun hl => kN ?_, fun hl c' hc' => ?_⟩
                · rw [clen] at hl
                  rw [more_eq, if_neg (fun y => nb y.2), if_neg (fun y => nb2 y.2), if_neg (by omega)]
                · rw [clen] at hl
                  have hm : r.more b = some { r with done := ((r.east, r.val) :: r.now).reverse :: r.done, now := [], part := 0 } := by rw [more_eq, if_neg (fun y => nb y.2), if_neg (fun y => nb2 y.2), if_pos ⟨z, eb, hl⟩]
                  have n1 : c' ≠ p := fun z => by rw [z, R.ob] at hc'; cases hc'
                  have n2 : c' ≠ L := fun z => by rw [z, R.ln] at hc'; cases hc'
                  have n3 : c' ≠ c := fun z => by rw [z, R.cs] at hc'; cases hc'
                  have n4 : ∀ a ∈ ls, a ≠ c' := fun a ha z => by
                    obtain ⟨xs, hx⟩ := lines_lst R.ws a ha
                    rw [z, hc'] at hx; cases hx
                  have kp1 : Kp [p, L, c] H (upd (upd (upd (upd H c (.lst (r.now.reverse.map nI ++ [.int ((r.val : Int) * 256 + r.east)]))) L (.lst (ls.map V.ref ++ [.ref c]))) c' (.lst [])) p (.ins C dx (flds L c' .non .non .non))) := by
                    refine (Kp.upd (by simp)).trans ((Kp.upd (by simp)).trans ((Kp.new ?_).trans (Kp.upd (by simp))))
                    rw [upd_ne n2, upd_ne n3]; exact hc'
                  refine kS _ hm _ c' (ls ++ [c]) ?_ kp1 (.inr hc')
                  refine ⟨upd_same, ?_, ?_, ?_, Ne.symm n2, ?_, ?_⟩
                  · rw [upd_ne (Ne.symm npL), upd_ne (Ne.symm n2), upd_same]; simp
                  · rw [upd_ne n1, upd_same]; rfl
                  · show LinesAt _ (ls ++ [c]) (((r.east, r.val) :: r.now).reverse :: r.done).reverse
                    rw [List.reverse_cons]
                    refine Paired.snoc (lines_keep R.ws fun a ha o e => ?_) ?_
                    · rw [upd_ne (lsp a ha), upd_ne (n4 a ha), upd_ne (lsL a ha), upd_ne (lsc a ha)]; exact e
                    · show _ = some _
                      rw [upd_ne (Ne.symm npc), upd_ne (Ne.symm n3), upd_ne (Ne.symm R.nLc), upd_same]
                      simp [nI, num]
                  · intro hm
                    rcases List.mem_append.mp hm with hm | hm
                    · exact n4 _ hm rfl
                    · exact n3 (by simpa using hm)
                  · intro hm
                    rcases List.mem_append.mp hm with hm | hm
                    · exact R.nLl hm
                    · exact R.nLc (by simpa using hm)
            · have nb3 : b ≠ 10 := fun z => e3 (decide_eq_true (congrArg V.int ((u8_int (n := 10) (by decide)).mpr z)))
              refine kN ?_
              rw [more_eq, if_neg (fun y => nb y.2), if_neg (fun y => nb2 y.2), if_neg (fun y => nb3 y.2.1)]
      · have en : nV r = .non := by unfold nV; rw [if_neg hp]
        rw [en]
        refine ifT (by decide) ?_
        refine kN ?_
        rw [more_eq, if_neg (by omega), if_neg (by omega), if_neg (by omega)]
end
end Pf
namespace Pf
open PySem L2 Roof
open Rp (num ROk)
abbrev bytesOf (ns : List Int) : Bytes := RoofANeutral.text ns
theorem bytesOf_eq (ns : List Int) : bytesOf ns = ns.map fun x => UInt8.ofNat x.toNat := by
  show (ns.map Int.toNat).map UInt8.ofNat = _
  rw [List.map_map]; rfl
theorem bytesOf_len (ns : List Int) : (bytesOf ns).length = ns.length := by rw [bytesOf_eq]; simp
theorem byte_back {x : Int} (h0 : 0 ≤ x) (h1 : x ≤ 255) : ((UInt8.ofNat x.toNat).toNat : Int) = x := by
  have : (UInt8.ofNat x.toNat).toNat = x.toNat := by simp [UInt8.toNat_ofNat]; omega
  rw [this]; omega
def endsLine (r : Reading) : Prop := r.part = 0 ∧ r.now = [] ∧ r.done ≠ []
instance decEndsLine (r : Reading) : Decidable (endsLine r) := inferInstanceAs (Decidable (r.part = 0 ∧ r.now = [] ∧ r.done ≠ []))
theorem more_ends {r s : Reading} {b : UInt8} (h : r.more b = some s) : endsLine s ↔ b = 10 := by
  unfold Reading.more at h
  unfold endsLine
  cases hd : digit b with
  | some d =>
    obtain ⟨d10, hb, _⟩ := Rp.digit_some hd
    have hb10 : b ≠ 10 := by
      intro z
      rw [z] at hd
      have h10 : digit 10 = none := by decide
      rw [h10] at hd
      cases hd
    simp only [hd] at h
    by_cases h0 : r.part = 0 ∨ r.part = 2
    · rw [if_pos h0] at h
      cases h
      simp only
      constructor
      · intro z; omega
      · intro z; exact absurd z hb10
    · rw [if_neg h0] at h
      split at h
      · cases h
      · cases h
        simp only
        constructor
        · intro z; omega
        · intro z; exact absurd z hb10
  | none =>
    simp only [hd] at h
    split at h
    · rename_i hc
      cases h
      simp only
      constructor
      · intro z; exact absurd z.1 (by decide)
      · intro z; exact absurd (hc.2.symm.trans z) (by decide)
    · split at h
      · rename_i hc
        cases h
        simp only
        constructor
        · intro z; exact absurd z.2.1 (by simp)
        · intro z; exact absurd (hc.2.symm.trans z) (by decide)
      · split at h
        · rename_i hc
          cases h
          simp only
          exact ⟨fun _ => hc.2.1, fun _ => ⟨trivial, trivial, by simp⟩⟩
        · cases h
theorem more_size {r s : Reading} {b : UInt8} (h : r.more b = some s) : s.now.length + s.done.length ≤ r.now.length + r.done.length + 1 := by
  unfold Reading.more at h
  split at h
  · split at h
    · cases h; simp
    · split at h
      · cases h
      · cases h; simp
  · split at h
    · cases h; simp
    · split at h
      · cases h; simp; try omega
      · split at h
        · cases h; simp; try omega
        · cases h
abbrev r00 : Reading := ⟨[], [], 0, 0, 0⟩
section
variable {P : Program} {w : World} {K : PySem.W.Frag} {mg : Str → Option Value} {base : Heap} {C : Addr}
def spRead (K : PySem.W.Frag) (C : Addr) : Sp := fun vs H Q _ => ∃ (a : Addr) (ns : List Int), vs = [.ref a] ∧ SqL K H a (ns.map V.int) ∧ ns.length ≤ 4096 ∧ (∀ x ∈ ns, 0 ≤ x ∧ x ≤ 255) ∧
  ∀ (H' : Hp) (p dx L c : Addr) (ls : List Addr) (x n : V), Same H H' →
    (∀ e : Nat, readWalks (bytesOf ns) = .error e → H' p = some (.ins C dx (flds L c x n (.int (e : Int)))) → Q (.ref p) H') ∧
    (∀ ws, readWalks (bytesOf ns) = .ok ws → H' p = some (.ins C dx (flds L c x n .non)) → H' L = some (.lst (ls.map V.ref)) → LinesAt H' ls ws → Q (.ref p) H')
theorem scRead : FnScope ["t", "reader", "at", "byte"] ["t"] (defScope sRead) := ⟨rfl, rfl, rfl, by decide +kernel, rfl, by decide +kernel, by decide +kernel⟩
theorem last_at {ns : List Int} (h : ns ≠ []) : atI (ns.map V.int) (-1) = some (.int (ns.getLast h)) := by
  have e := List.dropLast_concat_getLast h
  have : ns.map V.int = (ns.dropLast.map V.int) ++ [V.int (ns.getLast h)] := by
    conv => lhs; rw [← e]
    simp
  rw [this]
  exact atI_last _ _
theorem ok_read {f fI fT : Addr} {fd fdI fdT : FuncData} (F : Fun K "read_text" "read_text" sRead f fd) (G : Glo mg) (T : Rdr K mg C) (M : Mk K C fI) (bI : Binds K fdI ["self"] []) (GI : FnOk P w K mg base CX0 1 fI fdI ["self"] (spInit C))
    (mT : Met P w K mg base C 4 "take" ["self", "byte"] (spTake C) fT fdT) : FnOk P w K mg base CX0 5 f fd ["t"] (spRead K C) := by
  obtain ⟨tl, hlf⟩ := G.lf
  refine F.ok scRead (fun vs H Q E h => ?_) (fun cdv A outer s H vs Q E hr h => ?_)
  · obtain ⟨a, ns, rfl, _⟩ := h
    rfl
  · obtain ⟨a, ns, rfl, hS, hlen, hbd, k⟩ := h
    have hr2 : Room 2 _ := hr.mono (by decide)
    refine ⟨_, pss_cons (ps_set (i := 1) scRead.nd rfl (Or.inl rfl) (pe_make0 M GI hr2 rfl T.at_ bI .nil pass0))
      (pss_cons (ps_for PassesOwn.never rfl (pi_enum rfl G.enum (pa_cons (pv 0) pa_nil)) (pg_tup rfl (pgs_cons (pg_name (i := 2) scRead.nd rfl (Or.inl rfl)) (pgs_cons (pg_name (i := 3) scRead.nd rfl (Or.inl rfl)) pgs_nil)))
        (pss_one (ps_if (pt_not (pt_val (pe_meth (pv 1) T.cl mT.m mT.ok hr mT.b .nil pass0 (pa_cons (pv 3) pa_nil)))) (pss_cons (ps_fld (pv 1) (pv 2) rfl) (pss_one (ps_ret (pv 1)))) pss_nil)))
      (pss_cons (ps_if (PW.pt (pw_or (pt_cmpR op_eq (pe_callB call_len_seq (by rfl) G.len PySem.boot_len (pa_cons (pv 0) pa_nil)) pe_int (nomark _)) (pw_or1 (pt_cmpR op_ne (pe_ix ix_list (pv 0) (pe_un un_neg pe_int) (fun _ _ => rfl)) (pe_glob (v := .int 10) rfl hlf ⟨_, rfl⟩) (nomark _)))))
        (pss_one (ps_fld (pv 1) (pe_callB call_len_seq (by rfl) G.len PySem.boot_len (pa_cons (pv 0) pa_nil)) rfl)) pss_nil)
      (pss_one (ps_ret (pv 1))))), ?_⟩
    -- reader = Reader()
    intro p dx np ndx nex
    refine ⟨p, dx, rfl, upd_same, fun L c hL hc hLc => ⟨rfl, ?_⟩⟩
    have nLp : L ≠ p := by rintro rfl; rw [upd_same] at hL; cases hL
    rw [upd_ne nLp] at hL
    have nLdx : L ≠ dx := by rintro rfl; rw [upd_same] at hL; cases hL
    rw [upd_ne nLdx] at hL
    have ncp : c ≠ p := by rintro rfl; rw [upd_same] at hc; cases hc
    rw [upd_ne ncp] at hc
    have ncdx : c ≠ dx := by rintro rfl; rw [upd_same] at hc; cases hc
    rw [upd_ne ncdx] at hc
    have s0 : Same H (upd (upd (upd (upd (upd H dx (.own p)) p (.ins C dx [])) L (.lst [])) c (.lst [])) p (.ins C dx (flds L c .non .non .non))) := fun b o e => by
      rw [upd_ne (ne_of_none e np), upd_ne (ne_of_none e hc), upd_ne (ne_of_none e hL), upd_ne (ne_of_none e np), upd_ne (ne_of_none e ndx)]; exact e
    have R0 : RdAt C (upd (upd (upd (upd (upd H dx (.own p)) p (.ins C dx [])) L (.lst [])) c (.lst [])) p (.ins C dx (flds L c .non .non .non))) p dx L c [] r00 :=
      ⟨upd_same, by rw [upd_ne nLp, upd_ne hLc, upd_same]; rfl, by rw [upd_ne ncp, upd_same]; rfl, .nil, hLc, by simp, by simp⟩
    refine ⟨_, rfl, a, _, rfl, s0.seq hS, for_enum (K := K) (a := a) (xs := ns.map V.int) (fun i σ H2 => ∃ (c : Addr) (ls : List Addr) (r : Reading) (v2 v3 : Option V), σ = [some (.ref a), some (.ref p), v2, v3] ∧ Same H H2 ∧ RdAt C H2 p dx L c ls r ∧ ROk r ∧ H c = none ∧
        r.now.length + r.done.length ≤ i ∧ readFrom 0 r00 (bytesOf ns) = readFrom i r ((bytesOf ns).drop i) ∧ (i = 0 → ¬ endsLine r) ∧ (∀ j, i = j + 1 → ∀ z, ns[j]? = some z → (endsLine r ↔ z = 10)))
      ⟨c, [], r00, none, none, rfl, s0, R0, Rp.r0_ok, hc, by simp, by simp, fun _ z => z.2.2 rfl, fun j e => by omega⟩ (fun i σ H2 _ ⟨_, _, _, _, _, _, s2, _⟩ => s2.seq hS) ?_ ?_⟩
    · rintro i y σ H2 TT hi hT ⟨c, ls, r, v2, v3, rfl, s2, R, ok, hcn, hsz, hrd, _, _⟩
      have hil : i < ns.length := by
        have := (List.getElem?_eq_some_iff.mp hi).1
        simpa using this
      obtain ⟨z, hz, rfl⟩ : ∃ z, ns[i]? = some z ∧ y = V.int z := by
        rw [List.getElem?_map] at hi
        cases e : ns[i]? with
        | none => rw [e] at hi; cases hi
        | some z => rw [e] at hi; exact ⟨z, rfl, (Option.some.inj hi).symm⟩
      obtain ⟨z0, z1⟩ := hbd z (List.mem_of_getElem? hz)
      have hdrop : (bytesOf ns).drop i = UInt8.ofNat z.toNat :: (bytesOf ns).drop (i + 1) := by
        rw [List.drop_eq_getElem_cons (by rw [bytesOf_len]; exact hil)]
        congr 1
        have : (bytesOf ns)[i]? = some (UInt8.ofNat z.toNat) := by rw [bytesOf_eq, List.getElem?_map, hz]; rfl
        exact (List.getElem?_eq_some_iff.mp this).2
      have s3 : Same H2 (upd H2 TT (.tup [.int (i : Nat), .int z])) := fun b o e => by rw [upd_ne (ne_of_none e hT)]; exact e
      have R3 : RdAt C (upd H2 TT (.tup [.int (i : Nat), .int z])) p dx L c ls r :=
        ⟨s3 _ _ R.ob, s3 _ _ R.ln, s3 _ _ R.cs, lines_keep R.ws fun b _ o e => s3 b o e, R.nLc, R.ncl, R.nLl⟩
      refine ⟨TT, _, rfl, SqT.of upd_same, rfl, _, _, rfl, _, _, rfl, rfl, ?_⟩
      -- if not reader.take(byte)
      refine ⟨_, rfl, p, dx, _, rfl, R3.ob, look_no _ _ _ _ _ (by decide +kernel) (by decide +kernel) (by decide +kernel) (by decide +kernel) (by decide +kernel), _, rfl, p, dx, L, c, ls, r, UInt8.ofNat z.toNat, ?_, R3, ok, by omega, by omega, fun hm => ?_, fun s' hm H4 c' ls' R4 kp hc' => ?_⟩
      · show [V.ref p, V.int z] = _
        rw [byte_back z0 z1]
      · refine ⟨_, rfl, ?_⟩
        refine ifT (by decide) ?_
        refine ⟨_, rfl, _, rfl, p, C, dx, _, rfl, R3.ob, T.cl, T.nw, flds_len _ _ _ _ _, ?_⟩
        rw [put_w]
        refine ⟨_, rfl, ?_⟩
        have e : readWalks (bytesOf ns) = .error i := by
          show readFrom 0 r00 (bytesOf ns) = _
          rw [hrd, hdrop, readFrom, hm]
        refine (k _ p dx L c ls _ _ ?_).1 i e upd_same
        intro b o eb
        rw [upd_ne (ne_of_none eb np)]
        exact s3 _ _ (s2 _ _ eb)
      · refine ⟨_, rfl, ?_⟩
        refine ifF (by decide) ?_
        have hc0 : H c' = none := by
          rcases hc' with z | z
          · rw [z]; exact hcn
          · cases q : H c' with
            | none => rfl
            | some o => rw [s3 _ _ (s2 _ _ q)] at z; cases z
        refine ⟨c', ls', s', _, _, rfl, fun b o eb => ?_, R4, (Rp.more_ok ok hm).1, hc0, ?_, ?_, fun e => by omega, fun j e z' hz' => ?_⟩
        · refine kp b o (s3 _ _ (s2 _ _ eb)) fun hmem => ?_
          simp only [List.mem_cons, List.not_mem_nil, or_false] at hmem
          rcases hmem with z | z | z
          · exact ne_of_none eb np z
          · exact ne_of_none eb hL z
          · exact ne_of_none eb hcn z
        · have := more_size hm; omega
        · rw [hrd, hdrop, readFrom, hm]
        · have : i = j := by omega
          subst this
          rw [hz] at hz'
          cases hz'
          rw [more_ends hm]
          constructor
          · intro e
            have := byte_back z0 z1
            rw [e] at this
            have h10 : ((10 : UInt8).toNat : Int) = 10 := rfl
            omega
          · intro e; rw [e]; rfl
    · rintro σ H2 ⟨c, ls, r, v2, v3, rfl, s2, R, ok, hcn, hsz, hrd, hz0, hz1⟩
      rw [List.length_map] at hsz hrd hz0 hz1
      have hS2 := s2.seq hS
      have hfin : readWalks (bytesOf ns) = (if endsLine r then Except.ok r.done.reverse else Except.error ns.length : Except Nat (List Walk)) := by
        show readFrom 0 r00 (bytesOf ns) = _
        rw [hrd, List.drop_eq_nil_of_le (by rw [bytesOf_len]; omega)]
        rfl
      have wrong : ¬ endsLine r → (tSeq (sFld K (tVar 1) (tCB (fun xs H Q => ∃ p ys, xs = [.ref p] ∧ (SqL K H p ys ∨ SqT K H p ys) ∧ Q (.int ys.length) H) (tCons (tVar 0) tNil)) "wrong") (tRet (tVar 1))) { nx := fun _ H' => Q .non H', rt := Q } [some (.ref a), some (.ref p), v2, v3] H2 := by
        intro hne
        refine ⟨_, rfl, a, _, rfl, .inl hS2, _, rfl, p, C, dx, _, rfl, R.ob, T.cl, T.nw, flds_len _ _ _ _ _, ?_⟩
        rw [put_w]
        refine ⟨_, rfl, ?_⟩
        rw [if_neg hne] at hfin
        refine (k _ p dx L c ls _ _ ?_).1 _ hfin (by rw [List.length_map]; exact upd_same)
        intro b o eb
        rw [upd_ne (ne_of_none eb np)]
        exact s2 _ _ eb
      refine ⟨_, rfl, a, _, rfl, .inl hS2, rfl, _, rfl, ?_⟩
      refine ite2 (fun e => ?_) (fun e => ?_)
      · have e' := V.int.inj (of_decide_eq_true e)
        rw [List.length_map] at e'
        exact wrong (hz0 (by omega))
      · have hne : ns ≠ [] := fun z => e (decide_eq_true (by rw [z]; rfl))
        refine ⟨_, rfl, _, rfl, a, _, _, _, rfl, rfl, hS2, last_at hne, rfl, _, rfl, ?_⟩
        have hpos : 0 < ns.length := List.length_pos_iff.mpr hne
        have hlast : ns[ns.length - 1]? = some (ns.getLast hne) := by rw [List.getLast_eq_getElem]; exact List.getElem?_eq_getElem _
        have hiff := hz1 (ns.length - 1) (by omega) _ hlast
        by_cases h10 : ns.getLast hne = 10
        · refine ifF (by rw [decide_eq_true (congrArg V.int h10)]; decide) ?_
          refine ⟨_, rfl, ?_⟩
          rw [if_pos (hiff.mpr h10)] at hfin
          exact (k _ p dx L c ls _ _ s2).2 _ hfin R.ob R.ln R.ws
        · refine ifT (by rw [decide_eq_false (fun z => h10 (V.int.inj z))]; decide) ?_
          exact wrong fun z => h10 (hiff.mp z)
end
end Pf
namespace Pf
open PySem L2 Roof
open Rp (num ROk WB PB rightW Ali prevAt nth upsSide upsOf upsAll cover span RiseI)
theorem nI_at {w : Walk} {k : Nat} (h : k < w.length) : (w.map nI)[k]? = some (nI (nth w k)) := by
  rw [List.getElem?_map, List.getElem?_eq_getElem h]
  unfold nth
  rw [List.getD_eq_getElem?_getD, List.getElem?_eq_getElem h]
  rfl
theorem prev_at {w : Walk} {k : Nat} (h : k < w.length) : atI (w.map nI) ((k : Int) - 1) = some (nI (prevAt w k)) := by
  unfold prevAt Rp.prevOr
  by_cases h0 : k = 0
  · rw [if_pos h0, h0]
    have hne : w ≠ [] := by intro z; rw [z] at h; simp at h
    have e := List.dropLast_concat_getLast hne
    have e2 : w.map nI = (w.dropLast.map nI) ++ [nI (w.getLast hne)] := by
      conv => lhs; rw [← e]
      simp
    rw [e2]
    have e3 : w.getLastD (0, 0) = w.getLast hne := by
      rw [List.getLastD_eq_getLast?, List.getLast?_eq_some_getLast hne]; rfl
    rw [e3]
    exact atI_last _ _
  · rw [if_neg h0]
    exact at_of (j := k - 1) (by omega) (nI_at (by omega))
theorem wb_lt {w : Walk} (h : WB w) {q : Point} (hq : q ∈ w) : q.1 < 256 := by have := (h q hq).1; omega
section
variable {P : Program} {w : World} {K : PySem.W.Frag} {mg : Str → Option Value} {base : Heap}
structure LinesIn (H : Hp) (L : Addr) (ls : List Addr) (ws : List Walk) : Prop where
  ln : H L = some (.lst (ls.map V.ref))
  all : LinesAt H ls ws
  bd : ∀ w ∈ ws, WB w
theorem LinesIn.keep {H H' : Hp} {L : Addr} {ls : List Addr} {ws : List Walk} (h : LinesIn H L ls ws) (s : Same H H') : LinesIn H' L ls ws :=
  ⟨s _ _ h.ln, lines_keep h.all fun a _ o e => s a o e, h.bd⟩
theorem LinesIn.at_ {H : Hp} {L : Addr} {ls : List Addr} {ws : List Walk} (h : LinesIn H L ls ws) {i : Nat} {x : V} (e : (ls.map V.ref)[i]? = some x) : ∃ a w, x = .ref a ∧ ws[i]? = some w ∧ H a = some (.lst (w.map nI)) ∧ WB w ∧ w ∈ ws := by
  rw [List.getElem?_map] at e
  cases he : ls[i]? with
  | none => rw [he] at e; cases e
  | some a =>
    rw [he] at e
    obtain ⟨b, hb, hg⟩ := paired_get h.all he
    have hm := List.mem_of_getElem? hb
    exact ⟨a, b, (Option.some.inj e).symm, hb, hg, h.bd b hm, hm⟩
theorem LinesIn.len {H : Hp} {L : Addr} {ls : List Addr} {ws : List Walk} (h : LinesIn H L ls ws) : (ls.map V.ref).length = ws.length := by
  rw [List.length_map]; exact Paired.length h.all
def spRight : Sp := fun vs H Q _ => ∃ (L : Addr) (ls : List Addr) (ws : List Walk), vs = [.ref L] ∧ LinesIn H L ls ws ∧ ∀ H', Same H H' → ((∀ w ∈ ws, rightW w) → Q (.bl true) H') ∧ ((¬ ∀ w ∈ ws, rightW w) → Q (.bl false) H')
theorem scRight : FnScope ["lines", "line", "k", "corner", "before"] ["lines"] (defScope sRight) := ⟨rfl, rfl, rfl, by decide +kernel, rfl, by decide +kernel, by decide +kernel⟩
theorem ok_right {f fE fN : Addr} {fd fdE fdN : FuncData} (F : Fun K "at_right_angles" "at_right_angles" sRight f fd) (G : Glo mg) (cE : Cal P w K mg base 1 "eastward" ["spot"] spEast fE fdE) (cN : Cal P w K mg base 1 "northward" ["spot"] spNorth fN fdN) :
    FnOk P w K mg base CX0 2 f fd ["lines"] spRight := by
  refine F.ok scRight (fun vs H Q E h => ?_) (fun cdv A outer s H vs Q E hr h => ?_)
  · obtain ⟨L, ls, ws, rfl, _⟩ := h
    rfl
  · obtain ⟨L, ls, ws, rfl, hL, k⟩ := h
    refine ⟨_, pss_cons (ps_for PassesOwn.never rfl (pi_list (pv 0)) (pg_name (i := 1) scRight.nd rfl (Or.inl rfl))
        (pss_one (ps_for PassesOwn.never rfl (pi_enum rfl G.enum (pa_cons (pv 1) pa_nil)) (pg_tup rfl (pgs_cons (pg_name (i := 2) scRight.nd rfl (Or.inl rfl)) (pgs_cons (pg_name (i := 3) scRight.nd rfl (Or.inl rfl)) pgs_nil)))
          (pss_cons (ps_set (i := 4) scRight.nd rfl (Or.inl rfl) (pe_ix ix_list (pv 1) (pe_op op_sub (pv 2) pe_int) (fun _ _ => rfl)))
          (pss_one (ps_if (PW.pt (pw_and (pt_cmpR op_ne (pe_call cE.ok hr rfl cE.at_ cE.kp cE.b .nil pass0 (pa_cons (pv 4) pa_nil)) (pe_call cE.ok hr rfl cE.at_ cE.kp cE.b .nil pass0 (pa_cons (pv 3) pa_nil)) (nomark _))
            (pw_and1 (pt_cmpR op_ne (pe_call cN.ok hr rfl cN.at_ cN.kp cN.b .nil pass0 (pa_cons (pv 4) pa_nil)) (pe_call cN.ok hr rfl cN.at_ cN.kp cN.b .nil pass0 (pa_cons (pv 3) pa_nil)) (nomark _))))) (pss_one (ps_ret pe_bl)) pss_nil))))))
      (pss_one (ps_ret pe_bl)), ?_⟩
    refine ⟨_, rfl, L, rfl, ⟨_, SqL.of hL.ln⟩, for_list (K := K) (a := L) (xs := ls.map V.ref) (fun i σ H2 => ∃ v1 v2 v3 v4, σ = [some (.ref L), v1, v2, v3, v4] ∧ Same H H2 ∧ ∀ j w, j < i → ws[j]? = some w → rightW w)
      ⟨none, none, none, none, rfl, Same.refl _, fun j w h => by omega⟩ (fun i σ H2 _ ⟨_, _, _, _, _, s2, _⟩ => SqL.of (hL.keep s2).ln) ?_ ?_⟩
    · rintro i x σ H2 hi ⟨v1, v2, v3, v4, rfl, s2, hdone⟩
      obtain ⟨al, wk, rfl, hw, ha, hb, hm⟩ := (hL.keep s2).at_ hi
      refine ⟨_, rfl, al, _, rfl, SqL.of ha, for_enum (K := K) (a := al) (xs := wk.map nI) (fun k σ H3 => ∃ v2 v3 v4, σ = [some (.ref L), some (.ref al), v2, v3, v4] ∧ Same H2 H3 ∧ ∀ j, j < k → Ali (prevAt wk j) (nth wk j))
        ⟨v2, v3, v4, rfl, Same.refl _, fun j h => by omega⟩ (fun k σ H3 _ ⟨_, _, _, _, s3, _⟩ => SqL.of (s3 _ _ ha)) ?_ ?_⟩
      · rintro kk y σ H3 TT hk hT ⟨v2, v3, v4, rfl, s3, hal⟩
        have hkl : kk < wk.length := by
          have := (List.getElem?_eq_some_iff.mp hk).1
          simpa using this
        rw [nI_at hkl] at hk
        cases hk
        have s4 : Same H3 (upd H3 TT (.tup [.int (kk : Nat), nI (nth wk kk)])) := fun b o e => by rw [upd_ne (ne_of_none e hT)]; exact e
        refine ⟨TT, _, rfl, SqT.of upd_same, rfl, _, _, rfl, _, _, rfl, rfl, ?_⟩
        refine ⟨_, rfl, _, rfl, _, _, rfl, rfl, al, _, _, _, rfl, rfl, SqL.of (s4 _ _ (s3 _ _ ha)), prev_at hkl, ?_⟩
        have b1 := wb_lt hb (Rp.prevAt_mem hkl)
        have b2 := wb_lt hb (Rp.nth_mem hkl)
        refine ⟨_, rfl, _, rfl, _, rfl, _, rfl, rfl, _, rfl, ?_⟩
        have go : Ali (prevAt wk kk) (nth wk kk) → ∃ v2 v3 v4, [some (V.ref L), some (V.ref al), some (V.int (kk : Nat)), some (nI (nth wk kk)), some (nI (prevAt wk kk))] = [some (.ref L), some (.ref al), v2, v3, v4] ∧ Same H2 (upd H3 TT (.tup [.int (kk : Nat), nI (nth wk kk)])) ∧ ∀ j, j < kk + 1 → Ali (prevAt wk j) (nth wk j) := fun hA =>
          ⟨_, _, _, rfl, s3.trans s4, fun j hj => by
            by_cases e : j = kk
            · rw [e]; exact hA
            · exact hal j (by omega)⟩
        by_cases e1 : (prevAt wk kk).1 = (nth wk kk).1
        · refine ifF (by rw [Rp.num_mod b1, Rp.num_mod b2, e1, decide_eq_true rfl]; decide) ?_
          refine iteF ?_
          exact go (.inl e1)
        · refine ifT (by rw [Rp.num_mod b1, Rp.num_mod b2, decide_eq_false (fun z => e1 (by have := V.int.inj z; omega))]; decide) ?_
          refine ⟨_, rfl, _, rfl, _, rfl, _, rfl, rfl, _, rfl, ?_⟩
          by_cases e2 : (prevAt wk kk).2 = (nth wk kk).2
          · refine ifF (by rw [Rp.num_div b1, Rp.num_div b2, e2, decide_eq_true rfl]; decide) ?_
            exact go (.inr e2)
          · refine ifT (by rw [Rp.num_div b1, Rp.num_div b2, decide_eq_false (fun z => e2 (by have := V.int.inj z; omega))]; decide) ?_
            refine (k _ (s2.trans (s3.trans s4))).2 fun hall => ?_
            rcases (Rp.rightW_iff wk).mp (hall wk hm) kk hkl with z | z
            · exact e1 z
            · exact e2 z
      · rintro σ H3 ⟨v2, v3, v4, rfl, s3, hal⟩
        rw [List.length_map] at hal
        refine ⟨_, _, _, _, rfl, s2.trans s3, fun j w' hj hw' => ?_⟩
        by_cases e : j = i
        · subst e
          rw [hw] at hw'
          cases hw'
          exact (Rp.rightW_iff wk).mpr hal
        · exact hdone j w' (by omega) hw'
    · rintro σ H2 ⟨v1, v2, v3, v4, rfl, s2, hdone⟩
      refine (k _ s2).1 fun w' hw' => ?_
      obtain ⟨j, hj⟩ := List.getElem?_of_mem hw'
      have hjl := (List.getElem?_eq_some_iff.mp hj).1
      exact hdone j w' (by rw [hL.len]; exact hjl) hj
structure Tally (kvs : List (Key × V)) (l : List Int) : Prop where
  val : ∀ m : Int, valV kvs (Sum.inl m : Key) = if l.count m = 0 then none else some (.int (l.count m : Nat))
  keys : ∃ ks : List Int, kvs.map (·.1) = ks.map Sum.inl ∧ ks.Nodup
theorem Tally.nil : Tally [] [] := ⟨fun m => by simp [valV], ⟨[], rfl, List.nodup_nil⟩⟩
theorem keys_put {kvs : List (Key × V)} {ks : List Int} (h : kvs.map (·.1) = ks.map Sum.inl) (nd : ks.Nodup) (m : Int) (v : V) : ∃ ks' : List Int, (putK kvs (Sum.inl m : Key) v).map (·.1) = ks'.map Sum.inl ∧ ks'.Nodup ∧ ∀ x, x ∈ ks' ↔ x = m ∨ x ∈ ks := by
  cases e : valV kvs (Sum.inl m : Key) with
  | none =>
    have hn := valV_not e
    rw [h] at hn
    have hn' : m ∉ ks := fun z => hn (List.mem_map.mpr ⟨m, z, rfl⟩)
    refine ⟨ks ++ [m], ?_, nd_snoc nd hn', fun x => ?_⟩
    · rw [putK_new v e, List.map_append, h, List.map_append]; rfl
    · rw [List.mem_append]
      constructor
      · rintro (z | z)
        · exact .inr z
        · exact .inl (by simpa using z)
      · rintro (z | z)
        · exact .inr (by simpa using z)
        · exact .inl z
  | some y =>
    have hi := valV_in e
    refine ⟨ks, ?_, nd, fun x => ?_⟩
    · have : (kvs.any fun kv => decide (kv.1 = (Sum.inl m : Key))) = true := by rw [valV_any, e]; rfl
      unfold putK
      rw [if_pos this, List.map_map, ← h]
      apply List.map_congr_left
      intro kv _
      simp only [Function.comp]
      split <;> rfl
    · constructor
      · exact .inr
      · rintro (z | z)
        · rw [z]
          rw [h] at hi
          obtain ⟨y, hy, ey⟩ := List.mem_map.mp hi
          cases ey
          exact hy
        · exact z
theorem Tally.put {kvs : List (Key × V)} {l : List Int} (h : Tally kvs l) (m : Int) : Tally (putK kvs (Sum.inl m : Key) (.int ((l.count m : Nat) + 1 : Int))) (l ++ [m]) := by
  constructor
  · intro j
    rw [valV_put, List.count_append]
    by_cases e : j = m
    · subst e
      rw [if_pos rfl]
      have : List.count j [j] = 1 := by simp
      rw [this, if_neg (by omega)]
      congr 1
    · rw [if_neg (fun z => e (Sum.inl.inj z)), h.val]
      have : List.count j [m] = 0 := by
        rw [List.count_eq_zero]
        simpa using e
      rw [this, Nat.add_zero]
  · obtain ⟨ks, h1, h2⟩ := h.keys
    obtain ⟨ks', h3, h4, _⟩ := keys_put h1 h2 m (.int ((l.count m : Nat) + 1 : Int))
    exact ⟨ks', h3, h4⟩
theorem Tally.mem {kvs : List (Key × V)} {l : List Int} (h : Tally kvs l) {ks : List Int} (hk : kvs.map (·.1) = ks.map Sum.inl) (m : Int) : m ∈ ks ↔ l.count m ≠ 0 := by
  have h1 : m ∈ ks ↔ (Sum.inl m : Key) ∈ kvs.map (·.1) := by
    rw [hk]
    constructor
    · intro z; exact List.mem_map.mpr ⟨m, z, rfl⟩
    · intro z
      obtain ⟨y, hy, e⟩ := List.mem_map.mp z
      cases e; exact hy
  rw [h1]
  constructor
  · intro z hc
    have := h.val m
    rw [if_pos hc] at this
    exact valV_not this z
  · intro hc
    have := h.val m
    rw [if_neg hc] at this
    exact valV_in this
theorem small_keys {ks : List Int} (nd : ks.Nodup) (hb : ∀ m ∈ ks, 0 ≤ m ∧ m < 17000) : ks.length ≤ 17000 := by
  have := Rp.nodup_sub_len ks ((List.range 17000).map fun (n : Nat) => (n : Int)) nd fun m hm => by
    obtain ⟨h0, h1⟩ := hb m hm
    exact List.mem_map.mpr ⟨m.toNat, List.mem_range.mpr (by omega), by omega⟩
  simpa using this
theorem Tally.small {kvs : List (Key × V)} {l : List Int} (h : Tally kvs l) (hb : ∀ m ∈ l, 0 ≤ m ∧ m < 17000) : kvs.length ≤ 17000 := by
  obtain ⟨ks, h1, h2⟩ := h.keys
  have : kvs.length = ks.length := by have := congrArg List.length h1; simpa using this
  rw [this]
  refine small_keys h2 fun m hm => hb m ?_
  have := (h.mem h1 m).mp hm
  exact List.count_pos_iff.mp (by omega)
end
end Pf
namespace Pf
open PySem L2 Roof
open Rp (num ROk WB PB rightW Ali prevAt nth upsSide upsOf upsAll cover span RiseI)
theorem rg_step {lo c : Int} {n : Nat} (hc : 0 < c) (hc2 : c < 1000) (h0 : 0 ≤ lo) (hl : lo < 1000000) (hn : n < 1000000) {hi : Int} (h1 : lo + c * n - c < hi) (h2 : hi ≤ lo + c * n) (h3 : n = 0 → hi ≤ lo) : RgC lo hi c n := by
  have hh : hi < 2000000000 := by
    have : c * n ≤ 1000 * 1000000 := by
      have h4 : c * (n : Int) ≤ 1000 * (n : Int) := Int.mul_le_mul_of_nonneg_right (by omega) (by omega)
      omega
    omega
  have hlow : -1000 < hi := by
    have : 0 ≤ c * (n : Int) := Int.mul_nonneg (by omega) (by omega)
    omega
  have sz : Builtin.Range.rangeSize lo hi c = n := by
    unfold Builtin.Range.rangeSize
    rw [if_pos hc]
    split
    · rename_i hlt
      have hn0 : n ≠ 0 := fun z => by have := h3 z; omega
      have e : (hi - lo - 1) / c = (n : Int) - 1 := by
        apply Int.le_antisymm
        · have : (hi - lo - 1) / c < n := by
            apply Int.ediv_lt_of_lt_mul hc
            rw [Int.mul_comm]; omega
          omega
        · apply Int.le_ediv_of_mul_le hc
          rw [Int.sub_mul, Int.mul_comm]; omega
      omega
    · rename_i hge
      have : c * (n : Int) < c := by omega
      have hn0 : n = 0 := by
        rcases Nat.eq_zero_or_pos n with z | z
        · exact z
        · exfalso
          have : c * 1 ≤ c * (n : Int) := Int.mul_le_mul_of_nonneg_left (by omega) (by omega)
          omega
      omega
  refine ⟨by omega, by omega, ?_, sz⟩
  unfold Builtin.Range.small
  rw [sz]
  have hcn : c * (n : Int) ≤ 1000 * 1000000 := by
    have h4 : c * (n : Int) ≤ 1000 * (n : Int) := Int.mul_le_mul_of_nonneg_right (by omega) (by omega)
    omega
  have hcn0 : 0 ≤ c * (n : Int) := Int.mul_nonneg (by omega) (by omega)
  have hnc : (n : Int) * c = c * n := Int.mul_comm _ _
  simp only [Builtin.Range.rangeFitsLong, Bool.and_eq_true, Bool.or_eq_true, decide_eq_true_eq, beq_iff_eq, if_pos hc]
  omega
def Bnd (l : List Int) : Prop := ∀ m ∈ l, 0 ≤ m ∧ m < 17000
theorem Tally.get {kvs : List (Key × V)} {l : List Int} (h : Tally kvs l) (m : Int) : (valV kvs (Sum.inl m : Key)).getD (.int 0) = V.int (l.count m : Nat) := by
  rw [h.val]
  split
  · rename_i e; rw [e]; rfl
  · rfl
section
variable {P : Program} {w : World} {K : PySem.W.Frag} {mg : Str → Option Value} {base : Heap}
def spOdd : Sp := fun vs H Q _ => ∃ (L : Addr) (ls : List Addr) (ws : List Walk), vs = [.ref L] ∧ LinesIn H L ls ws ∧
  ∀ H' p (us : List Int), Same H H' → H' p = some (.lst (us.map V.int)) → H p = none → RiseI us → us.length ≤ 17000 → (∀ m, m ∈ us ↔ ((upsAll ws).map num).count m % 2 = 1) → Q (.ref p) H'
theorem scOdd : FnScope ["lines", "times", "line", "k", "corner", "before", "foot"] ["lines"] (defScope sOdd) := ⟨rfl, rfl, rfl, by decide +kernel, rfl, by decide +kernel, by decide +kernel⟩
theorem ok_odd {f fE : Addr} {fd fdE : FuncData} (F : Fun K "odd_uprights" "odd_uprights" sOdd f fd) (G : Glo mg) (cE : Cal P w K mg base 1 "eastward" ["spot"] spEast fE fdE) :
    FnOk P w K mg base CX0 2 f fd ["lines"] spOdd := by
  obtain ⟨tr, hrow⟩ := G.row
  refine F.ok scOdd (fun vs H Q E h => ?_) (fun cdv A outer s H vs Q E hr h => ?_)
  · obtain ⟨L, ls, ws, rfl, _⟩ := h
    rfl
  · obtain ⟨L, ls, ws, rfl, hL, k⟩ := h
    have hu := hu_of hr
    refine ⟨_, pss_cons (ps_set (i := 1) scOdd.nd rfl (Or.inr rfl) pe_dnewK)
      (pss_cons (ps_for PassesOwn.never rfl (pi_list (pv 0)) (pg_name (i := 2) scOdd.nd rfl (Or.inl rfl))
        (pss_one (ps_for PassesOwn.never rfl (pi_enum rfl G.enum (pa_cons (pv 2) pa_nil)) (pg_tup rfl (pgs_cons (pg_name (i := 3) scOdd.nd rfl (Or.inl rfl)) (pgs_cons (pg_name (i := 4) scOdd.nd rfl (Or.inl rfl)) pgs_nil)))
          (pss_cons (ps_set (i := 5) scOdd.nd rfl (Or.inl rfl) (pe_ix ix_list (pv 2) (pe_op op_sub (pv 3) pe_int) (fun _ _ => rfl)))
          (pss_one (ps_if (pt_cmpR op_eq (pe_call cE.ok hr rfl cE.at_ cE.kp cE.b .nil pass0 (pa_cons (pv 5) pa_nil)) (pe_call cE.ok hr rfl cE.at_ cE.kp cE.b .nil pass0 (pa_cons (pv 4) pa_nil)) (nomark _))
            (pss_one (ps_for PassesOwn.never rfl (pi_range3 rfl G.rng (pa_cons (pe_callB (call_min2 rfl) (by rfl) G.mn PyProof.Rows.boot_min (pa_cons (pv 5) (pa_cons (pv 4) pa_nil))) (pa_cons (pe_callB (call_max2 rfl) (by rfl) G.mx PyProof.Rows.boot_max (pa_cons (pv 5) (pa_cons (pv 4) pa_nil))) (pa_cons (pe_glob (v := .int 256) rfl hrow ⟨_, rfl⟩) pa_nil)))) (pg_name (i := 6) scOdd.nd rfl (Or.inl rfl))
              (pss_one (ps_dput hu (pv 1) (pv 6) (pe_op op_add (pe_dget2 hu (pv 1) (pv 6) pe_int ⟨rfl, rfl, rfl, rfl⟩) pe_int) rfl)))) pss_nil))))))
      (pss_one (ps_ret (pe_callB cr_sortedA (by rfl) G.srt PyProof.Rows.boot_sorted (pa_cons (pe_lock (pe_lc rfl scOdd.nd (pi_keys (pv 1)) (blkOk_by (own := [("foot", 6)]) (by show blkC ["lines", "times", "line", "k", "corner", "before", "foot"] (defScope sOdd) _ _ = true; decide +kernel))
        (fun s H C cl fp => pg_name (i := 6) scOdd.nd rfl (Or.inl rfl)) (fun s H C cl fp => pts_one (pt_cmpR op_eq (pe_op op_mod (pe_dget hu (pv 1) (pv 6) (fun _ _ => rfl)) pe_int) pe_int (nomark _))) (fun s H C cl fp => pv 6))) pa_nil))))), ?_⟩
    intro d hd
    have s0 : Same H (upd H d (.dK [])) := fun b o e => by rw [upd_ne (ne_of_none e hd)]; exact e
    refine ⟨_, rfl, L, rfl, ⟨_, SqL.of (hL.keep s0).ln⟩, for_list (K := K) (a := L) (xs := ls.map V.ref) (fun i σ H2 => ∃ v2 v3 v4 v5 v6 kvs, σ = [some (.ref L), some (.ref d), v2, v3, v4, v5, v6] ∧ Same H H2 ∧ H2 d = some (.dK kvs) ∧ Tally kvs ((upsAll (ws.take i)).map num) ∧ Bnd ((upsAll (ws.take i)).map num))
      ⟨none, none, none, none, none, [], rfl, s0, upd_same, Tally.nil, by intro m hm; cases hm⟩ (fun i σ H2 _ ⟨_, _, _, _, _, _, _, s2, _⟩ => SqL.of (hL.keep s2).ln) ?_ ?_⟩
    · rintro i x σ H2 hi ⟨v2, v3, v4, v5, v6, kvs, rfl, s2, hd2, ht2, hb2⟩
      obtain ⟨al, wk, rfl, hw, ha, hb, hm⟩ := hL.at_ hi
      have hil : i < ws.length := (List.getElem?_eq_some_iff.mp hw).1
      have etake : ws.take (i + 1) = ws.take i ++ [wk] := by
        rw [List.take_add_one, hw]; rfl
      have eups : upsAll (ws.take (i + 1)) = upsAll (ws.take i) ++ upsOf wk := by
        unfold upsAll
        rw [etake, List.flatMap_append]
        simp
      let part := fun kk : Nat => (upsAll (ws.take i)).map num ++ ((List.range kk).flatMap fun j => upsSide (prevAt wk j) (nth wk j)).map num
      refine ⟨_, rfl, al, _, rfl, SqL.of (s2 _ _ ha), for_enum (K := K) (a := al) (xs := wk.map nI) (fun kk σ H3 => ∃ v3 v4 v5 v6 kvs, σ = [some (.ref L), some (.ref d), some (.ref al), v3, v4, v5, v6] ∧ Same H H3 ∧ H3 d = some (.dK kvs) ∧ Tally kvs (part kk) ∧ Bnd (part kk))
        ⟨v3, v4, v5, v6, kvs, rfl, s2, hd2, by simpa [part] using ht2, by simpa [part] using hb2⟩ (fun kk σ H3 _ ⟨_, _, _, _, _, _, s3, _⟩ => SqL.of (s3 _ _ ha)) ?_ ?_⟩
      · rintro kk y σ H3 TT hk hT ⟨v3, v4, v5, v6, kvs, rfl, s3, hd3, ht3, hb3⟩
        have hkl : kk < wk.length := by
          have := (List.getElem?_eq_some_iff.mp hk).1
          simpa using this
        rw [nI_at hkl] at hk
        cases hk
        have s4 : Same H3 (upd H3 TT (.tup [.int (kk : Nat), nI (nth wk kk)])) := fun b o e => by rw [upd_ne (ne_of_none e hT)]; exact e
        have hpart : part (kk + 1) = part kk ++ (upsSide (prevAt wk kk) (nth wk kk)).map num := by
          simp only [part]
          rw [List.range_succ, List.flatMap_append, List.map_append, List.append_assoc]
          simp
        refine ⟨TT, _, rfl, SqT.of upd_same, rfl, _, _, rfl, _, _, rfl, rfl, ?_⟩
        refine ⟨_, rfl, _, rfl, _, _, rfl, rfl, al, _, _, _, rfl, rfl, SqL.of (s4 _ _ (s3 _ _ ha)), prev_at hkl, ?_⟩
        have m1 := Rp.prevAt_mem hkl
        have m2 := Rp.nth_mem hkl
        have b1 := wb_lt hb m1
        have b2 := wb_lt hb m2
        refine ⟨_, rfl, _, rfl, _, rfl, _, rfl, rfl, _, rfl, ?_⟩
        by_cases e1 : (prevAt wk kk).1 = (nth wk kk).1
        · refine ifT (by rw [Rp.num_mod b1, Rp.num_mod b2, e1]; exact decide_eq_true rfl) ?_
          have hups := Rp.upsSide_num b1 b2 e1
          generalize hlo : min (num (prevAt wk kk)) (num (nth wk kk)) = lo at hups
          generalize hn : max (prevAt wk kk).2 (nth wk kk).2 - min (prevAt wk kk).2 (nth wk kk).2 = n at hups
          have q1 := hb _ m1
          have q2 := hb _ m2
          have hlo0 : 0 ≤ lo ∧ lo + 256 * n < 17000 := by
            have := q1.1; have := q1.2; have := q2.1; have := q2.2
            rw [← hlo, ← hn]; unfold num; omega
          have elo : (if num (nth wk kk) < num (prevAt wk kk) then num (nth wk kk) else num (prevAt wk kk)) = lo := by
            rw [← hlo]; split <;> omega
          have ehi : (if num (nth wk kk) > num (prevAt wk kk) then num (nth wk kk) else num (prevAt wk kk)) = lo + 256 * n := by
            rw [← hlo, ← hn]; unfold num; split <;> omega
          refine ⟨_, rfl, _, rfl, _, _, rfl, _, rfl, _, rfl, _, _, rfl, lo, lo + 256 * n, 256, n, ?_, rg_step (by decide) (by decide) (by omega) (by omega) (by omega) (by omega) (by omega) (by omega), ?_⟩
          · show [V.int (if num (nth wk kk) < num (prevAt wk kk) then num (nth wk kk) else num (prevAt wk kk)), V.int (if num (nth wk kk) > num (prevAt wk kk) then num (nth wk kk) else num (prevAt wk kk)), V.int 256] = _
            rw [elo, ehi]
          refine for_rangeC (lo := lo) (c := 256) (n := n) (fun ii σ H5 => ∃ v6 kvs, σ = [some (.ref L), some (.ref d), some (.ref al), some (.int (kk : Nat)), some (nI (nth wk kk)), some (nI (prevAt wk kk)), v6] ∧ Same H H5 ∧ H5 d = some (.dK kvs) ∧
              Tally kvs (part kk ++ (List.range ii).map fun (i : Nat) => lo + (i : Int) * 256) ∧ Bnd (part kk ++ (List.range ii).map fun (i : Nat) => lo + (i : Int) * 256))
            ⟨v6, kvs, rfl, s3.trans s4, s4 _ _ hd3, by simpa using ht3, by simpa using hb3⟩ ?_ ?_
          · rintro ii σ H5 hii ⟨v6, kvs, rfl, s5, hd5, ht5, hb5⟩
            refine ⟨_, rfl, d, rfl, .inl ⟨kvs, .inl hd5⟩, _, rfl, _, DGet.k (k := Sum.inl (lo + (ii : Nat) * 256)) hd5, _, _, Tally.get ht5 _, rfl, ?_⟩
            have hsm := ht5.small hb5
            refine ⟨_, rfl, _, rfl, d, _, rfl, DPut.k (k := Sum.inl (lo + (ii : Nat) * 256)) hd5 (lt_line (by omega)), ?_⟩
            refine ⟨_, _, rfl, fun b o e => by rw [upd_ne (ne_of_none e hd)]; exact s5 _ _ e, upd_same, ?_, ?_⟩
            · have := ht5.put (lo + (ii : Nat) * 256)
              rw [List.range_succ, List.map_append, ← List.append_assoc]
              exact this
            · rw [List.range_succ, List.map_append, ← List.append_assoc]
              intro m hm
              rcases List.mem_append.mp hm with hm | hm
              · exact hb5 m hm
              · have : m = lo + (ii : Int) * 256 := by simpa using hm
                subst this
                omega
          · rintro σ H5 ⟨v6, kvs, rfl, s5, hd5, ht5, hb5⟩
            refine ⟨_, _, _, _, _, rfl, s5, hd5, ?_, ?_⟩
            · rw [hpart, hups]; exact ht5
            · rw [hpart, hups]; exact hb5
        · refine ifF (by rw [Rp.num_mod b1, Rp.num_mod b2]; intro z; exact e1 (by have := V.int.inj (of_decide_eq_true z); omega)) ?_
          refine ⟨_, _, _, _, _, rfl, s3.trans s4, s4 _ _ hd3, ?_, ?_⟩
          · rw [hpart, Rp.upsSide_none e1]; simpa using ht3
          · rw [hpart, Rp.upsSide_none e1]; simpa using hb3
      · rintro σ H3 ⟨v3, v4, v5, v6, kvs, rfl, s3, hd3, ht3, hb3⟩
        rw [List.length_map] at ht3 hb3
        have e : part wk.length = (upsAll (ws.take (i + 1))).map num := by
          simp only [part]
          rw [eups, List.map_append, Rp.upsOf_range wk]
        rw [e] at ht3 hb3
        exact ⟨_, _, _, _, _, _, rfl, s3, hd3, ht3, hb3⟩
    · rintro σ H2 ⟨v2, v3, v4, v5, v6, kvs, rfl, s2, hd2, ht2, hb2⟩
      rw [hL.len, List.take_length] at ht2 hb2
      obtain ⟨ks, hks, hnd⟩ := ht2.keys
      have hklen : kvs.length = ks.length := by have := congrArg List.length hks; simpa using this
      have hsm := ht2.small hb2
      refine ⟨d, _, hd2, trivial, fun od => ?_⟩
      refine ⟨_, rfl, d, od, rfl, .inl ⟨kvs, upd_same, fun D hD => ?_⟩⟩
      have nDd : D ≠ d := by rintro rfl; rw [upd_same] at hD; cases hD
      rw [upd_ne nDd] at hD
      let odd := fun m : Int => decide (((upsAll ws).map num).count m % 2 = 1)
      refine lc_keys (d := d) (ob := od) (kvs := kvs) (fun i H3 => H3 d = some (.frz od (.dK kvs)) ∧ H3 D = some (.lst (((ks.take i).filter odd).map V.int)) ∧ ∀ b o, H2 b = some o → b ≠ d → H3 b = some o)
        ⟨by rw [upd_ne (Ne.symm nDd)]; exact upd_same, by rw [upd_same]; rfl, fun b o e hb => by rw [upd_ne (ne_of_none e hD), upd_ne hb]; exact e⟩ (fun i H3 _ h => h.1) ?_ ?_
      · rintro i kx vx H3 hkv ⟨h1, h2, h3⟩
        have hk1 : (kvs.map (·.1))[i]? = some kx := by rw [List.getElem?_map, hkv]; rfl
        rw [hks, List.getElem?_map] at hk1
        obtain ⟨m, hm, rfl⟩ : ∃ m, ks[i]? = some m ∧ kx = Sum.inl m := by
          cases e : ks[i]? with
          | none => rw [e] at hk1; cases hk1
          | some m => rw [e] at hk1; exact ⟨m, rfl, (Option.some.inj hk1).symm⟩
        have hmem : m ∈ ks := List.mem_of_getElem? hm
        have hcnt := (ht2.mem hks m).mp hmem
        have hval := ht2.val m
        rw [if_neg hcnt] at hval
        have etake : ks.take (i + 1) = ks.take i ++ [m] := by rw [List.take_add_one, hm]; rfl
        have hil : i < ks.length := (List.getElem?_eq_some_iff.mp hm).1
        refine ⟨rfl, ?_⟩
        refine ⟨_, rfl, _, rfl, d, _, rfl, .inl ⟨kvs, Sum.inl m, .inr ⟨od, h1⟩, rfl, hval.symm⟩, _, _, rfl, rfl, (by show (0 : Int) < 2; decide), rfl, _, rfl, ?_⟩
        refine ite2 (fun e => ?_) (fun e => ?_)
        · have e' := V.int.inj (of_decide_eq_true e)
          have ho : odd m = true := decide_eq_true (by omega)
          refine ⟨_, rfl, _, h2, ?_, by rw [upd_ne (Ne.symm nDd)]; exact h1, ?_, fun b o eb hb => ?_⟩
          · refine lt_line ?_
            have h5 : ((ks.take i).filter odd).length ≤ (ks.take i).length := List.length_filter_le _ _
            rw [List.length_map]
            have h6 : (ks.take i).length ≤ i := by rw [List.length_take]; omega
            omega
          · rw [upd_same, etake, List.filter_append, List.map_append]
            simp [ho]
            rfl
          · have : b ≠ D := by rintro rfl; rw [hD] at eb; cases eb
            rw [upd_ne this]; exact h3 b o eb hb
        · have ho : odd m = false := decide_eq_false (fun z => e (decide_eq_true (congrArg V.int (by omega))))
          refine ⟨h1, ?_, h3⟩
          rw [h2, etake, List.filter_append]
          simp [ho]
      · rintro H3 ⟨h1, h2, h3⟩
        rw [hklen, List.take_length] at h2
        refine ⟨h1, ?_⟩
        have sQ : Same H (upd H3 d (.dK kvs)) := fun b o e => by
          rw [upd_ne (ne_of_none e hd)]
          exact h3 b o (s2 b o e) (ne_of_none e hd)
        refine ⟨D, ks.filter odd, rfl, SqL.of (by rw [upd_ne nDd]; exact h2), fun ns' p hperm hpw hp => ?_⟩
        refine k _ p ns' (fun b o e => ?_) upd_same (sQ.free hp) (Rp.riseI_of hpw (hperm.nodup_iff.mpr (hnd.filter _))) ?_ fun m => ?_
        · have : b ≠ p := by rintro rfl; rw [sQ _ _ e] at hp; cases hp
          rw [upd_ne this]; exact sQ b o e
        · rw [hperm.length_eq]
          have h5 : (ks.filter odd).length ≤ ks.length := List.length_filter_le _ _
          omega
        · rw [hperm.mem_iff, List.mem_filter, ht2.mem hks m]
          simp only [odd, decide_eq_true_eq]
          constructor
          · exact fun z => z.2
          · intro z; exact ⟨by omega, z⟩
end
end Pf
namespace Pf
open PySem L2 Roof
open Rp (num ROk WB PB rightW Ali prevAt nth upsSide upsOf upsAll cover span RiseI)
def tru (ms : List Int) : List (Key × V) := ms.map fun m => ((Sum.inl m : Key), V.bl true)
theorem tru_val (m : Int) : ∀ ms : List Int, valV (tru ms) (Sum.inl m : Key) = if m ∈ ms then some (.bl true) else none
  | [] => by simp [tru, valV]
  | x :: ms => by
    have ih := tru_val m ms
    by_cases e : x = m
    · subst e
      rw [show tru (x :: ms) = ((Sum.inl x : Key), V.bl true) :: tru ms from rfl, valV_pos (p := ((Sum.inl x : Key), V.bl true)) rfl, if_pos (by simp)]
    · rw [show tru (x :: ms) = ((Sum.inl x : Key), V.bl true) :: tru ms from rfl, valV_neg (p := ((Sum.inl x : Key), V.bl true)) (fun z => e (Sum.inl.inj z)), ih]
      by_cases h : m ∈ ms
      · rw [if_pos h, if_pos (by simp [h])]
      · rw [if_neg h, if_neg (by simp [h]; exact fun z => e z.symm)]
theorem tru_some (ms : List Int) (m : Int) : (valV (tru ms) (Sum.inl m : Key)).isSome = decide (m ∈ ms) := by
  rw [tru_val]
  by_cases h : m ∈ ms
  · rw [if_pos h, decide_eq_true h]; rfl
  · rw [if_neg h, decide_eq_false h]; rfl
theorem tru_put {ms : List Int} {m : Int} (h : m ∉ ms) : putK (tru ms) (Sum.inl m : Key) (.bl true) = tru (ms ++ [m]) := by
  rw [putK_new _ (by rw [tru_val, if_neg h])]
  simp [tru]
theorem tru_same {ms : List Int} {m : Int} (h : m ∈ ms) : putK (tru ms) (Sum.inl m : Key) (.bl true) = tru ms := by
  have : ((tru ms).any fun kv => decide (kv.1 = (Sum.inl m : Key))) = true := by rw [valV_any, tru_val, if_pos h]; rfl
  unfold putK
  rw [if_pos this]
  have : ∀ kv ∈ tru ms, (if kv.1 = (Sum.inl m : Key) then (kv.1, V.bl true) else kv) = kv := by
    intro kv hkv
    obtain ⟨x, _, rfl⟩ := List.mem_map.mp hkv
    split <;> rfl
  rw [List.map_congr_left this]
  simp
theorem tru_len (ms : List Int) : (tru ms).length = ms.length := by simp [tru]
theorem tru_keys (ms : List Int) : (tru ms).map (·.1) = ms.map Sum.inl := by simp [tru]
theorem upd_back {H : Hp} {d : Addr} {o u : HO} (h : H d = some u) : upd (upd H d o) d u = H := by
  rw [upd_upd]
  funext b
  unfold upd
  split
  · rename_i e; rw [e, h]
  · rfl
theorem nodup_rise {l : List Int} (h : RiseI l) : l.Nodup := h.imp fun h => by omega
section
variable {P : Program} {w : World} {K : PySem.W.Frag} {mg : Str → Option Value} {base : Heap}
def spWithin : Sp := fun vs H Q _ => ∃ (L : Addr) (ls : List Addr) (ws : List Walk), vs = [.ref L] ∧ LinesIn H L ls ws ∧ (∀ w ∈ ws, rightW w) ∧
  ∀ H' d, Same H H' → H' d = some (.dK (tru ((cellsIn ws).map num))) → H d = none → Q (.ref d) H'
theorem scWithin : FnScope ["lines", "uprights", "within", "k", "cell"] ["lines"] (defScope sWithin) := ⟨rfl, rfl, rfl, by decide +kernel, rfl, by decide +kernel, by decide +kernel⟩
theorem ok_within {f fO : Addr} {fd fdO : FuncData} (F : Fun K "cells_within" "cells_within" sWithin f fd) (G : Glo mg) (cO : Cal P w K mg base 2 "odd_uprights" ["lines"] spOdd fO fdO) :
    FnOk P w K mg base CX0 3 f fd ["lines"] spWithin := by
  refine F.ok scWithin (fun vs H Q E h => ?_) (fun cdv A outer s H vs Q E hr h => ?_)
  · obtain ⟨L, ls, ws, rfl, _⟩ := h
    rfl
  · obtain ⟨L, ls, ws, rfl, hL, hright, k⟩ := h
    have hu := hu_of hr
    refine ⟨_, pss_cons (ps_set (i := 1) scWithin.nd rfl (Or.inl rfl) (pe_call cO.ok hr rfl cO.at_ cO.kp cO.b .nil pass0 (pa_cons (pv 0) pa_nil)))
      (pss_cons (ps_set (i := 2) scWithin.nd rfl (Or.inl rfl) pe_dnewK)
      (pss_cons (ps_for PassesOwn.never rfl (pi_range3 rfl G.rng (pa_cons pe_int (pa_cons (pe_callB call_len_seq (by rfl) G.len PySem.boot_len (pa_cons (pv 1) pa_nil)) (pa_cons pe_int pa_nil)))) (pg_name (i := 3) scWithin.nd rfl (Or.inl rfl))
        (pss_one (ps_for PassesOwn.never rfl (pi_range2 rfl G.rng (pa_cons (pe_ix ix_list (pv 1) (pv 3) (fun _ _ => rfl)) (pa_cons (pe_ix ix_list (pv 1) (pe_op op_add (pv 3) pe_int) (fun _ _ => rfl)) pa_nil))) (pg_name (i := 4) scWithin.nd rfl (Or.inl rfl))
          (pss_one (ps_dput hu (pv 2) (pv 4) pe_bl rfl)))))
      (pss_one (ps_ret (pv 2))))), ?_⟩
    refine ⟨_, rfl, L, ls, ws, rfl, hL, fun H1 p us s1 hp np hus hlen hmem => ?_⟩
    obtain ⟨heven, hcov⟩ := Rp.cover_cells hL.bd hright hus hmem
    intro d hd
    have s2 : Same H1 (upd H1 d (.dK [])) := fun b o e => by rw [upd_ne (ne_of_none e hd)]; exact e
    have hd0 : H d = none := s1.free hd
    have npd : p ≠ d := ne_of_none hp hd
    have hcr := (Rp.cover_rise us hus).1
    have hin : ∀ m ∈ cover us, 0 ≤ m ∧ m < 17000 := fun m hm => by
      rw [hcov] at hm
      obtain ⟨c, hc, rfl⟩ := List.mem_map.mp hm
      have := Rp.within_iff.mp (Rp.cellsIn_within c hc)
      unfold num; omega
    have hulen : (us.map V.int).length = us.length := by simp
    refine ⟨_, rfl, p, _, rfl, .inl (SqL.of (s2 _ _ hp)), 0, (us.length : Int), 2, us.length / 2, ?_, rg_step (by decide) (by decide) (by decide) (by decide) (by omega) (by omega) (by omega) (by omega), ?_⟩
    · show [V.int 0, V.int (us.map V.int).length, V.int 2] = _
      rw [hulen]
    refine for_rangeC (lo := 0) (c := 2) (n := us.length / 2) (fun i σ H3 => ∃ v3 v4, σ = [some (.ref L), some (.ref p), some (.ref d), v3, v4] ∧ Same H H3 ∧ H3 p = some (.lst (us.map V.int)) ∧ H3 d = some (.dK (tru (cover (us.take (2 * i))))))
      ⟨none, none, rfl, s1.trans s2, s2 _ _ hp, by rw [upd_same]; rfl⟩ ?_ ?_
    · rintro i σ H3 hi ⟨v3, v4, rfl, s3, hp3, hd3⟩
      obtain ⟨a, ha⟩ : ∃ a, us[2 * i]? = some a := ⟨us[2 * i], List.getElem?_eq_getElem (by omega)⟩
      obtain ⟨b, hb⟩ : ∃ b, us[2 * i + 1]? = some b := ⟨us[2 * i + 1], List.getElem?_eq_getElem (by omega)⟩
      have hct := Rp.cover_take i us a b ha hb
      have hpre : ∃ rest, cover us = cover (us.take (2 * (i + 1))) ++ rest := by
        have gen : ∀ (j : Nat) (l : List Int), ∃ rest, cover l = cover (l.take (2 * j)) ++ rest := by
          intro j
          induction j with
          | zero => intro l; exact ⟨cover l, by simp [cover]⟩
          | succ j ih =>
            intro l
            match l with
            | [] => exact ⟨[], by simp [cover]⟩
            | [x] => exact ⟨[], by simp [cover, show 2 * (j + 1) = 2 * j + 1 + 1 by omega]⟩
            | x :: y :: r =>
              obtain ⟨rest, e⟩ := ih r
              refine ⟨rest, ?_⟩
              rw [show 2 * (j + 1) = 2 * j + 1 + 1 by omega, List.take_succ_cons, List.take_succ_cons]
              simp only [cover]
              rw [e, List.append_assoc]
        exact gen (i + 1) us
      obtain ⟨rest, hrest⟩ := hpre
      have hnd := nodup_rise hcr
      rw [hrest, hct] at hnd
      have hnd2 := (List.nodup_append.mp hnd).1
      have hab := fun m (hm : m ∈ span a b) => hin m (by rw [hrest, hct]; simp [hm])
      have ua : (us.map V.int)[2 * i]? = some (.int a) := by rw [List.getElem?_map, ha]; rfl
      have ub : (us.map V.int)[2 * i + 1]? = some (.int b) := by rw [List.getElem?_map, hb]; rfl
      have hlab : a < b := by
        have h2 := List.getElem?_eq_some_iff.mp ha
        have h3 := List.getElem?_eq_some_iff.mp hb
        rw [← h2.2, ← h3.2]
        exact List.pairwise_iff_getElem.mp hus _ _ h2.1 h3.1 (by omega)
      have ha0 : 0 ≤ a ∧ a < 17000 := hab a (Rp.span_mem.mpr ⟨by omega, hlab⟩)
      have hb0 : b ≤ 17000 := by have := hab (b - 1) (Rp.span_mem.mpr ⟨by omega, by omega⟩); omega
      refine ⟨_, rfl, _, rfl, p, _, _, _, rfl, rfl, SqL.of hp3, at_of (j := 2 * i) (by omega) ua, _, rfl, _, rfl, _, _, rfl, rfl, p, _, _, _, rfl, rfl, SqL.of hp3, at_of (j := 2 * i + 1) (by omega) ub, a, b, rfl, ⟨by omega, by omega, by omega, by omega⟩, ?_⟩
      refine for_range (lo := a) (n := (b - a).toNat) (fun j σ H4 => ∃ v4, σ = [some (.ref L), some (.ref p), some (.ref d), some (.int (0 + (i : Nat) * 2)), v4] ∧ Same H H4 ∧ H4 p = some (.lst (us.map V.int)) ∧ H4 d = some (.dK (tru (cover (us.take (2 * i)) ++ (span a b).take j))))
        ⟨v4, rfl, s3, hp3, by simpa using hd3⟩ ?_ ?_
      · rintro j σ H4 hj ⟨v4, rfl, s4, hp4, hd4⟩
        have hst := Rp.span_take a b j (by omega)
        have hsub : cover (us.take (2 * i)) ++ (span a b).take j ++ [a + j] = cover (us.take (2 * i)) ++ (span a b).take (j + 1) := by rw [hst, List.append_assoc]
        have hnew : a + (j : Int) ∉ cover (us.take (2 * i)) ++ (span a b).take j := by
          intro hm
          have h5 : (cover (us.take (2 * i)) ++ (span a b).take (j + 1)).Nodup := by
            refine List.Nodup.sublist ?_ hnd2
            exact List.Sublist.append_left (List.take_sublist _ _) _
          rw [← hsub] at h5
          have h6 := List.nodup_append.mp h5
          exact h6.2.2 _ hm _ (by simp) rfl
        have hlen4 : (cover (us.take (2 * i)) ++ (span a b).take j).length ≤ 17000 := by
          have h5 : (cover (us.take (2 * i)) ++ (span a b).take j).Nodup := List.Nodup.sublist (List.Sublist.append_left (List.take_sublist _ _) _) hnd2
          refine small_keys h5 fun m hm => hin m ?_
          rw [hrest, hct]
          rcases List.mem_append.mp hm with hm | hm
          · simp [hm]
          · simp [List.mem_of_mem_take hm]
        refine ⟨_, rfl, _, rfl, d, _, rfl, DPut.k (k := Sum.inl (a + (j : Nat))) hd4 (lt_line (by rw [tru_len]; omega)), ?_⟩
        refine ⟨_, rfl, fun x o e => by rw [upd_ne (ne_of_none e hd0)]; exact s4 _ _ e, by rw [upd_ne npd]; exact hp4, ?_⟩
        rw [upd_same, tru_put hnew, hsub]
      · rintro σ H4 ⟨v4, rfl, s4, hp4, hd4⟩
        refine ⟨_, _, rfl, s4, hp4, ?_⟩
        have e : (span a b).take (b - a).toNat = span a b := List.take_of_length_le (by rw [Rp.span_len]; omega)
        rw [e] at hd4
        rw [hd4, hct]
    · rintro σ H3 ⟨v3, v4, rfl, s3, hp3, hd3⟩
      refine ⟨_, rfl, k _ d s3 ?_ hd0⟩
      rw [hd3, List.take_of_length_le (by omega), hcov]
def spMeet : Sp := fun vs H Q _ => ∃ (d : Addr) (ks : List Int), vs = [.ref d] ∧ H d = some (.dK (tru ks)) ∧ ((∃ m ∈ ks, Rp.meetAt ks m) → Q (.bl true) H) ∧ ((¬ ∃ m ∈ ks, Rp.meetAt ks m) → Q (.bl false) H)
theorem scMeet : FnScope ["house", "cell"] ["house"] (defScope sMeet) := ⟨rfl, rfl, rfl, by decide +kernel, rfl, by decide +kernel, by decide +kernel⟩
theorem ok_meet {f : Addr} {fd : FuncData} (F : Fun K "meet_in_point_alone" "meet_in_point_alone" sMeet f fd) (G : Glo mg) : FnOk P w K mg base CX0 1 f fd ["house"] spMeet := by
  obtain ⟨tr, hrow⟩ := G.row
  refine F.ok scMeet (fun vs H Q E h => ?_) (fun cdv A outer s H vs Q E hr h => ?_)
  · obtain ⟨d, ks, rfl, _⟩ := h
    rfl
  · obtain ⟨d, ks, rfl, hd, k1, k2⟩ := h
    have hu := hu_of hr
    refine ⟨_, pss_cons (ps_lock (ps_for PassesOwn.never rfl (pi_keys (pv 0)) (pg_name (i := 1) scMeet.nd rfl (Or.inl rfl))
        (pss_one (ps_if (pt_cmp (pc_dnotin hu (pe_op op_add (pv 1) (pe_glob (v := .int 256) rfl hrow ⟨_, rfl⟩)) (pv 0)))
          (pss_cons (ps_if (PW.pt (pw_and (pt_cmp (pc_din hu (pe_op op_add (pe_op op_add (pv 1) (pe_glob (v := .int 256) rfl hrow ⟨_, rfl⟩)) pe_int) (pv 0))) (pw_and1 (pt_cmp (pc_dnotin hu (pe_op op_add (pv 1) pe_int) (pv 0)))))) (pss_one (ps_ret pe_bl)) pss_nil)
          (pss_one (ps_if (PW.pt (pw_and (pt_cmp (pc_din hu (pe_op op_sub (pe_op op_add (pv 1) (pe_glob (v := .int 256) rfl hrow ⟨_, rfl⟩)) pe_int) (pv 0))) (pw_and1 (pt_cmp (pc_dnotin hu (pe_op op_sub (pv 1) pe_int) (pv 0)))))) (pss_one (ps_ret pe_bl)) pss_nil)))
          pss_nil))))
      (pss_one (ps_ret pe_bl)), ?_⟩
    refine ⟨d, _, hd, trivial, fun od => ?_⟩
    refine ⟨_, rfl, d, od, rfl, .inl ⟨tru ks, upd_same, ?_⟩⟩
    refine for_keys (d := d) (ob := od) (kvs := tru ks) (fun i σ H2 => ∃ v1, σ = [some (.ref d), v1] ∧ H2 = upd H d (.frz od (.dK (tru ks))) ∧ ∀ j m, j < i → ks[j]? = some m → ¬ Rp.meetAt ks m)
      ⟨none, rfl, rfl, fun j m h => by omega⟩ (fun i σ H2 _ ⟨_, _, e, _⟩ => by rw [e]; exact upd_same) ?_ ?_
    · rintro i kx vx σ H2 hkv ⟨v1, rfl, rfl, hno⟩
      obtain ⟨m, hm, rfl⟩ : ∃ m, ks[i]? = some m ∧ kx = Sum.inl m := by
        rw [tru, List.getElem?_map] at hkv
        cases e : ks[i]? with
        | none => rw [e] at hkv; cases hkv
        | some m => rw [e] at hkv; exact ⟨m, rfl, (Prod.mk.inj (Option.some.inj hkv)).1.symm⟩
      have hmem := List.mem_of_getElem? hm
      have get : ∀ x : Int, DGet (upd H d (.frz od (.dK (tru ks)))) d (.int x) (valV (tru ks) (Sum.inl x : Key)) := fun x => .inl ⟨tru ks, Sum.inl x, .inr ⟨od, upd_same⟩, rfl, rfl⟩
      have next : ¬ Rp.meetAt ks m → ∃ v1, [some (V.ref d), some (V.int m)] = [some (.ref d), v1] ∧ upd H d (.frz od (.dK (tru ks))) = upd H d (.frz od (.dK (tru ks))) ∧ ∀ j m', j < i + 1 → ks[j]? = some m' → ¬ Rp.meetAt ks m' := fun hn =>
        ⟨_, rfl, rfl, fun j m' hj hm' => by
          by_cases e : j = i
          · subst e; rw [hm] at hm'; cases hm'; exact hn
          · exact hno j m' (by omega) hm'⟩
      have yes : Rp.meetAt ks m → (upd H d (.frz od (.dK (tru ks)))) d = some (.frz od (.dK (tru ks))) ∧ Q (.bl true) (upd (upd H d (.frz od (.dK (tru ks)))) d (.dK (tru ks))) := fun hy => ⟨upd_same, by rw [upd_back hd]; exact k1 ⟨m, hmem, hy⟩⟩
      have e2 : m + 256 + 1 = m + 257 := by omega
      have e3 : m + 256 - 1 = m + 255 := by omega
      refine ⟨_, rfl, _, _, rfl, rfl, _, rfl, d, _, rfl, get (m + 256), _, rfl, ?_⟩
      rw [tru_some]
      by_cases h1 : m + 256 ∈ ks
      · refine ifF (by rw [decide_eq_true h1]; decide) ?_
        exact next fun z => z.1 h1
      · refine ifT (by rw [decide_eq_false h1]; decide) ?_
        refine ⟨_, rfl, _, _, rfl, rfl, _, _, rfl, rfl, _, rfl, d, _, rfl, get (m + 256 + 1), _, rfl, ?_⟩
        rw [tru_some, e2]
        have second : ¬ (m + 257 ∈ ks ∧ m + 1 ∉ ks) → (tIfS (tAnd (tB (tDIn (tOp (rI0 fun i j => .int (i - j)) (tOp (rI0 fun i j => .int (i + j)) (tVar 1) (tC (.int 256))) (tC (.int 1))) (tVar 0))) (tB (tDNotIn (tOp (rI0 fun i j => .int (i - j)) (tVar 1) (tC (.int 1))) (tVar 0)))) (tRet (tC (.bl true))) tNext)
            { nx := fun σ H2 => ∃ v1, σ = [some (.ref d), v1] ∧ H2 = upd H d (.frz od (.dK (tru ks))) ∧ ∀ j m, j < i + 1 → ks[j]? = some m → ¬ Rp.meetAt ks m, rt := fun v H' => H' d = some (.frz od (.dK (tru ks))) ∧ Q v (upd H' d (.dK (tru ks))),
              bk := fun σ' H' => H' d = some (.frz od (.dK (tru ks))) ∧ (tRet (tC (.bl false))) { nx := fun _ H' => Q .non H', rt := Q } σ' (upd H' d (.dK (tru ks))), ct := fun σ H2 => ∃ v1, σ = [some (.ref d), v1] ∧ H2 = upd H d (.frz od (.dK (tru ks))) ∧ ∀ j m, j < i + 1 → ks[j]? = some m → ¬ Rp.meetAt ks m } [some (.ref d), some (.int m)] (upd H d (.frz od (.dK (tru ks)))) := by
          intro hn
          refine ⟨_, rfl, _, _, rfl, rfl, _, _, rfl, rfl, _, rfl, d, _, rfl, get (m + 256 - 1), _, rfl, ?_⟩
          rw [tru_some, e3]
          by_cases h3 : m + 255 ∈ ks
          · refine ifT (decide_eq_true h3) ?_
            refine ⟨_, rfl, _, _, rfl, rfl, _, rfl, d, _, rfl, get (m - 1), _, rfl, ?_⟩
            rw [tru_some]
            by_cases h4 : m - 1 ∈ ks
            · refine ifF (by rw [decide_eq_true h4]; decide) ?_
              exact next fun z => z.2.elim hn fun z => z.2 h4
            · refine ifT (by rw [decide_eq_false h4]; decide) ?_
              exact yes ⟨h1, .inr ⟨h3, h4⟩⟩
          · refine ifF (by rw [decide_eq_false h3]; decide) ?_
            refine iteF ?_
            exact next fun z => z.2.elim hn fun z => h3 z.1
        by_cases h3 : m + 257 ∈ ks
        · refine ifT (decide_eq_true h3) ?_
          refine ⟨_, rfl, _, _, rfl, rfl, _, rfl, d, _, rfl, get (m + 1), _, rfl, ?_⟩
          rw [tru_some]
          by_cases h4 : m + 1 ∈ ks
          · refine ifF (by rw [decide_eq_true h4]; decide) ?_
            exact second fun z => z.2 h4
          · refine ifT (by rw [decide_eq_false h4]; decide) ?_
            exact yes ⟨h1, .inl ⟨h3, h4⟩⟩
        · refine ifF (by rw [decide_eq_false h3]; decide) ?_
          refine iteF ?_
          exact second fun z => h3 z.1
    · rintro σ H2 ⟨v1, rfl, rfl, hno⟩
      refine ⟨upd_same, ?_⟩
      rw [upd_back hd]
      refine k2 fun ⟨m, hm, hy⟩ => ?_
      obtain ⟨j, hj⟩ := List.getElem?_of_mem hm
      have hjl := (List.getElem?_eq_some_iff.mp hj).1
      exact hno j m (by rw [tru_len]; exact hjl) hj hy
end
end Pf
namespace Pf
open PySem L2 Roof
open Rp (num ROk WB PB rightW Ali prevAt nth upsSide upsOf upsAll cover span RiseI step1 nb DInv DIn2 KeysOf ConI)
section
variable {P : Program} {w : World} {K : PySem.W.Frag} {mg : Str → Option Value} {base : Heap}
structure HouseAt (H : Hp) (d : Addr) (l : Cells) : Prop where
  dic : ∃ ks, H d = some (.dK (tru ks)) ∧ KeysOf ks l
  wi : ∀ c ∈ l, Roof.within c = true
  ri : Rp.Rise l
theorem HouseAt.keep {H H' : Hp} {d : Addr} {l : Cells} (h : HouseAt H d l) (s : Same H H') : HouseAt H' d l := by
  obtain ⟨ks, h1, h2⟩ := h.dic
  exact ⟨⟨ks, s _ _ h1, h2⟩, h.wi, h.ri⟩
theorem rd_keep {H H' : Hp} {d : Addr} {u : HO} (h : Rd H d u) (s : Same H H') : Rd H' d u := by
  rcases h with h | ⟨o, h⟩
  · exact .inl (s _ _ h)
  · exact .inr ⟨o, s _ _ h⟩
theorem rd_get {H : Hp} {d : Addr} {ks : List Int} (h : Rd H d (.dK (tru ks))) (x : Int) : DGet H d (.int x) (valV (tru ks) (Sum.inl x : Key)) := .inl ⟨tru ks, Sum.inl x, h, rfl, rfl⟩
def spReached : Sp := fun vs H Q _ => ∃ (d : Addr) (ks : List Int) (c : Int), vs = [.ref d, .int c] ∧ Rd H d (.dK (tru ks)) ∧ ks.length ≤ 100000 ∧ c ∈ ks ∧
  ∀ H' r (R : List Int), Same H H' → H' r = some (.dK (tru R)) → H r = none → R.Nodup → (∀ m, m ∈ R ↔ ConI ks c m) → Q (.ref r) H'
theorem scReached : FnScope ["spots", "first", "reached", "waiting", "spot", "near"] ["spots", "first"] (defScope sReached) := ⟨rfl, rfl, rfl, by decide +kernel, rfl, by decide +kernel, by decide +kernel⟩
theorem ok_reached {f fB : Addr} {fd fdB : FuncData} (F : Fun K "reached_from" "reached_from" sReached f fd) (cB : Cal P w K mg base 1 "beside" ["spot"] spBeside fB fdB) : FnOk P w K mg base CX0 2 f fd ["spots", "first"] spReached := by
  refine F.ok scReached (fun vs H Q E h => ?_) (fun cdv A outer s H vs Q E hr h => ?_)
  · obtain ⟨d, ks, c, rfl, _⟩ := h
    rfl
  · obtain ⟨d, ks, c, rfl, hd, hlen, hc, k⟩ := h
    have hu := hu_of hr
    refine ⟨_, pss_cons (ps_set (i := 2) scReached.nd rfl (Or.inl rfl) (pe_disp (pps_cons (pv 1) pe_bl pps_nil) rfl rfl (by simp) (by decide)))
      (pss_cons (ps_set (i := 3) scReached.nd rfl (Or.inl rfl) (pe_lst (pa_cons (pv 1) pa_nil)))
      (pss_cons (ps_while PassesOwn.never (pt_truth (pv 3) (fun _ => rfl))
        (pss_cons (ps_set (i := 4) scReached.nd rfl (Or.inl rfl) (pe_bm0 PySem.F.plainAttrs_list PySem.F.slot_list_pop PySem.F.type_list_pop mt_pop (pv 3)))
        (pss_one (ps_for PassesOwn.never rfl (pi_tup (pe_call cB.ok hr rfl cB.at_ cB.kp cB.b .nil pass0 (pa_cons (pv 4) pa_nil))) (pg_name (i := 5) scReached.nd rfl (Or.inl rfl))
          (pss_one (ps_if (PW.pt (pw_and (pt_cmp (pc_din hu (pv 5) (pv 0))) (pw_and1 (pt_cmp (pc_dnotin hu (pv 5) (pv 2))))))
            (pss_cons (ps_dput hu (pv 2) (pv 5) pe_bl rfl) (pss_one (ps_expr (pe_bm PySem.F.plainAttrs_list PySem.F.slot_list_append PySem.F.type_list_append mt_append (pv 3) (pa_cons (pv 5) pa_nil))))) pss_nil))))))
      (pss_one (ps_ret (pv 2))))), ?_⟩
    -- reached = {first: True}
    intro r nr
    refine ⟨_, rfl, upd_same, [(Sum.inl c, .bl true)], rfl, (by show 1 ≤ 15; decide), ?_⟩
    have er : mergeK [] [((Sum.inl c : Key), V.bl true)] = tru [c] := rfl
    rw [er, upd_upd]
    -- waiting = [first]
    refine ⟨_, rfl, le_line (by show 1 ≤ _; decide), fun q nq => ?_⟩
    have nqr : q ≠ r := by rintro rfl; rw [upd_same] at nq; cases nq
    rw [upd_ne nqr] at nq
    have s0 : Same H (upd (upd H r (.dK (tru [c]))) q (.lst [.int c])) := fun b o e => by rw [upd_ne (ne_of_none e nq), upd_ne (ne_of_none e nr)]; exact e
    have hk1 : 0 < ks.length := List.length_pos_of_mem hc
    refine ⟨fun m σ H2 => ∃ (R Wt : List Int) (v4 v5 : Option V), σ = [some (.ref d), some (.int c), some (.ref r), some (.ref q), v4, v5] ∧ Same H H2 ∧ H2 r = some (.dK (tru R)) ∧ H2 q = some (.lst (Wt.map V.int)) ∧ DInv ks c R Wt ∧ m = 2 * (ks.length - R.length) + Wt.length ∧ m ≤ 300000,
      ⟨_, [c], [c], none, none, rfl, s0, by rw [upd_ne (Ne.symm nqr)]; exact upd_same, upd_same, DInv.start ks c, rfl, by simp; omega⟩, ?_⟩
    rintro m σ H2 ⟨R, Wt, v4, v5, rfl, s2, hr2, hq2, D, rfl, hm600⟩
    refine ⟨_, rfl, !(Wt.map V.int).isEmpty, .inl ⟨_, SqL.of hq2, rfl⟩, ?_⟩
    have eR := Rp.con_len hc D.nd D.con
    by_cases hW : Wt = []
    · subst hW
      refine ifF (by simp) ?_
      refine ⟨_, rfl, k _ r R s2 hr2 nr D.nd D.fin⟩
    · refine ifT (by simpa using hW) ?_
      obtain ⟨W0, x, rfl⟩ : ∃ W0 x, Wt = W0 ++ [x] := ⟨Wt.dropLast, Wt.getLast hW, (List.dropLast_concat_getLast hW).symm⟩
      refine ⟨fun σ' H' => ∃ m', m' < 2 * (ks.length - R.length) + (W0 ++ [x]).length ∧ ∃ (R Wt : List Int) (v4 v5 : Option V), σ' = [some (.ref d), some (.int c), some (.ref r), some (.ref q), v4, v5] ∧ Same H H' ∧ H' r = some (.dK (tru R)) ∧ H' q = some (.lst (Wt.map V.int)) ∧ DInv ks c R Wt ∧ m' = 2 * (ks.length - R.length) + Wt.length ∧ m' ≤ 300000,
        fun σ' H' h => h, ?_⟩
      -- spot = waiting.pop()
      refine ⟨_, rfl, .inl ⟨rfl, _, SqL.of hq2⟩, q, _, .int x, rfl, rfl, hq2, by simp, ?_⟩
      have edrop : ((W0 ++ [x]).map V.int).dropLast = W0.map V.int := by simp
      rw [edrop]
      have h3r : (upd H2 q (.lst (W0.map V.int))) r = some (.dK (tru R)) := by rw [upd_ne (Ne.symm nqr)]; exact hr2
      have s3 : Same H (upd H2 q (.lst (W0.map V.int))) := fun b o e => by rw [upd_ne (ne_of_none e nq)]; exact s2 _ _ e
      -- for near in beside(spot)
      refine ⟨_, rfl, x, rfl, fun tt ntt => ?_⟩
      have s4 : ∀ b o, (upd H2 q (.lst (W0.map V.int))) b = some o → (upd (upd H2 q (.lst (W0.map V.int))) tt (.tup ((nb x).map V.int))) b = some o := fun b o e => by rw [upd_ne (ne_of_none e ntt)]; exact e
      refine ⟨tt, rfl, ⟨_, SqT.of upd_same⟩, ?_⟩
      refine for_tup (K := K) (a := tt) (xs := (nb x).map V.int) (fun i σ H5 => ∃ (R' Wt' : List Int) (v5 : Option V), σ = [some (.ref d), some (.int c), some (.ref r), some (.ref q), some (.int x), v5] ∧ Same H H5 ∧ H5 r = some (.dK (tru R')) ∧ H5 q = some (.lst (Wt'.map V.int)) ∧ H5 tt = some (.tup ((nb x).map V.int)) ∧ DIn2 ks c x ((nb x).take i) (2 * (ks.length - R.length) + W0.length) R' Wt')
        ⟨R, W0, v5, rfl, fun b o e => s4 _ _ (s3 _ _ e), s4 _ _ h3r, s4 _ _ upd_same, upd_same, D.open_⟩ (fun i σ H5 _ ⟨_, _, _, _, _, _, _, h, _⟩ => SqT.of h) ?_ ?_
      · rintro i y σ H5 hi ⟨R', Wt', v5, rfl, s5, hr5, hq5, ht5, D5⟩
        obtain ⟨b, hb, rfl⟩ : ∃ b, (nb x)[i]? = some b ∧ y = V.int b := by
          rw [List.getElem?_map] at hi
          cases e : (nb x)[i]? with
          | none => rw [e] at hi; cases hi
          | some b => rw [e] at hi; exact ⟨b, rfl, (Option.some.inj hi).symm⟩
        have hbm : b ∈ nb x := List.mem_of_getElem? hb
        have D6 := D5.step hc hbm
        have etake : (nb x).take (i + 1) = (nb x).take i ++ [b] := by rw [List.take_add_one, hb]; rfl
        rw [← etake] at D6
        have hRl := Rp.con_len hc D5.nd D5.con
        have hmea := D5.mea
        rw [List.length_append] at hm600
        simp at hm600
        refine ⟨_, rfl, _, rfl, d, _, rfl, rd_get (rd_keep hd s5) b, _, rfl, ?_⟩
        rw [tru_some]
        have stay : ¬ (b ∈ ks ∧ b ∉ R') → ∃ (R'' Wt'' : List Int) (v5 : Option V), [some (V.ref d), some (.int c), some (.ref r), some (.ref q), some (.int x), some (.int b)] = [some (.ref d), some (.int c), some (.ref r), some (.ref q), some (.int x), v5] ∧ Same H H5 ∧ H5 r = some (.dK (tru R'')) ∧ H5 q = some (.lst (Wt''.map V.int)) ∧ H5 tt = some (.tup ((nb x).map V.int)) ∧ DIn2 ks c x ((nb x).take (i + 1)) (2 * (ks.length - R.length) + W0.length) R'' Wt'' := fun hn => by
          unfold step1 at D6
          rw [if_neg hn] at D6
          exact ⟨R', Wt', _, rfl, s5, hr5, hq5, ht5, D6⟩
        by_cases h1 : b ∈ ks
        · refine ifT (decide_eq_true h1) ?_
          refine ⟨_, rfl, _, rfl, r, _, rfl, DGet.k (k := Sum.inl b) hr5, _, rfl, ?_⟩
          rw [tru_some]
          by_cases h2 : b ∈ R'
          · refine ifF (by rw [decide_eq_true h2]; decide) ?_
            exact stay fun z => z.2 h2
          · refine ifT (by rw [decide_eq_false h2]; decide) ?_
            unfold step1 at D6
            rw [if_pos ⟨h1, h2⟩] at D6
            refine ⟨_, rfl, _, rfl, r, _, rfl, DPut.k (k := Sum.inl b) hr5 (lt_line (by rw [tru_len]; omega)), ?_⟩
            rw [tru_put h2]
            have hq6 : (upd H5 r (.dK (tru (R' ++ [b])))) q = some (.lst (Wt'.map V.int)) := by rw [upd_ne nqr]; exact hq5
            have nrt : tt ≠ r := ne_of ht5 hr5 (by intro z; cases z)
            have nqt : tt ≠ q := ne_of ht5 hq5 (by intro z; cases z)
            refine ⟨_, rfl, .inl ⟨rfl, _, SqL.of hq6⟩, _, rfl, q, _, _, rfl, rfl, hq6, lt_line (by rw [List.length_map]; omega), ?_⟩
            refine ⟨R' ++ [b], Wt' ++ [b], _, rfl, fun z o e => ?_, by rw [upd_ne (Ne.symm nqr)]; exact upd_same, ?_, ?_, D6⟩
            · rw [upd_ne (ne_of_none e nq), upd_ne (ne_of_none e nr)]; exact s5 _ _ e
            · rw [upd_same]; simp
            · rw [upd_ne nqt, upd_ne nrt]; exact ht5
        · refine ifF (by rw [decide_eq_false h1]; decide) ?_
          refine iteF ?_
          exact stay fun z => h1 z.1
      · rintro σ H5 ⟨R', Wt', v5, rfl, s5, hr5, hq5, ht5, D5⟩
        have hall : (nb x).take ((nb x).map V.int).length = nb x := by rw [List.length_map, List.take_length]
        rw [hall] at D5
        have hmea := D5.mea
        refine ⟨2 * (ks.length - R'.length) + Wt'.length, ?_, R', Wt', _, _, rfl, s5, hr5, hq5, D5.close, rfl, by rw [List.length_append] at hm600; simp at hm600; omega⟩
        rw [List.length_append]
        simp
        omega
def spIsHouse : Sp := fun vs H Q _ => ∃ (d : Addr) (l : Cells), vs = [.ref d] ∧ HouseAt H d l ∧ ∀ H', Same H H' → Q (.bl (isHouse l)) H'
theorem scIsHouse : FnScope ["house"] ["house"] (defScope sIsHouse) := ⟨rfl, rfl, rfl, by decide +kernel, rfl, by decide +kernel, by decide +kernel⟩
theorem ok_isHouse {f fM fR : Addr} {fd fdM fdR : FuncData} (F : Fun K "is_house" "is_house" sIsHouse f fd) (G : Glo mg) (cM : Cal P w K mg base 1 "meet_in_point_alone" ["house"] spMeet fM fdM) (cR : Cal P w K mg base 2 "reached_from" ["spots", "first"] spReached fR fdR) :
    FnOk P w K mg base CX0 3 f fd ["house"] spIsHouse := by
  obtain ⟨tm, hmc⟩ := G.mc
  refine F.ok scIsHouse (fun vs H Q E h => ?_) (fun cdv A outer s H vs Q E hr h => ?_)
  · obtain ⟨d, l, rfl, _⟩ := h
    rfl
  · obtain ⟨d, l, rfl, hd, k⟩ := h
    have hr1 : Room 1 _ := hr.mono (by decide)
    obtain ⟨ks, hdic, hks⟩ := hd.dic
    refine ⟨_, pss_cons (ps_if (PW.pt (pw_or (pt_cmpR op_lt (pe_callB call_lenD (by rfl) G.len PySem.boot_len (pa_cons (pv 0) pa_nil)) pe_int (nomark _)) (pw_or (pt_cmpR op_gt (pe_callB call_lenD (by rfl) G.len PySem.boot_len (pa_cons (pv 0) pa_nil)) (pe_glob (v := .int 256) rfl hmc ⟨_, rfl⟩) (nomark _))
        (pw_or1 (pt_val (pe_call cM.ok hr1 rfl cM.at_ cM.kp cM.b .nil pass0 (pa_cons (pv 0) pa_nil))))))) (pss_one (ps_ret pe_bl)) pss_nil)
      (pss_one (ps_ret (pe_cmpR op_eq (pe_callB call_lenD (by rfl) G.len PySem.boot_len (pa_cons (pe_call cR.ok hr rfl cR.at_ cR.kp cR.b .nil pass0 (pa_cons (pv 0) (pa_cons (pe_callB (cr_minD rfl) (by rfl) G.mn PyProof.Rows.boot_min (pa_cons (pv 0) pa_nil)) pa_nil))) pa_nil)) (pe_callB call_lenD (by rfl) G.len PySem.boot_len (pa_cons (pv 0) pa_nil)) (nomark _)))), ?_⟩
    have no : isHouse l = false → Q (.bl false) H := fun e => by have := k H (Same.refl _); rw [e] at this; exact this
    have elen : (tru ks).length = l.length := by rw [tru_len]; exact hks.len hd.wi hd.ri
    refine ⟨_, rfl, d, _, rfl, hdic, _, _, rfl, rfl, _, rfl, ?_⟩
    rw [elen]
    refine ite2 (fun e => ?_) (fun e => ?_)
    · refine iteT ?_
      refine no ?_
      have := of_decide_eq_true e
      have : l = [] := List.eq_nil_of_length_eq_zero (by omega)
      subst this
      rfl
    · have hne : 0 < l.length := by
        have : ¬ ((l.length : Int) < 1) := fun z => e (decide_eq_true z)
        omega
      refine ⟨_, rfl, d, _, rfl, hdic, _, _, rfl, rfl, _, rfl, ?_⟩
      rw [elen]
      refine ite2 (fun e2 => ?_) (fun e2 => ?_)
      · refine iteT ?_
        refine no ?_
        have h5 := of_decide_eq_true e2
        have : ¬ l.length ≤ CELLS := by show ¬ l.length ≤ 256; omega
        unfold isHouse
        rw [decide_eq_false this]
        rfl
      · have hle : l.length ≤ 256 := by
          have : ¬ ((256 : Int) < l.length) := fun z => e2 (decide_eq_true z)
          omega
        refine ⟨_, rfl, d, _, rfl, hdic, fun hm => ?_, fun hm => ?_⟩
        · refine ⟨_, rfl, iteT ?_⟩
          refine no ?_
          have hp := (Rp.meet_keys hks hd.wi).mpr hm
          cases hl : isHouse l with
          | false => rfl
          | true =>
            obtain ⟨c, r, _, _, h6, _⟩ := (Rp.isHouse_iff hd.wi hd.ri).mp hl
            rw [h6] at hp; cases hp
        · refine ⟨_, rfl, iteF ?_⟩
          have hp : pinched l = false := by
            cases h : pinched l with
            | false => rfl
            | true => exact absurd ((Rp.meet_keys hks hd.wi).mp h) hm
          obtain ⟨c, r, rfl⟩ : ∃ c r, l = c :: r := by
            cases l with
            | nil => simp at hne
            | cons c r => exact ⟨c, r, rfl⟩
          refine ⟨_, rfl, _, rfl, d, _, rfl, ⟨_, .inl hdic, tru_keys _⟩, by rw [hks.len hd.wi hd.ri]; simp, fun m hm1 hm2 => ?_⟩
          have hmc := Rp.rise_min hd.wi hd.ri hks hm1 hm2
          subst hmc
          refine ⟨d, ks, num c, rfl, .inl hdic, by have := hks.len hd.wi hd.ri; omega, (hks.mem _).mpr (by simp), fun H' rr R sR hR _ ndR memR => ?_⟩
          have hlenR := Rp.reach_keys hks hd.wi hd.ri (by simp) ndR memR
          refine ⟨rr, _, rfl, hR, _, rfl, d, _, rfl, sR _ _ hdic, rfl, ?_⟩
          rw [tru_len, elen]
          have hfin : decide (V.int (R.length : Nat) = V.int ((c :: r).length : Nat)) = isHouse (c :: r) := by
            rw [hlenR]
            cases hl : isHouse (c :: r) with
            | true =>
              obtain ⟨c', r', e', _, _, h6⟩ := (Rp.isHouse_iff hd.wi hd.ri).mp hl
              cases e'
              exact decide_eq_true (by rw [h6])
            | false =>
              refine decide_eq_false fun z => ?_
              have h6 := V.int.inj z
              have : isHouse (c :: r) = true := (Rp.isHouse_iff hd.wi hd.ri).mpr ⟨c, r, rfl, hle, hp, by omega⟩
              rw [this] at hl; cases hl
          rw [hfin]
          exact k _ sR
end
end Pf
namespace Pf
open PySem L2 Roof
open Rp (num ROk WB PB rightW Ali prevAt nth RiseI isW dirAt nxt it stepI cellFeet feetFrom NoPinch)
def putAll (acc : List (Key × V)) (xs : List (Int × Int)) : List (Key × V) := xs.foldl (fun a x => putK a (Sum.inl x.1 : Key) (.int x.2)) acc
theorem putAll_append (acc : List (Key × V)) (xs ys : List (Int × Int)) : putAll acc (xs ++ ys) = putAll (putAll acc xs) ys := by unfold putAll; rw [List.foldl_append]
theorem putAll_len : ∀ (xs : List (Int × Int)) (acc : List (Key × V)), (putAll acc xs).length ≤ acc.length + xs.length
  | [], acc => by simp [putAll]
  | x :: xs, acc => by
    have h1 := putAll_len xs (putK acc (Sum.inl x.1 : Key) (.int x.2))
    have h2 := length_putK acc (Sum.inl x.1 : Key) (.int x.2)
    show (putAll (putK acc (Sum.inl x.1 : Key) (.int x.2)) xs).length ≤ _
    simp only [List.length_cons]
    omega
theorem putAll_val : ∀ (xs : List (Int × Int)) (acc : List (Key × V)) (m : Int), (∀ v, (m, v) ∉ xs) → valV (putAll acc xs) (Sum.inl m : Key) = valV acc (Sum.inl m : Key)
  | [], acc, m, _ => rfl
  | x :: xs, acc, m, h => by
    show valV (putAll (putK acc (Sum.inl x.1 : Key) (.int x.2)) xs) _ = _
    rw [putAll_val xs _ m (fun v hv => h v (List.mem_cons_of_mem _ hv)), valV_put, if_neg]
    intro z
    have : m = x.1 := Sum.inl.inj z
    exact h x.2 (by rw [this]; simp)
theorem putAll_get {xs : List (Int × Int)} (hf : ∀ m v v', (m, v) ∈ xs → (m, v') ∈ xs → v = v') {m v : Int} (h : (m, v) ∈ xs) (acc : List (Key × V)) : valV (putAll acc xs) (Sum.inl m : Key) = some (.int v) := by
  induction xs generalizing acc with
  | nil => cases h
  | cons x xs ih =>
    show valV (putAll (putK acc (Sum.inl x.1 : Key) (.int x.2)) xs) _ = _
    by_cases hx : ∃ v', (m, v') ∈ xs
    · obtain ⟨v', hv'⟩ := hx
      have e := hf m v v' h (List.mem_cons_of_mem _ hv')
      subst e
      exact ih (fun m v v' h1 h2 => hf m v v' (List.mem_cons_of_mem _ h1) (List.mem_cons_of_mem _ h2)) hv' _
    · rw [putAll_val xs _ m (fun v hv => hx ⟨v, hv⟩), valV_put]
      rcases List.mem_cons.mp h with e | e
      · rw [← e, if_pos rfl]
      · exact absurd ⟨v, e⟩ hx
theorem putAll_keys : ∀ (xs : List (Int × Int)) (acc : List (Key × V)) (ks : List Int), acc.map (·.1) = ks.map Sum.inl → ks.Nodup → ∃ ks' : List Int, (putAll acc xs).map (·.1) = ks'.map Sum.inl ∧ ks'.Nodup ∧ ∀ m, m ∈ ks' ↔ m ∈ ks ∨ ∃ v, (m, v) ∈ xs
  | [], acc, ks, h, nd => ⟨ks, h, nd, fun m => by simp⟩
  | x :: xs, acc, ks, h, nd => by
    obtain ⟨k1, h1, n1, m1⟩ := keys_put h nd x.1 (.int x.2)
    obtain ⟨k2, h2, n2, m2⟩ := putAll_keys xs _ k1 h1 n1
    refine ⟨k2, h2, n2, fun m => ?_⟩
    rw [m2, m1]
    constructor
    · rintro ((e | e) | ⟨v, e⟩)
      · exact .inr ⟨x.2, by rw [e]; simp⟩
      · exact .inl e
      · exact .inr ⟨v, List.mem_cons_of_mem _ e⟩
    · rintro (e | ⟨v, e⟩)
      · exact .inl (.inr e)
      · rcases List.mem_cons.mp e with e | e
        · exact .inl (.inl (by rw [← e]))
        · exact .inr ⟨v, e⟩
structure StepsAt (H : Hp) (st : Addr) (l : Cells) : Prop where
  ex : ∃ kvs : List (Key × V), H st = some (.dK kvs) ∧ (∀ p, isW l p → valV kvs (Sum.inl (num p) : Key) = some (.int (stepI (dirAt l p)))) ∧
    ∃ sk : List Int, kvs.map (·.1) = sk.map Sum.inl ∧ sk.Nodup ∧ ∀ m, m ∈ sk ↔ ∃ p, isW l p ∧ m = num p
theorem StepsAt.keep {H H' : Hp} {st : Addr} {l : Cells} (h : StepsAt H st l) (s : Same H H') : StepsAt H' st l := by
  obtain ⟨kvs, h1, h2⟩ := h.ex
  exact ⟨kvs, s _ _ h1, h2⟩
structure HC (l : Cells) : Prop where
  np : NoPinch l
  wi : ∀ c ∈ l, Roof.within c = true
  le : l.length ≤ 256
theorem HC.bd {l : Cells} (h : HC l) {p : Point} (hp : isW l p) : p.1 < 256 := by have := (Rp.isW_bd h.wi hp).1; omega
section
variable {P : Program} {w : World} {K : PySem.W.Frag} {mg : Str → Option Value} {base : Heap}
def spSteps : Sp := fun vs H Q _ => ∃ (d : Addr) (l : Cells), vs = [.ref d] ∧ HouseAt H d l ∧ HC l ∧ ∀ H' st, Same H H' → StepsAt H' st l → H st = none → Q (.ref st) H'
theorem scSteps : FnScope ["house", "steps", "cell"] ["house"] (defScope sSteps) := ⟨rfl, rfl, rfl, by decide +kernel, rfl, by decide +kernel, by decide +kernel⟩
theorem cellFeet_len (ks : List Int) (m : Int) : (cellFeet ks m).length ≤ 4 := by
  unfold cellFeet
  simp only [List.length_append]
  have : ∀ (c : Prop) [Decidable c] (x : Int × Int), (if c then ([] : List (Int × Int)) else [x]).length ≤ 1 := fun c _ x => by split <;> simp
  have h1 := this (m - 256 ∈ ks) (m, 1)
  have h2 := this (m + 1 ∈ ks) (m + 1, 256)
  have h3 := this (m + 256 ∈ ks) (m + 257, -1)
  have h4 := this (m - 1 ∈ ks) (m + 256, -256)
  omega
theorem ok_steps {f : Addr} {fd : FuncData} (F : Fun K "wall_steps" "wall_steps" sSteps f fd) (G : Glo mg) : FnOk P w K mg base CX0 1 f fd ["house"] spSteps := by
  obtain ⟨tr, hrow⟩ := G.row
  refine F.ok scSteps (fun vs H Q E h => ?_) (fun cdv A outer s H vs Q E hr h => ?_)
  · obtain ⟨d, l, rfl, _⟩ := h
    rfl
  · obtain ⟨d, l, rfl, hd, hc, k⟩ := h
    have hu := hu_of hr
    obtain ⟨ks, hdic, hks⟩ := hd.dic
    refine ⟨_, pss_cons (ps_set (i := 1) scSteps.nd rfl (Or.inl rfl) pe_dnewK)
      (pss_cons (ps_lock (ps_for PassesOwn.never rfl (pi_keys (pv 0)) (pg_name (i := 2) scSteps.nd rfl (Or.inl rfl))
        (pss_cons (ps_if (pt_cmp (pc_dnotin hu (pe_op op_sub (pv 2) (pe_glob (v := .int 256) rfl hrow ⟨_, rfl⟩)) (pv 0))) (pss_one (ps_dput hu (pv 1) (pv 2) pe_int rfl)) pss_nil)
        (pss_cons (ps_if (pt_cmp (pc_dnotin hu (pe_op op_add (pv 2) pe_int) (pv 0))) (pss_one (ps_dput hu (pv 1) (pe_op op_add (pv 2) pe_int) (pe_glob (v := .int 256) rfl hrow ⟨_, rfl⟩) rfl)) pss_nil)
        (pss_cons (ps_if (pt_cmp (pc_dnotin hu (pe_op op_add (pv 2) (pe_glob (v := .int 256) rfl hrow ⟨_, rfl⟩)) (pv 0))) (pss_one (ps_dput hu (pv 1) (pe_op op_add (pe_op op_add (pv 2) (pe_glob (v := .int 256) rfl hrow ⟨_, rfl⟩)) pe_int) (pe_un un_neg pe_int) rfl)) pss_nil)
        (pss_one (ps_if (pt_cmp (pc_dnotin hu (pe_op op_sub (pv 2) pe_int) (pv 0))) (pss_one (ps_dput hu (pv 1) (pe_op op_add (pv 2) (pe_glob (v := .int 256) rfl hrow ⟨_, rfl⟩)) (pe_un un_neg (pe_glob (v := .int 256) rfl hrow ⟨_, rfl⟩)) rfl)) pss_nil)))))))
      (pss_one (ps_ret (pv 1)))), ?_⟩
    intro st nst
    have nsd : st ≠ d := fun z => by rw [z, hdic] at nst; cases nst
    have hd1 : (upd H st (.dK [])) d = some (.dK (tru ks)) := by rw [upd_ne (Ne.symm nsd)]; exact hdic
    refine ⟨d, _, hd1, trivial, fun od => ?_⟩
    refine ⟨_, rfl, d, od, rfl, .inl ⟨tru ks, upd_same, ?_⟩⟩
    have klen : ks.length ≤ 256 := by rw [hks.len hd.wi hd.ri]; exact hc.le
    let ST := fun (kv : List (Key × V)) (H3 : Hp) => H3 st = some (.dK kv) ∧ H3 d = some (.frz od (.dK (tru ks))) ∧ ∀ b o, H b = some o → b ≠ d → H3 b = some o
    refine for_keys (d := d) (ob := od) (kvs := tru ks) (fun i σ H2 => ∃ v2, σ = [some (.ref d), some (.ref st), v2] ∧ ST (putAll [] ((ks.take i).flatMap (cellFeet ks))) H2)
      ⟨none, rfl, by rw [upd_ne nsd]; exact upd_same, upd_same, fun b o e hb => by rw [upd_ne hb, upd_ne (ne_of_none e nst)]; exact e⟩ (fun i σ H2 _ ⟨_, _, h⟩ => h.2.1) ?_ ?_
    · rintro i kx vx σ H2 hkv ⟨v2, rfl, hS⟩
      obtain ⟨m, hm, rfl⟩ : ∃ m, ks[i]? = some m ∧ kx = Sum.inl m := by
        rw [tru, List.getElem?_map] at hkv
        cases e : ks[i]? with
        | none => rw [e] at hkv; cases hkv
        | some m => rw [e] at hkv; exact ⟨m, rfl, (Prod.mk.inj (Option.some.inj hkv)).1.symm⟩
      have hil : i < ks.length := (List.getElem?_eq_some_iff.mp hm).1
      have etake : ks.take (i + 1) = ks.take i ++ [m] := by rw [List.take_add_one, hm]; rfl
      have elast : putAll [] ((ks.take (i + 1)).flatMap (cellFeet ks)) = putAll (putAll [] ((ks.take i).flatMap (cellFeet ks))) (cellFeet ks m) := by
        rw [etake, List.flatMap_append, putAll_append]; simp
      have hlen0 : (putAll [] ((ks.take i).flatMap (cellFeet ks))).length ≤ 4 * i := by
        have h1 := putAll_len ((ks.take i).flatMap (cellFeet ks)) []
        have h2 : ∀ l : List Int, (l.flatMap (cellFeet ks)).length ≤ 4 * l.length := by
          intro l
          induction l with
          | nil => simp
          | cons a l ih => rw [List.flatMap_cons, List.length_append, List.length_cons]; have := cellFeet_len ks a; omega
        have h3 := h2 (ks.take i)
        have h4 : (ks.take i).length ≤ i := by rw [List.length_take]; omega
        rw [List.length_nil, Nat.zero_add] at h1
        omega
      generalize hk0 : putAll [] ((ks.take i).flatMap (cellFeet ks)) = K0 at hS elast hlen0
      have get : ∀ (kv : List (Key × V)) (H3 : Hp), ST kv H3 → ∀ x : Int, DGet H3 d (.int x) (valV (tru ks) (Sum.inl x : Key)) := fun kv H3 h x => .inl ⟨tru ks, Sum.inl x, .inr ⟨od, h.2.1⟩, rfl, rfl⟩
      have put : ∀ (kv : List (Key × V)) (H3 : Hp), ST kv H3 → ∀ (x v : Int), ST (putAll kv [(x, v)]) (upd H3 st (.dK (putK kv (Sum.inl x : Key) (.int v)))) := fun kv H3 h x v =>
        ⟨upd_same, by rw [upd_ne (Ne.symm nsd)]; exact h.2.1, fun b o e hb => by rw [upd_ne (ne_of_none e nst)]; exact h.2.2 b o e hb⟩
      -- from the back: what each statement wants ahead of it
      have f1 : (if m - 256 ∈ ks then [] else [(m, (1 : Int))]).length ≤ 1 := by split <;> simp
      have f2 : (if m + 1 ∈ ks then [] else [(m + 1, (256 : Int))]).length ≤ 1 := by split <;> simp
      have f3 : (if m + 256 ∈ ks then [] else [(m + 257, (-1 : Int))]).length ≤ 1 := by split <;> simp
      -- the first
      refine ⟨_, rfl, _, _, rfl, rfl, _, rfl, d, _, rfl, get _ _ hS _, _, rfl, ?_⟩
      rw [tru_some]
      suffices h2 : ∀ H3, ST (putAll K0 (if m - 256 ∈ ks then [] else [(m, 1)])) H3 → _ by
        by_cases c1 : m - 256 ∈ ks
        · refine ifF (by rw [decide_eq_true c1]; decide) ?_
          refine h2 H2 ?_
          rw [if_pos c1]; exact hS
        · refine ifT (by rw [decide_eq_false c1]; decide) ?_
          refine ⟨_, rfl, _, rfl, st, _, rfl, DPut.k (k := Sum.inl m) hS.1 (lt_line (by omega)), ?_⟩
          refine h2 _ ?_
          rw [if_neg c1]; exact put _ _ hS m 1
      intro H3 hS3
      have l3 := putAll_len (if m - 256 ∈ ks then [] else [(m, 1)]) K0
      generalize hk1 : putAll K0 (if m - 256 ∈ ks then [] else [(m, 1)]) = K1 at hS3 l3
      refine ⟨_, rfl, _, _, rfl, rfl, _, rfl, d, _, rfl, get _ _ hS3 _, _, rfl, ?_⟩
      rw [tru_some]
      suffices h2 : ∀ H4, ST (putAll K1 (if m + 1 ∈ ks then [] else [(m + 1, 256)])) H4 → _ by
        by_cases c1 : m + 1 ∈ ks
        · refine ifF (by rw [decide_eq_true c1]; decide) ?_
          refine h2 H3 ?_
          rw [if_pos c1]; exact hS3
        · refine ifT (by rw [decide_eq_false c1]; decide) ?_
          refine ⟨_, rfl, _, rfl, _, _, rfl, rfl, st, _, rfl, DPut.k (k := Sum.inl (m + 1)) hS3.1 (lt_line (by omega)), ?_⟩
          refine h2 _ ?_
          rw [if_neg c1]; exact put _ _ hS3 (m + 1) 256
      intro H4 hS4
      have l4 := putAll_len (if m + 1 ∈ ks then [] else [(m + 1, 256)]) K1
      generalize hk2 : putAll K1 (if m + 1 ∈ ks then [] else [(m + 1, 256)]) = K2 at hS4 l4
      refine ⟨_, rfl, _, _, rfl, rfl, _, rfl, d, _, rfl, get _ _ hS4 _, _, rfl, ?_⟩
      rw [tru_some]
      suffices h2 : ∀ H5, ST (putAll K2 (if m + 256 ∈ ks then [] else [(m + 257, -1)])) H5 → _ by
        by_cases c1 : m + 256 ∈ ks
        · refine ifF (by rw [decide_eq_true c1]; decide) ?_
          refine h2 H4 ?_
          rw [if_pos c1]; exact hS4
        · refine ifT (by rw [decide_eq_false c1]; decide) ?_
          refine ⟨_, rfl, _, rfl, _, rfl, _, _, rfl, rfl, _, _, rfl, rfl, st, _, rfl, DPut.k (k := Sum.inl (m + 256 + 1)) hS4.1 (lt_line (by omega)), ?_⟩
          refine h2 _ ?_
          have e257 : m + 256 + 1 = m + 257 := by omega
          rw [if_neg c1, e257]; exact put _ _ hS4 (m + 257) (-1)
      intro H5 hS5
      have l5 := putAll_len (if m + 256 ∈ ks then [] else [(m + 257, -1)]) K2
      generalize hk3 : putAll K2 (if m + 256 ∈ ks then [] else [(m + 257, -1)]) = K3 at hS5 l5
      refine ⟨_, rfl, _, _, rfl, rfl, _, rfl, d, _, rfl, get _ _ hS5 _, _, rfl, ?_⟩
      rw [tru_some]
      have fin : ∀ H6, ST (putAll K3 (if m - 1 ∈ ks then [] else [(m + 256, -256)])) H6 → ST (putAll [] ((ks.take (i + 1)).flatMap (cellFeet ks))) H6 := fun H6 h6 => by
        rw [elast]
        unfold cellFeet
        rw [putAll_append, putAll_append, putAll_append, hk1, hk2, hk3]
        exact h6
      by_cases c1 : m - 1 ∈ ks
      · refine ifF (by rw [decide_eq_true c1]; decide) ?_
        refine ⟨_, rfl, fin H5 ?_⟩
        rw [if_pos c1]; exact hS5
      · refine ifT (by rw [decide_eq_false c1]; decide) ?_
        refine ⟨_, rfl, _, rfl, _, rfl, _, _, rfl, rfl, st, _, rfl, DPut.k (k := Sum.inl (m + 256)) hS5.1 (lt_line (by omega)), ?_⟩
        refine ⟨_, rfl, fin _ ?_⟩
        rw [if_neg c1]; exact put _ _ hS5 (m + 256) (-256)
    · rintro σ H2 ⟨v2, rfl, hS⟩
      refine ⟨hS.2.1, _, rfl, ?_⟩
      rw [tru_len, List.take_length] at hS
      refine k _ st (fun b o e => ?_) ⟨_, by rw [upd_ne nsd]; exact hS.1, fun p hp => ?_, ?_⟩ nst
      · by_cases hb : b = d
        · subst hb
          rw [hdic] at e
          cases e
          exact upd_same
        · rw [upd_ne hb]; exact hS.2.2 b o e hb
      · exact putAll_get (fun m v v' h1 h2 => Rp.allFeet_fun hc.np hc.wi ((Rp.allFeet_keys hks).mp h1) ((Rp.allFeet_keys hks).mp h2)) ((Rp.allFeet_keys hks).mpr ((Rp.allFeet_mem hc.np hc.wi).mpr ⟨p, hp, rfl⟩)) []
      · obtain ⟨sk, h1, h2, h3⟩ := putAll_keys (ks.flatMap (cellFeet ks)) [] [] rfl List.nodup_nil
        refine ⟨sk, h1, h2, fun m => ?_⟩
        rw [h3]
        constructor
        · rintro (z | ⟨v, z⟩)
          · cases z
          · obtain ⟨p, hp, e⟩ := (Rp.allFeet_mem hc.np hc.wi).mp ((Rp.allFeet_keys hks).mp z)
            exact ⟨p, hp, (Prod.mk.inj e).1⟩
        · rintro ⟨p, hp, rfl⟩
          exact .inr ⟨_, (Rp.allFeet_keys hks).mpr ((Rp.allFeet_mem hc.np hc.wi).mpr ⟨p, hp, rfl⟩)⟩
end
end Pf
namespace Pf
open PySem L2 Roof
open Rp (num ROk WB PB rightW Ali prevAt nth RiseI isW dirAt nxt it stepI cellFeet feetFrom NoPinch ptsN footN)
section
variable {P : Program} {w : World} {K : PySem.W.Frag} {mg : Str → Option Value} {base : Heap}
theorem StepsAt.get {H : Hp} {st : Addr} {l : Cells} (h : StepsAt H st l) {p : Point} (hp : isW l p) : DGet H st (.int (num p)) (some (.int (stepI (dirAt l p)))) := by
  obtain ⟨kvs, h1, h2, _⟩ := h.ex
  exact .inl ⟨kvs, Sum.inl (num p), .inl h1, rfl, (h2 p hp).symm⟩
structure Cyc (l : Cells) (p : Point) (n : Nat) : Prop where
  pos : 0 < n
  back : it l n p = p
  first : ∀ k, 0 < k → k < n → it l k p ≠ p
  le : n ≤ 4 * l.length
  feet : feetFrom l p = footN l p n
theorem cyc_of {l : Cells} (h : HC l) {p : Point} (hp : isW l p) : ∃ n, Cyc l p n := by
  obtain ⟨n, h1, h2, h3, h4, h5⟩ := Rp.feetFrom_eq h.np hp
  exact ⟨n, h1, h2, h3, h4, h5⟩
def spPoints : Sp := fun vs H Q _ => ∃ (st : Addr) (l : Cells) (p : Point) (n : Nat), vs = [.ref st, .int (num p)] ∧ StepsAt H st l ∧ HC l ∧ isW l p ∧ Cyc l p n ∧ ∀ H' a, Same H H' → H' a = some (.lst ((ptsN l p n).map nI)) → H a = none → Q (.ref a) H'
theorem scPoints : FnScope ["steps", "first", "points", "point"] ["steps", "first"] (defScope sPoints) := ⟨rfl, rfl, rfl, by decide +kernel, rfl, by decide +kernel, by decide +kernel⟩
theorem ok_points {f : Addr} {fd : FuncData} (F : Fun K "points_of_walk" "points_of_walk" sPoints f fd) (G : Glo mg) : FnOk P w K mg base CX0 1 f fd ["steps", "first"] spPoints := by
  refine F.ok scPoints (fun vs H Q E h => ?_) (fun cdv A outer s H vs Q E hr h => ?_)
  · obtain ⟨st, l, p, n, rfl, _⟩ := h
    rfl
  · obtain ⟨st, l, p, n, rfl, hs, hc, hp, cy, k⟩ := h
    have hu := hu_of hr
    refine ⟨_, pss_cons (ps_set (i := 2) scPoints.nd rfl (Or.inl rfl) (pe_lst (pa_cons (pv 1) pa_nil)))
      (pss_cons (ps_set (i := 3) scPoints.nd rfl (Or.inl rfl) (pe_op op_add (pv 1) (pe_dget hu (pv 0) (pv 1) (fun _ _ => rfl))))
      (pss_cons (ps_while PassesOwn.never (pt_cmpR op_ne (pv 3) (pv 1) (nomark _))
        (pss_cons (ps_expr (pe_bm PySem.F.plainAttrs_list PySem.F.slot_list_append PySem.F.type_list_append mt_append (pv 2) (pa_cons (pv 3) pa_nil)))
        (pss_one (ps_set (i := 3) scPoints.nd rfl (Or.inl rfl) (pe_op op_add (pv 3) (pe_dget hu (pv 0) (pv 3) (fun _ _ => rfl)))))))
      (pss_one (ps_ret (pv 2))))), ?_⟩
    refine ⟨_, rfl, le_line (by show 1 ≤ _; decide), fun a na => ?_⟩
    have s0 : Same H (upd H a (.lst [.int (num p)])) := fun b o e => by rw [upd_ne (ne_of_none e na)]; exact e
    have itW := fun i => Rp.it_W hc.np hp i
    refine ⟨_, rfl, _, rfl, _, rfl, st, _, rfl, (hs.keep s0).get hp, _, _, rfl, rfl, ?_⟩
    refine ⟨fun m σ H2 => ∃ j, σ = [some (.ref st), some (.int (num p)), some (.ref a), some (.int (num (it l (j + 1) p)))] ∧ Same H H2 ∧ H2 a = some (.lst ((ptsN l p (j + 1)).map nI)) ∧ j + 1 ≤ n ∧ m = n - (j + 1),
      ⟨_, 0, by show [some (V.ref st), some (V.int (num p)), some (V.ref a), some (V.int (num p + stepI (dirAt l p)))] = _; rw [← Rp.num_next hp]; rfl, s0, upd_same, cy.pos, rfl⟩, ?_⟩
    rintro m σ H2 ⟨j, rfl, s2, ha, hj, rfl⟩
    refine ⟨_, rfl, _, rfl, rfl, _, rfl, ?_⟩
    have inj : num (it l (j + 1) p) = num p ↔ it l (j + 1) p = p := ⟨fun e => Rp.num_inj (hc.bd (itW _)) (hc.bd hp) e, fun e => by rw [e]⟩
    by_cases hjn : j + 1 = n
    · have e : it l (j + 1) p = p := by rw [hjn]; exact cy.back
      refine ifF (by rw [e, decide_eq_true rfl]; decide) ?_
      refine ⟨_, rfl, k _ a s2 ?_ na⟩
      rw [ha, hjn]
    · have hne : it l (j + 1) p ≠ p := cy.first (j + 1) (by omega) (by omega)
      refine ifT (by rw [decide_eq_false (fun z => hne (inj.mp (V.int.inj z)))]; decide) ?_
      refine ⟨fun σ' H' => ∃ m', m' < n - (j + 1) ∧ ∃ j, σ' = [some (.ref st), some (.int (num p)), some (.ref a), some (.int (num (it l (j + 1) p)))] ∧ Same H H' ∧ H' a = some (.lst ((ptsN l p (j + 1)).map nI)) ∧ j + 1 ≤ n ∧ m' = n - (j + 1), fun _ _ h => h, ?_⟩
      have hlen : ((ptsN l p (j + 1)).map nI).length < sizeLine := by
        rw [List.length_map, Rp.ptsN_len]
        have := cy.le; have := hc.le
        exact lt_line (by omega)
      refine ⟨_, rfl, .inl ⟨rfl, _, SqL.of ha⟩, _, rfl, a, _, _, rfl, rfl, ha, hlen, ?_⟩
      have s3 : Same H (upd H2 a (.lst ((ptsN l p (j + 1)).map nI ++ [.int (num (it l (j + 1) p))]))) := fun b o e => by rw [upd_ne (ne_of_none e na)]; exact s2 _ _ e
      refine ⟨_, rfl, _, rfl, _, rfl, st, _, rfl, (hs.keep s3).get (itW (j + 1)), _, _, rfl, rfl, ?_⟩
      refine ⟨n - (j + 1 + 1), by omega, j + 1, by show [some (V.ref st), some (V.int (num p)), some (V.ref a), some (V.int (num (it l (j + 1) p) + stepI (dirAt l (it l (j + 1) p))))] = _; rw [← Rp.num_next (itW (j + 1))]; rfl, s3, ?_, by omega, rfl⟩
      rw [upd_same]
      have : ptsN l p (j + 1 + 1) = ptsN l p (j + 1) ++ [it l (j + 1) p] := by
        unfold ptsN
        rw [List.range_succ (n := j + 1), List.map_append]
        rfl
      rw [this, List.map_append]
      rfl
def spCorners : Sp := fun vs H Q _ => ∃ (st a : Addr) (l : Cells) (p : Point) (n : Nat), vs = [.ref st, .ref a] ∧ StepsAt H st l ∧ H a = some (.lst ((ptsN l p n).map nI)) ∧ HC l ∧ isW l p ∧ Cyc l p n ∧ ∀ H' c, Same H H' → H' c = some (.lst ((cornersOf (feetFrom l p)).map nI)) → H c = none → Q (.ref c) H'
theorem scCorners : FnScope ["steps", "points", "k", "point"] ["steps", "points"] (defScope sCorners) := ⟨rfl, rfl, rfl, by decide +kernel, rfl, by decide +kernel, by decide +kernel⟩
theorem ok_corners {f : Addr} {fd : FuncData} (F : Fun K "corners_of_walk" "corners_of_walk" sCorners f fd) (G : Glo mg) : FnOk P w K mg base CX0 1 f fd ["steps", "points"] spCorners := by
  refine F.ok scCorners (fun vs H Q E h => ?_) (fun cdv A outer s H vs Q E hr h => ?_)
  · obtain ⟨st, a, l, p, n, rfl, _⟩ := h
    rfl
  · obtain ⟨st, a, l, p, n, rfl, hs, ha, hc, hp, cy, k⟩ := h
    have hu := hu_of hr
    refine ⟨_, pss_one (ps_ret (pe_lc (g := gTup K 2 (gCons (gName 2) (gCons (gName 3) gNil))) rfl scCorners.nd (pi_enum rfl G.enum (pa_cons (pv 1) pa_nil)) (blkOk_by (own := [("k", 2), ("point", 3)]) (by show blkC ["steps", "points", "k", "point"] (defScope sCorners) _ _ = true; decide +kernel))
      (fun s H C cl fp => pg_tup rfl (pgs_cons (pg_name (i := 2) scCorners.nd rfl (Or.inl rfl) (Or.inr rfl)) (pgs_cons (pg_name (i := 3) scCorners.nd rfl (Or.inl rfl) (Or.inr rfl)) pgs_nil)))
      (fun s H C cl fp => pts_one (pt_cmpR op_ne (pe_dget hu (pv 0) (pe_ix (r := rIxL K) ix_list (pv 1) (pe_op op_sub (pv 2) pe_int) (fun _ _ => rfl)) (fun _ _ => rfl)) (pe_dget hu (pv 0) (pv 3) (fun _ _ => rfl)) (nomark _)))
      (fun s H C cl fp => pv 3))), ?_⟩
    have itW := fun i => Rp.it_W hc.np hp i
    have hn := cy.le
    have hn2 := hc.le
    refine ⟨_, rfl, a, _, rfl, SqL.of ha, fun D nD => ?_⟩
    have s0 : Same H (upd H D (.lst [])) := fun b o e => by rw [upd_ne (ne_of_none e nD)]; exact e
    refine lc_enum (K := K) (a := a) (xs := (ptsN l p n).map nI) (fun i H2 => Same H H2 ∧ H2 D = some (.lst ((turns (dirAt l (it l (n - 1) p)) ((footN l p n).take i)).map nI))) ⟨s0, by rw [upd_same]; rfl⟩ (fun i H2 _ h => SqL.of (h.1 _ _ ha)) ?_ ?_
    · rintro i x H2 TT hi nT ⟨s2, hD⟩
      have hil : i < n := by
        have := (List.getElem?_eq_some_iff.mp hi).1
        rw [List.length_map, Rp.ptsN_len] at this
        exact this
      have hil2 : i < (ptsN l p n).length := by rw [Rp.ptsN_len]; exact hil
      rw [nI_at hil2, Rp.ptsN_nth l p hil] at hi
      cases hi
      have s3 : Same H2 (upd H2 TT (.tup [.int (i : Nat), nI (it l i p)])) := fun b o e => by rw [upd_ne (ne_of_none e nT)]; exact e
      have hD3 := s3 _ _ hD
      have s23 := s2.trans s3
      refine ⟨TT, _, rfl, SqT.of upd_same, rfl, _, _, rfl, _, _, rfl, rfl, rfl, ?_⟩
      have hprev : isW l (prevAt (ptsN l p n) i) := by rw [Rp.ptsN_prev l p hil]; exact itW _
      refine ⟨_, rfl, _, rfl, _, rfl, _, _, rfl, rfl, a, _, _, _, rfl, rfl, SqL.of (s23 _ _ ha), prev_at hil2, st, _, rfl, (hs.keep s23).get hprev, ?_⟩
      refine ⟨_, rfl, _, rfl, st, _, rfl, (hs.keep s23).get (itW i), rfl, _, rfl, ?_⟩
      have htt := Rp.turns_take (footN l p n) (dirAt l (it l (n - 1) p)) i _ (Rp.footN_at l p hil)
      rw [Rp.pd_prev l p hil] at htt
      have hlen : ((turns (dirAt l (it l (n - 1) p)) ((footN l p n).take i)).map nI).length < sizeLine := by
        refine lt_line ?_
        have h5 := Rp.turns_len ((footN l p n).take i) (dirAt l (it l (n - 1) p))
        have h6 : ((footN l p n).take i).length ≤ i := by rw [List.length_take]; omega
        rw [List.length_map]
        omega
      by_cases he : dirAt l (it l i p) = dirAt l (prevAt (ptsN l p n) i)
      · refine ifF (by rw [he, decide_eq_true rfl]; decide) ?_
        refine ⟨s23, ?_⟩
        rw [hD3, htt, if_pos he, List.append_nil]
      · refine ifT (by rw [decide_eq_false (fun z => he (Rp.stepI_inj (itW i).lt hprev.lt (V.int.inj z).symm))]; decide) ?_
        refine ⟨_, rfl, _, hD3, hlen, fun b o e => ?_, ?_⟩
        · rw [upd_ne (ne_of_none e nD)]; exact s23 _ _ e
        · rw [upd_same, htt, if_neg he, List.map_append]
          rfl
    · rintro H2 ⟨s2, hD⟩
      refine k _ D s2 ?_ nD
      rw [hD, cy.feet, Rp.corners_footN l p cy.pos, List.length_map, Rp.ptsN_len, List.take_of_length_le (by unfold footN; simp)]
def spRows : Sp := fun vs H Q _ => ∃ (d : Addr) (l : Cells), vs = [.ref d] ∧ HouseAt H d l ∧ HC l ∧ ∀ H' rw rs, Same H H' → H' rw = some (.lst (rs.map V.ref)) → LinesAt H' rs (walksOf l) → (∀ a ∈ rs, H a = none) → H rw = none → Q (.ref rw) H'
theorem scRows : FnScope ["house", "steps", "walked", "rows", "first", "points", "point"] ["house"] (defScope sRows) := ⟨rfl, rfl, rfl, by decide +kernel, rfl, by decide +kernel, by decide +kernel⟩
theorem ok_rows {f fS fP fC : Addr} {fd fdS fdP fdC : FuncData} (F : Fun K "walk_rows" "walk_rows" sRows f fd) (G : Glo mg) (cS : Cal P w K mg base 1 "wall_steps" ["house"] spSteps fS fdS) (cP : Cal P w K mg base 1 "points_of_walk" ["steps", "first"] spPoints fP fdP)
    (cC : Cal P w K mg base 1 "corners_of_walk" ["steps", "points"] spCorners fC fdC) : FnOk P w K mg base CX0 2 f fd ["house"] spRows := by
  refine F.ok scRows (fun vs H Q E h => ?_) (fun cdv A outer s H vs Q E hr h => ?_)
  · obtain ⟨d, l, rfl, _⟩ := h
    rfl
  · obtain ⟨d, l, rfl, hd, hc, k⟩ := h
    have hu := hu_of hr
    refine ⟨_, pss_cons (ps_set (i := 1) scRows.nd rfl (Or.inl rfl) (pe_call cS.ok hr rfl cS.at_ cS.kp cS.b .nil pass0 (pa_cons (pv 0) pa_nil)))
      (pss_cons (ps_set (i := 2) scRows.nd rfl (Or.inl rfl) pe_dnewK)
      (pss_cons (ps_set (i := 3) scRows.nd rfl (Or.inl rfl) (pe_lst pa_nil))
      (pss_cons (ps_for PassesOwn.never rfl (pi_list (pe_callB (cr_sortedD rfl) (by rfl) G.srt PyProof.Rows.boot_sorted (pa_cons (pv 1) pa_nil))) (pg_name (i := 4) scRows.nd rfl (Or.inl rfl))
        (pss_one (ps_if (pt_cmp (pc_dnotin hu (pv 4) (pv 2)))
          (pss_cons (ps_set (i := 5) scRows.nd rfl (Or.inl rfl) (pe_call cP.ok hr rfl cP.at_ cP.kp cP.b .nil pass0 (pa_cons (pv 1) (pa_cons (pv 4) pa_nil))))
          (pss_cons (ps_for PassesOwn.never rfl (pi_list (pv 5)) (pg_name (i := 6) scRows.nd rfl (Or.inl rfl)) (pss_one (ps_dput hu (pv 2) (pv 6) pe_bl rfl)))
          (pss_one (ps_expr (pe_bm PySem.F.plainAttrs_list PySem.F.slot_list_append PySem.F.type_list_append mt_append (pv 3) (pa_cons (pe_call cC.ok hr rfl cC.at_ cC.kp cC.b .nil pass0 (pa_cons (pv 1) (pa_cons (pv 5) pa_nil))) pa_nil))))))
          pss_nil)))
      (pss_one (ps_ret (pv 3)))))), ?_⟩
    refine ⟨_, rfl, d, l, rfl, hd, hc, fun H1 st s1 hst nst => ?_⟩
    intro wk nwk
    have s2 : Same H1 (upd H1 wk (.dK [])) := fun b o e => by rw [upd_ne (ne_of_none e nwk)]; exact e
    refine ⟨Nat.zero_le _, fun rw_ nrw => ?_⟩
    have nrwk : rw_ ≠ wk := by rintro rfl; rw [upd_same] at nrw; cases nrw
    have s3 : Same (upd H1 wk (.dK [])) (upd (upd H1 wk (.dK [])) rw_ (.lst [])) := fun b o e => by rw [upd_ne (ne_of_none e nrw)]; exact e
    have s13 := (s1.trans s2).trans s3
    have nwk0 : H wk = none := s1.free nwk
    have nrw0 : H rw_ = none := (s1.trans s2).free nrw
    have hst3 : StepsAt (upd (upd H1 wk (.dK [])) rw_ (.lst [])) st l := hst.keep (s2.trans s3)
    obtain ⟨kvs, hk1, hk2, sk, hk3, hk4, hk5⟩ := hst3.ex
    have nstwk : st ≠ wk := by
      rintro rfl
      obtain ⟨kvs', h1, _⟩ := hst.ex
      rw [h1] at nwk; cases nwk
    have nstrw : st ≠ rw_ := ne_of hk1 upd_same (by intro z; cases z)
    -- for first in sorted(steps)
    refine ⟨_, rfl, st, sk, rfl, ⟨kvs, .inl hk1, hk3⟩, fun us sl hperm hpw nsl => ?_⟩
    have eus : us = (Rp.wallPts l).map num := by
      refine Rp.riseI_unique _ _ (Rp.riseI_of hpw (hperm.nodup_iff.mpr hk4)) (Rp.num_rise (Rp.wallPts_rise l) fun p hp => hc.bd (Rp.wallPts_mem.mp hp)) fun m => ?_
      rw [hperm.mem_iff, hk5, List.mem_map]
      constructor
      · rintro ⟨p, hp, rfl⟩; exact ⟨p, Rp.wallPts_mem.mpr hp, rfl⟩
      · rintro ⟨p, hp, rfl⟩; exact ⟨p, Rp.wallPts_mem.mp hp, rfl⟩
    subst eus
    have hsl0 : ∀ b o, (upd (upd H1 wk (.dK [])) rw_ (.lst [])) b = some o → (upd (upd (upd H1 wk (.dK [])) rw_ (.lst [])) sl (.lst (((Rp.wallPts l).map num).map V.int))) b = some o := fun b o e => by rw [upd_ne (ne_of_none e nsl)]; exact e
    have nslwk : sl ≠ wk := by rintro rfl; rw [upd_ne (Ne.symm nrwk), upd_same] at nsl; cases nsl
    have nslrw : sl ≠ rw_ := by rintro rfl; rw [upd_same] at nsl; cases nsl
    refine ⟨sl, rfl, ⟨_, SqL.of upd_same⟩, ?_⟩
    let hasW := fun (wks : List Int) (seen : List Point) => ∀ m : Int, m ∈ wks ↔ ∃ q ∈ seen, m = num q
    refine for_list (K := K) (a := sl) (xs := ((Rp.wallPts l).map num).map V.int) (fun i σ H2 => ∃ v4 v5 v6, ∃ (seen : List Point) (wks : List Int) (rs : List Addr) (wd : List Walk), σ = [some (.ref d), some (.ref st), some (.ref wk), some (.ref rw_), v4, v5, v6] ∧
        Same H H2 ∧ StepsAt H2 st l ∧ H2 sl = some (.lst (((Rp.wallPts l).map num).map V.int)) ∧ H2 wk = some (.dK (tru wks)) ∧ H2 rw_ = some (.lst (rs.map V.ref)) ∧ LinesAt H2 rs wd ∧ rw_ ∉ rs ∧ sl ∉ rs ∧ (∀ a ∈ rs, H a = none) ∧ rs.length ≤ i ∧
        wks.Nodup ∧ hasW wks seen ∧ (∀ q ∈ seen, isW l q) ∧ Rp.Rise (Rp.wallPts l) ∧ walksOf l = wd ++ walksFrom l seen ((Rp.wallPts l).drop i))
      ⟨none, none, none, [], [], [], [], rfl, fun b o e => hsl0 _ _ (s13 _ _ e), hst3.keep hsl0, upd_same, by rw [upd_ne (Ne.symm nslwk), upd_ne (Ne.symm nrwk)]; exact upd_same, by rw [upd_ne (Ne.symm nslrw)]; exact upd_same, .nil, by simp, by simp, by simp, Nat.le_refl _, List.nodup_nil,
        fun m => by simp, by simp, Rp.wallPts_rise l, by rw [Rp.walksOf_eq]; rfl⟩ (fun i σ H2 _ ⟨_, _, _, _, _, _, _, _, _, _, h, _⟩ => SqL.of h) ?_ ?_
    · rintro i y σ H2 hi ⟨v4, v5, v6, seen, wks, rs, wd, rfl, s4, hst4, hsl4, hwk4, hrw4, hln4, nrs, nsrs, hfr, hrl, hnd, hhas, hsw, hrise, hwalks⟩
      obtain ⟨p, hpi, rfl⟩ : ∃ p, (Rp.wallPts l)[i]? = some p ∧ y = V.int (num p) := by
        rw [List.map_map, List.getElem?_map] at hi
        cases e : (Rp.wallPts l)[i]? with
        | none => rw [e] at hi; cases hi
        | some p => rw [e] at hi; exact ⟨p, rfl, (Option.some.inj hi).symm⟩
      have hpm : p ∈ Rp.wallPts l := List.mem_of_getElem? hpi
      have hpW := Rp.wallPts_mem.mp hpm
      have hil : i < (Rp.wallPts l).length := (List.getElem?_eq_some_iff.mp hpi).1
      have hdrop : (Rp.wallPts l).drop i = p :: (Rp.wallPts l).drop (i + 1) := by
        rw [List.drop_eq_getElem_cons hil]
        congr 1
        exact (List.getElem?_eq_some_iff.mp hpi).2
      have hwlen : (Rp.wallPts l).length ≤ 17000 := by
        have h5 := small_keys (ks := (Rp.wallPts l).map num) (nodup_rise (Rp.num_rise (Rp.wallPts_rise l) fun p hp => hc.bd (Rp.wallPts_mem.mp hp))) fun m hm => by
          obtain ⟨q, hq, rfl⟩ := List.mem_map.mp hm
          have hb' := Rp.isW_bd hc.wi (Rp.wallPts_mem.mp hq)
          have := hb'.1; have := hb'.2
          unfold num; omega
        simpa using h5
      rw [hdrop, Rp.walksFrom_step hpW] at hwalks
      refine ⟨_, rfl, _, rfl, wk, _, rfl, DGet.k (k := Sum.inl (num p)) hwk4, _, rfl, ?_⟩
      rw [tru_some]
      have hseen : num p ∈ wks ↔ p ∈ seen := by
        rw [hhas]
        constructor
        · rintro ⟨q, hq, e⟩
          have := Rp.num_inj (hc.bd hpW) (hc.bd (hsw q hq)) e
          rw [this]; exact hq
        · intro h; exact ⟨p, h, rfl⟩
      by_cases hin : p ∈ seen
      · refine ifF (by rw [decide_eq_true (hseen.mpr hin)]; decide) ?_
        rw [if_pos (by rw [List.contains_iff_mem]; exact hin)] at hwalks
        exact ⟨_, _, _, seen, wks, rs, wd, rfl, s4, hst4, hsl4, hwk4, hrw4, hln4, nrs, nsrs, hfr, by omega, hnd, hhas, hsw, hrise, hwalks⟩
      · refine ifT (by rw [decide_eq_false (fun z => hin (hseen.mp z))]; decide) ?_
        rw [if_neg (by rw [List.contains_iff_mem]; exact hin)] at hwalks
        obtain ⟨n, cy⟩ := cyc_of hc hpW
        refine ⟨_, rfl, _, rfl, st, l, p, n, rfl, hst4, hc, hpW, cy, fun H5 pa s5 hpa npa => ?_⟩
        have itW := fun j => Rp.it_W hc.np hpW j
        have npawk : pa ≠ wk := fun z => by rw [z, hwk4] at npa; cases npa
        have npasl : pa ≠ sl := fun z => by rw [z, hsl4] at npa; cases npa
        have npast : pa ≠ st := fun z => by
          obtain ⟨kv', h1, _⟩ := hst4.ex
          rw [z, h1] at npa; cases npa
        -- for point in points
        refine ⟨_, rfl, pa, rfl, ⟨_, SqL.of hpa⟩, ?_⟩
        refine for_list (K := K) (a := pa) (xs := (ptsN l p n).map nI) (fun j σ H6 => ∃ v6, ∃ wks' : List Int, σ = [some (.ref d), some (.ref st), some (.ref wk), some (.ref rw_), some (.int (num p)), some (.ref pa), v6] ∧ (∀ b o, H5 b = some o → b ≠ wk → H6 b = some o) ∧ H6 wk = some (.dK (tru wks')) ∧ wks'.Nodup ∧ hasW wks' (seen ++ (ptsN l p n).take j))
          ⟨v6, wks, rfl, fun b o e _ => e, s5 _ _ hwk4, hnd, by simpa using hhas⟩ (fun j σ H6 _ ⟨_, _, _, h, _⟩ => SqL.of (h _ _ hpa npawk)) ?_ ?_
        · rintro j z σ H6 hj ⟨v6, wks', rfl, s6, hwk6, hnd6, hhas6⟩
          have hjl : j < n := by
            have := (List.getElem?_eq_some_iff.mp hj).1
            rw [List.length_map, Rp.ptsN_len] at this
            exact this
          rw [nI_at (by rw [Rp.ptsN_len]; exact hjl), Rp.ptsN_nth l p hjl] at hj
          cases hj
          have allW : ∀ q ∈ seen ++ (ptsN l p n).take j, isW l q := fun q hq => by
            rcases List.mem_append.mp hq with hq | hq
            · exact hsw q hq
            · obtain ⟨jj, _, rfl⟩ := List.mem_map.mp (List.mem_of_mem_take hq)
              exact itW jj
          have hsm : wks'.length ≤ 17000 := small_keys hnd6 fun m hm => by
            obtain ⟨q, hq, rfl⟩ := (hhas6 m).mp hm
            have hb' := Rp.isW_bd hc.wi (allW q hq)
            have := hb'.1; have := hb'.2
            unfold num; omega
          have etake : (ptsN l p n).take (j + 1) = (ptsN l p n).take j ++ [it l j p] := by
            have : (ptsN l p n)[j]? = some (it l j p) := by unfold ptsN; rw [List.getElem?_map, List.getElem?_range hjl]; rfl
            rw [List.take_add_one, this]; rfl
          refine ⟨_, rfl, _, rfl, wk, _, rfl, DPut.k (k := Sum.inl (num (it l j p))) hwk6 (lt_line (by rw [tru_len]; omega)), ?_⟩
          have s7 : ∀ kv, ∀ b o, H5 b = some o → b ≠ wk → (upd H6 wk (.dK kv)) b = some o := fun kv b o e hb => by rw [upd_ne hb]; exact s6 b o e hb
          by_cases hmem : num (it l j p) ∈ wks'
          · refine ⟨_, wks', rfl, s7 _, by rw [upd_same, tru_same hmem], hnd6, fun m => ?_⟩
            rw [hhas6, etake, ← List.append_assoc]
            constructor
            · rintro ⟨q, hq, e⟩; exact ⟨q, List.mem_append.mpr (.inl hq), e⟩
            · rintro ⟨q, hq, e⟩
              rcases List.mem_append.mp hq with hq | hq
              · exact ⟨q, hq, e⟩
              · have : q = it l j p := by simpa using hq
                subst this
                rw [e]
                exact (hhas6 _).mp hmem
          · refine ⟨_, wks' ++ [num (it l j p)], rfl, s7 _, by rw [upd_same, tru_put hmem], nd_snoc hnd6 hmem, fun m => ?_⟩
            rw [List.mem_append, hhas6, etake, ← List.append_assoc]
            constructor
            · rintro (⟨q, hq, e⟩ | e)
              · exact ⟨q, List.mem_append.mpr (.inl hq), e⟩
              · exact ⟨it l j p, by simp, by simpa using e⟩
            · rintro ⟨q, hq, e⟩
              rcases List.mem_append.mp hq with hq | hq
              · exact .inl ⟨q, hq, e⟩
              · have : q = it l j p := by simpa using hq
                subst this
                exact .inr (by simp [e])
        · rintro σ H6 ⟨v6, wks', rfl, s6, hwk6, hnd6, hhas6⟩
          rw [List.length_map, List.take_of_length_le (Nat.le_refl _)] at hhas6
          -- rows.append(corners_of_walk(steps, points))
          have k6 : ∀ b o, H2 b = some o → b ≠ wk → H6 b = some o := fun b o e hb => s6 b o (s5 b o e) hb
          have hrw6 := k6 _ _ hrw4 nrwk
          have hst6 : StepsAt H6 st l := by
            obtain ⟨kv', h1, h2⟩ := hst4.ex
            exact ⟨kv', k6 _ _ h1 nstwk, h2⟩
          refine ⟨_, rfl, .inl ⟨rfl, _, SqL.of hrw6⟩, ?_⟩
          refine ⟨_, rfl, _, rfl, st, pa, l, p, n, rfl, hst6, s6 _ _ hpa npawk, hc, hpW, cy, fun H7 ca s7 hca nca => ?_⟩
          have hrw7 := s7 _ _ hrw6
          refine ⟨rw_, _, _, rfl, rfl, hrw7, lt_line (by rw [List.length_map]; omega), ?_⟩
          have k7 : ∀ b o, H2 b = some o → b ≠ wk → b ≠ rw_ → ∀ u, (upd H7 rw_ u) b = some o := fun b o e hb hb2 u => by rw [upd_ne hb2]; exact s7 _ _ (k6 b o e hb)
          have ncarw : ca ≠ rw_ := fun z => by rw [z, hrw6] at nca; cases nca
          have ncasl : ca ≠ sl := fun z => by rw [z, k6 _ _ hsl4 nslwk] at nca; cases nca
          refine ⟨_, _, _, seen ++ (feetFrom l p).map (fun x => x.1), wks', rs ++ [ca], wd ++ [cornersOf (feetFrom l p)], rfl, fun b o e => ?_, ?_, ?_, ?_, ?_, ?_, ?_, ?_, ?_, ?_, hnd6, ?_, ?_, hrise, ?_⟩
          · exact k7 b o (s4 b o e) (ne_of_none e nwk0) (ne_of_none e nrw0) _
          · obtain ⟨kv', h1, h2⟩ := hst4.ex
            exact ⟨kv', k7 _ _ h1 nstwk nstrw _, h2⟩
          · exact k7 _ _ hsl4 nslwk nslrw _
          · rw [upd_ne (Ne.symm nrwk)]; exact s7 _ _ hwk6
          · rw [upd_same]; simp
          · refine Paired.snoc (lines_keep hln4 fun b hb o e => ?_) ?_
            · refine k7 b o e ?_ ?_ _
              · intro z
                obtain ⟨xs, hx⟩ := lines_lst hln4 b hb
                rw [z, hwk4] at hx; cases hx
              · exact fun z => nrs (z ▸ hb)
            · rw [upd_ne ncarw]; exact hca
          · intro hm
            rcases List.mem_append.mp hm with hm | hm
            · exact nrs hm
            · exact ncarw (show rw_ = ca by simpa using hm).symm
          · intro hm
            rcases List.mem_append.mp hm with hm | hm
            · exact nsrs hm
            · exact ncasl (show sl = ca by simpa using hm).symm
          · intro a ha
            rcases List.mem_append.mp ha with ha | ha
            · exact hfr a ha
            · have ea : a = ca := by simpa using ha
              rw [ea]
              cases q : H ca with
              | none => rfl
              | some o => rw [k6 _ _ (s4 _ _ q) (ne_of_none q nwk0)] at nca; cases nca
          · rw [List.length_append]; simp; omega
          · rw [cy.feet, Rp.footN_fst]; exact hhas6
          · intro q hq
            rcases List.mem_append.mp hq with hq | hq
            · exact hsw q hq
            · rw [cy.feet, Rp.footN_fst] at hq
              obtain ⟨jj, _, rfl⟩ := List.mem_map.mp hq
              exact itW jj
          · rw [hwalks, List.append_assoc]
            rfl
    · rintro σ H2 ⟨v4, v5, v6, seen, wks, rs, wd, rfl, s4, hst4, hsl4, hwk4, hrw4, hln4, nrs, nsrs, hfr, hrl, hnd, hhas, hsw, hrise, hwalks⟩
      refine ⟨_, rfl, k _ rw_ rs s4 hrw4 ?_ hfr nrw0⟩
      have e : walksFrom l seen ((Rp.wallPts l).drop (((Rp.wallPts l).map num).map V.int).length) = [] := by
        rw [List.drop_eq_nil_of_le (by simp)]; rfl
      rw [e, List.append_nil] at hwalks
      rw [hwalks]
      exact hln4
end
end Pf
namespace Pf
open PySem L2 Roof
open Rp (num ROk WB PB rightW NoPinch KeysOf houseW)
def dP (q : Point) : PyData := .int (num q)
def dW (w : Walk) : PyData := .list (w.map dP)
def dWs (ws : List Walk) : PyData := .list (ws.map dW)
theorem eqv_pts : ∀ (a b : Walk), WB a → WB b → PyData.eqvAll (a.map dP) (b.map dP) = decide (a = b)
  | [], [], _, _ => by simp [PyData.eqvAll]
  | [], q :: b, _, _ => by simp [PyData.eqvAll]
  | p :: a, [], _, _ => by simp [PyData.eqvAll]
  | p :: a, q :: b, ha, hb => by
    rw [List.map_cons, List.map_cons, PyData.eqvAll, eqv_pts a b (fun x hx => ha x (List.mem_cons_of_mem _ hx)) (fun x hx => hb x (List.mem_cons_of_mem _ hx))]
    have h1 := wb_lt ha (show p ∈ p :: a by simp)
    have h2 := wb_lt hb (show q ∈ q :: b by simp)
    by_cases e : p = q
    · subst e; simp [dP, PyData.eqv]
    · have : num p ≠ num q := fun z => e (Rp.num_inj h1 h2 z)
      simp [dP, PyData.eqv, e, this]
theorem eqv_walks : ∀ (a b : List Walk), (∀ w ∈ a, WB w) → (∀ w ∈ b, WB w) → PyData.eqvAll (a.map dW) (b.map dW) = decide (a = b)
  | [], [], _, _ => by simp [PyData.eqvAll]
  | [], q :: b, _, _ => by simp [PyData.eqvAll]
  | p :: a, [], _, _ => by simp [PyData.eqvAll]
  | p :: a, q :: b, ha, hb => by
    rw [List.map_cons, List.map_cons, PyData.eqvAll, eqv_walks a b (fun x hx => ha x (List.mem_cons_of_mem _ hx)) (fun x hx => hb x (List.mem_cons_of_mem _ hx))]
    have : PyData.eqv (dW p) (dW q) = decide (p = q) := by
      rw [dW, dW, PyData.eqv]; exact eqv_pts p q (ha p (by simp)) (hb q (by simp))
    rw [this]
    by_cases e : p = q <;> by_cases e2 : a = b <;> simp [e, e2]
theorem lay_pts : ∀ a : Walk, PyData.canLayAll0 (a.map dP) = true
  | [] => by simp [PyData.canLayAll0]
  | p :: a => by rw [List.map_cons, PyData.canLayAll0, lay_pts a]; simp [dP, PyData.canLay0]
theorem lay_walks : ∀ a : List Walk, PyData.canLayAll0 (a.map dW) = true
  | [] => by simp [PyData.canLayAll0]
  | p :: a => by rw [List.map_cons, PyData.canLayAll0, lay_walks a]; simp [dW, PyData.canLay0, lay_pts]
theorem dep_pts : ∀ a : Walk, PyData.depthAll (a.map dP) ≤ 1
  | [] => by simp [PyData.depthAll]
  | p :: a => by have := dep_pts a; rw [List.map_cons, PyData.depthAll]; simp only [dP, PyData.depth]; omega
theorem dep_walks : ∀ a : List Walk, PyData.depthAll (a.map dW) ≤ 3
  | [] => by simp [PyData.depthAll]
  | p :: a => by have := dep_walks a; have := dep_pts p; rw [List.map_cons, PyData.depthAll]; simp only [dW, PyData.depth]; omega
theorem shaped_walks (a : List Walk) : SeqAt.shaped (dWs a) = true := by
  unfold SeqAt.shaped dWs
  rw [Bool.and_eq_true]
  refine ⟨by rw [PyData.canLay0]; exact lay_walks a, decide_eq_true ?_⟩
  have := dep_walks a
  simp only [PyData.depth]
  omega
theorem dp_pts {K : PySem.W.Frag} {H : Hp} : ∀ a : Walk, DpAll K H (a.map nI) (a.map dP)
  | [] => .nil
  | p :: a => .cons (.int _) (dp_pts a)
theorem dp_walks {K : PySem.W.Frag} {H : Hp} : ∀ {ls : List Addr} {ws : List Walk}, LinesAt H ls ws → DpAll K H (ls.map V.ref) (ws.map dW)
  | _, _, .nil => .nil
  | _, _, .cons r t => .cons (.lst (SqL.of r) (dp_pts _)) (dp_walks t)
def OptHouse (H : Hp) (d : Addr) : Option Cells → Prop
  | some l => HouseAt H d l ∧ isHouse l = true
  | none => H d = some (.dK [])
theorem HC.of_house {l : Cells} (h : isHouse l = true) : HC l := by
  obtain ⟨_, h2, _, h4⟩ := Rp.house_low h
  exact ⟨Rp.isHouse_np h, h2, h4⟩
theorem house_ne {l : Cells} (h : isHouse l = true) : l ≠ [] := (Rp.house_low h).1.ne
section
variable {P : Program} {w : World} {K : PySem.W.Frag} {mg : Str → Option Value} {base : Heap} {C : Addr}
def spHouseL : Sp := fun vs H Q _ => ∃ (L : Addr) (ls : List Addr) (ws : List Walk), vs = [.ref L] ∧ LinesIn H L ls ws ∧ ∀ H' d, Same H H' → H d = none → OptHouse H' d (houseW ws) → Q (.ref d) H'
theorem scHouseL : FnScope ["lines", "house"] ["lines"] (defScope sHouseL) := ⟨rfl, rfl, rfl, by decide +kernel, rfl, by decide +kernel, by decide +kernel⟩
theorem ok_houseL {f fA fW fI fR : Addr} {fd fdA fdW fdI fdR : FuncData} (F : Fun K "house_of_lines" "house_of_lines" sHouseL f fd) (cA : Cal P w K mg base 2 "at_right_angles" ["lines"] spRight fA fdA) (cW : Cal P w K mg base 3 "cells_within" ["lines"] spWithin fW fdW)
    (cI : Cal P w K mg base 3 "is_house" ["house"] spIsHouse fI fdI) (cR : Cal P w K mg base 2 "walk_rows" ["house"] spRows fR fdR) : FnOk P w K mg base CX0 4 f fd ["lines"] spHouseL := by
  refine F.ok scHouseL (fun vs H Q E h => ?_) (fun cdv A outer s H vs Q E hr h => ?_)
  · obtain ⟨L, ls, ws, rfl, _⟩ := h
    rfl
  · obtain ⟨L, ls, ws, rfl, hL, k⟩ := h
    have hr2 : Room 2 _ := hr.mono (by decide)
    have hu := hu_of hr
    have hu64 := hr.units
    refine ⟨_, pss_cons (ps_if (pt_val (pe_call cA.ok hr2 rfl cA.at_ cA.kp cA.b .nil pass0 (pa_cons (pv 0) pa_nil)))
        (pss_cons (ps_set (i := 1) scHouseL.nd rfl (Or.inl rfl) (pe_call cW.ok hr rfl cW.at_ cW.kp cW.b .nil pass0 (pa_cons (pv 0) pa_nil)))
          (pss_one (ps_if (PW.pt (pw_and (pt_val (pe_call cI.ok hr rfl cI.at_ cI.kp cI.b .nil pass0 (pa_cons (pv 1) pa_nil))) (pw_and1 (pt_cmpR (op_eqD hu64) (pe_call cR.ok hr2 rfl cR.at_ cR.kp cR.b .nil pass0 (pa_cons (pv 1) pa_nil)) (pv 0) (nomark _))))) (pss_one (ps_ret (pv 1))) pss_nil))) pss_nil)
      (pss_one (ps_ret pe_dnewK)), ?_⟩
    have none_ : ∀ (σ : St) (H1 : Hp), Same H H1 → houseW ws = none → (tRet tDNewK) { nx := fun _ H' => Q .non H', rt := Q } σ H1 := fun σ H1 s1 e d hd => by
      refine k _ d (fun b o eb => by rw [upd_ne (ne_of_none (s1 _ _ eb) hd)]; exact s1 _ _ eb) (s1.free hd) ?_
      rw [e]; exact upd_same
    refine ⟨_, rfl, L, ls, ws, rfl, hL, fun H1 s1 => ⟨fun hA => ?_, fun hA => ?_⟩⟩
    · refine ⟨_, rfl, iteT ?_⟩
      refine ⟨_, rfl, L, ls, ws, rfl, hL.keep s1, hA, fun H2 d s2 hd nd => ?_⟩
      have hat : HouseAt H2 d (cellsIn ws) := ⟨⟨_, hd, KeysOf.self Rp.cellsIn_within (Rp.cellsIn_rise ws)⟩, Rp.cellsIn_within, Rp.cellsIn_rise ws⟩
      refine ⟨_, rfl, d, _, rfl, hat, fun H3 s3 => ?_⟩
      have s13 := (s1.trans s2).trans s3
      by_cases hh : isHouse (cellsIn ws) = true
      · refine ⟨_, rfl, ?_⟩
        rw [hh]
        refine iteT ?_
        refine ⟨_, rfl, d, _, rfl, hat.keep s3, HC.of_house hh, fun H4 rw_ rs s4 hrw hrs _ _ => ?_⟩
        have hl4 := hL.keep (s13.trans s4)
        refine ⟨_, rfl, dWs (walksOf (cellsIn ws)), dWs ws, .lst (SqL.of hrw) (dp_walks hrs), .lst (SqL.of hl4.ln) (dp_walks hl4.all), shaped_walks _, shaped_walks _, _, rfl, ?_⟩
        have hbd : ∀ w ∈ walksOf (cellsIn ws), WB w := fun w hw => Rp.walk_bd (Rp.isHouse_np hh) Rp.cellsIn_within hw
        have he : PyData.eqv (dWs (walksOf (cellsIn ws))) (dWs ws) = decide (walksOf (cellsIn ws) = ws) := by
          unfold dWs; rw [PyData.eqv]; exact eqv_walks _ _ hbd hL.bd
        rw [he]
        by_cases hw : walksOf (cellsIn ws) = ws
        · rw [decide_eq_true hw]
          refine iteT ?_
          refine ⟨_, rfl, k _ d (s13.trans s4) (s1.free nd) ?_⟩
          have : houseW ws = some (cellsIn ws) := by unfold houseW; rw [if_pos ⟨hA, hh, hw⟩]
          rw [this]
          exact ⟨(hat.keep s3).keep s4, hh⟩
        · rw [decide_eq_false hw]
          refine iteF ?_
          exact none_ [] _ (s13.trans s4) (by unfold houseW; rw [if_neg (fun z => hw z.2.2)])
      · have hf : isHouse (cellsIn ws) = false := by simpa using hh
        refine ⟨_, rfl, ?_⟩
        rw [hf]
        refine iteF ?_
        refine iteF ?_
        exact none_ [] _ s13 (by unfold houseW; rw [if_neg (fun z => hh z.2.1)])
    · refine ⟨_, rfl, iteF ?_⟩
      exact none_ [] _ s1 (by unfold houseW; rw [if_neg (fun z => hA z.1)])
end
end Pf
namespace Pf
open PySem L2 Roof
open Rp (num ROk WB PB rightW NoPinch KeysOf houseW)
section
variable {P : Program} {w : World} {K : PySem.W.Frag} {mg : Str → Option Value} {base : Heap} {C : Addr}
def TextAt (K : PySem.W.Frag) (H : Hp) (a : Addr) (ns : List Int) : Prop := SqL K H a (ns.map V.int) ∧ ns.length ≤ 4096 ∧ ∀ x ∈ ns, 0 ≤ x ∧ x ≤ 255
def spHouseT (K : PySem.W.Frag) : Sp := fun vs H Q _ => ∃ (a : Addr) (ns : List Int), vs = [.ref a] ∧ TextAt K H a ns ∧ ∀ H' d, Same H H' → H d = none → OptHouse H' d (houseOf (bytesOf ns)) → Q (.ref d) H'
theorem scHouseT : FnScope ["t", "reader"] ["t"] (defScope sHouseT) := ⟨rfl, rfl, rfl, by decide +kernel, rfl, by decide +kernel, by decide +kernel⟩
theorem ok_houseT {f fR fL : Addr} {fd fdR fdL : FuncData} (F : Fun K "house_of_text" "house_of_text" sHouseT f fd) (T : Rdr K mg C) (cR : Cal P w K mg base 5 "read_text" ["t"] (spRead K C) fR fdR) (cL : Cal P w K mg base 4 "house_of_lines" ["lines"] spHouseL fL fdL) :
    FnOk P w K mg base CX0 6 f fd ["t"] (spHouseT K) := by
  refine F.ok scHouseT (fun vs H Q E h => ?_) (fun cdv A outer s H vs Q E hr h => ?_)
  · obtain ⟨a, ns, rfl, _⟩ := h
    rfl
  · obtain ⟨a, ns, rfl, hT, k⟩ := h
    have hr4 : Room 4 _ := hr.mono (by decide)
    refine ⟨_, pss_cons (ps_set (i := 1) scHouseT.nd rfl (Or.inl rfl) (pe_call cR.ok hr rfl cR.at_ cR.kp cR.b .nil pass0 (pa_cons (pv 0) pa_nil)))
      (pss_cons (ps_if (pt_cmp (pc_notN (pe_fld (pv 1) rfl))) (pss_one (ps_ret pe_dnewK)) pss_nil)
      (pss_one (ps_ret (pe_call cL.ok hr4 rfl cL.at_ cL.kp cL.b .nil pass0 (pa_cons (pe_fld (pv 1) rfl) pa_nil))))), ?_⟩
    refine ⟨_, rfl, a, ns, rfl, hT.1, hT.2.1, hT.2.2, fun H1 p dx L c ls x n s1 => ⟨fun e he hp => ?_, fun ws hw hp hL hls => ?_⟩⟩
    · refine ⟨_, rfl, p, C, dx, _, _, rfl, hp, T.cl, T.nw, look_w _ _ _ _ _, _, rfl, ?_⟩
      refine ifT (by rw [nInt]; decide) ?_
      intro d hd
      refine k _ d (fun b o eb => by rw [upd_ne (ne_of_none (s1 _ _ eb) hd)]; exact s1 _ _ eb) (s1.free hd) ?_
      rw [Rp.houseOf_err he]
      exact upd_same
    · refine ⟨_, rfl, p, C, dx, _, _, rfl, hp, T.cl, T.nw, look_w _ _ _ _ _, _, rfl, ?_⟩
      refine ifF (by decide) ?_
      refine ⟨_, rfl, p, C, dx, _, _, rfl, hp, T.cl, T.nl, look_l _ _ _ _ _, L, ls, ws, rfl, ⟨hL, hls, fun w hw' => ((Rp.readWalks_ok hw).2.1 w hw').1⟩, fun H2 d s2 nd hd => ?_⟩
      refine k _ d (s1.trans s2) (s1.free nd) ?_
      rw [Rp.houseOf_ok hw]
      exact hd
end
end Pf
namespace Pf
open PySem L2 Roof
open Rp (num ROk WB PB rightW NoPinch KeysOf houseW)
theorem HouseAt.len {H : Hp} {d : Addr} {l : Cells} (h : HouseAt H d l) : ∃ kvs, H d = some (.dK kvs) ∧ kvs.length = l.length := by
  obtain ⟨ks, h1, h2⟩ := h.dic
  exact ⟨_, h1, by rw [tru_len]; exact h2.len h.wi h.ri⟩
theorem OptHouse.truth {K : PySem.W.Frag} {H : Hp} {d : Addr} {o : Option Cells} (h : OptHouse H d o) : TruV K (.ref d) H o.isSome := by
  cases o with
  | none => exact .inr (.inr ⟨[], h, rfl⟩)
  | some l =>
    obtain ⟨kvs, h1, h2⟩ := h.1.len
    refine .inr (.inr ⟨kvs, h1, ?_⟩)
    cases kvs with
    | nil => exact absurd (List.eq_nil_of_length_eq_zero h2.symm) (house_ne h.2)
    | cons _ _ => rfl
theorem ret_neg {Q : VK} {ms : List Int} (k : ∀ v H', IsAns ms v H' → Q v H') (n : Int) (e : ms = [-n]) (σ : St) (H : Hp) : (tRet (tLst (tCons (tUn (rU fun i => .int (-i)) (tC (.int n))) tNil))) { nx := fun _ H' => Q .non H', rt := Q } σ H := by
  refine ⟨n, rfl, le_line (by show 1 ≤ _; decide), fun q nq => k _ _ ⟨q, rfl, ?_⟩⟩
  rw [e]; exact upd_same
theorem tru_add {ms : List Int} (nd : ms.Nodup) (m : Int) : ∃ ms', putK (tru ms) (Sum.inl m : Key) (.bl true) = tru ms' ∧ ms'.Nodup ∧ (∀ x, x ∈ ms' ↔ x ∈ ms ∨ x = m) ∧ ms'.length ≤ ms.length + 1 := by
  by_cases h : m ∈ ms
  · refine ⟨ms, tru_same h, nd, fun x => ⟨.inl, ?_⟩, by omega⟩
    rintro (z | z)
    · exact z
    · rw [z]; exact h
  · refine ⟨ms ++ [m], tru_put h, nd_snoc nd h, fun x => ?_, by simp⟩
    rw [List.mem_append]; simp
end Pf
namespace Pf
open PySem L2 Roof
open Rp (num nb KeysOf HalfK fourI SqR Bord bordAt hN inZ)
section
variable {P : Program} {w : World} {K : PySem.W.Frag} {mg : Str → Option Value} {base : Heap}
def spFour : Sp := fun vs H Q _ => ∃ m : Int, vs = [.int m] ∧ ∀ t, H t = none → Q (.ref t) (upd H t (.tup ((fourI m).map V.int)))
theorem scFour : FnScope ["spot"] ["spot"] (defScope sFour) := ⟨rfl, rfl, rfl, by decide +kernel, rfl, by decide +kernel, by decide +kernel⟩
theorem ok_four {f : Addr} {fd : FuncData} (F : Fun K "four_from" "four_from" sFour f fd) (G : Glo mg) : FnOk P w K mg base CX0 1 f fd ["spot"] spFour := by
  obtain ⟨t, hrow⟩ := G.row
  refine F.ok scFour (fun vs H Q E h => ?_) (fun cdv A outer s H vs Q E hr h => ?_)
  · obtain ⟨x, rfl, _⟩ := h
    rfl
  · obtain ⟨x, rfl, k⟩ := h
    refine ⟨_, pss_one (ps_ret (pe_tup (pa_cons (pv 0) (pa_cons (pe_op op_add (pv 0) pe_int) (pa_cons (pe_op op_add (pv 0) (pe_glob (v := .int 256) rfl hrow ⟨_, rfl⟩)) (pa_cons (pe_op op_add (pe_op op_add (pv 0) (pe_glob (v := .int 256) rfl hrow ⟨_, rfl⟩)) pe_int) pa_nil)))))), ?_⟩
    exact ⟨_, rfl, _, rfl, _, _, rfl, rfl, _, rfl, _, _, rfl, rfl, _, rfl, _, _, rfl, rfl, _, _, rfl, rfl, le_line (by show 4 ≤ _; decide), fun t ht => k t ht⟩
structure HalvesAt (H : Hp) (h : Addr) (l : Cells) (hs : List Int) : Prop where
  rd : Rd H h (.dK (tru hs))
  hk : HalfK hs l
  wi : ∀ c ∈ l, Roof.within c = true
  le : hs.length ≤ 1024
theorem HalvesAt.keep {H H' : Hp} {h : Addr} {l : Cells} {hs : List Int} (x : HalvesAt H h l hs) (s : Same H H') : HalvesAt H' h l hs := ⟨rd_keep x.rd s, x.hk, x.wi, x.le⟩
def spHalf : Sp := fun vs H Q _ => ∃ (d : Addr) (l : Cells), vs = [.ref d] ∧ HouseAt H d l ∧ l.length ≤ 256 ∧ ∀ H' h hs, Same H H' → H' h = some (.dK (tru hs)) → H h = none → HalvesAt H' h l hs → Q (.ref h) H'
theorem scHalf : FnScope ["house", "halves", "cell", "half"] ["house"] (defScope sHalf) := ⟨rfl, rfl, rfl, by decide +kernel, rfl, by decide +kernel, by decide +kernel⟩
theorem ok_half {f fF : Addr} {fd fdF : FuncData} (F : Fun K "half_cells" "half_cells" sHalf f fd) (cF : Cal P w K mg base 1 "four_from" ["spot"] spFour fF fdF) : FnOk P w K mg base CX0 2 f fd ["house"] spHalf := by
  refine F.ok scHalf (fun vs H Q E h => ?_) (fun cdv A outer s H vs Q E hr h => ?_)
  · obtain ⟨d, l, rfl, _⟩ := h
    rfl
  · obtain ⟨d, l, rfl, hd, hle, k⟩ := h
    have hu := hu_of hr
    obtain ⟨ks, hdic, hks⟩ := hd.dic
    have klen : ks.length ≤ 256 := by rw [hks.len hd.wi hd.ri]; exact hle
    refine ⟨_, pss_cons (ps_set (i := 1) scHalf.nd rfl (Or.inl rfl) pe_dnewK)
      (pss_cons (ps_lock (ps_for PassesOwn.never rfl (pi_keys (pv 0)) (pg_name (i := 2) scHalf.nd rfl (Or.inl rfl))
        (pss_one (ps_for PassesOwn.never rfl (pi_tup (pe_call cF.ok hr rfl cF.at_ cF.kp cF.b .nil pass0 (pa_cons (pe_op op_mul pe_int (pv 2)) pa_nil))) (pg_name (i := 3) scHalf.nd rfl (Or.inl rfl))
          (pss_one (ps_dput hu (pv 1) (pv 3) pe_bl rfl))))))
      (pss_one (ps_ret (pv 1)))), ?_⟩
    intro h nh
    have nhd : h ≠ d := fun z => by rw [z, hdic] at nh; cases nh
    have hd1 : (upd H h (.dK [])) d = some (.dK (tru ks)) := by rw [upd_ne (Ne.symm nhd)]; exact hdic
    refine ⟨d, _, hd1, trivial, fun od => ?_⟩
    refine ⟨_, rfl, d, od, rfl, .inl ⟨tru ks, upd_same, ?_⟩⟩
    let ST := fun (hs : List Int) (H3 : Hp) => H3 h = some (.dK (tru hs)) ∧ H3 d = some (.frz od (.dK (tru ks))) ∧ ∀ b o, H b = some o → b ≠ d → H3 b = some o
    refine for_keys (d := d) (ob := od) (kvs := tru ks) (fun i σ H2 => ∃ v2 v3 hs, σ = [some (.ref d), some (.ref h), v2, v3] ∧ ST hs H2 ∧ hs.Nodup ∧ hs.length ≤ 4 * i ∧ ∀ x, x ∈ hs ↔ x ∈ (ks.take i).flatMap fun m => fourI (2 * m))
      ⟨none, none, [], rfl, ⟨by rw [upd_ne nhd]; exact upd_same, upd_same, fun b o e hb => by rw [upd_ne hb, upd_ne (ne_of_none e nh)]; exact e⟩, List.nodup_nil, by simp, fun x => by simp⟩ (fun i σ H2 _ ⟨_, _, _, _, h, _⟩ => h.2.1) ?_ ?_
    · rintro i kx vx σ H2 hkv ⟨v2, v3, hs, rfl, hS, hnd, hlen, hmem⟩
      obtain ⟨m, hm, rfl⟩ : ∃ m, ks[i]? = some m ∧ kx = Sum.inl m := by
        rw [tru, List.getElem?_map] at hkv
        cases e : ks[i]? with
        | none => rw [e] at hkv; cases hkv
        | some m => rw [e] at hkv; exact ⟨m, rfl, (Prod.mk.inj (Option.some.inj hkv)).1.symm⟩
      have hil : i < ks.length := (List.getElem?_eq_some_iff.mp hm).1
      have etake : ks.take (i + 1) = ks.take i ++ [m] := by rw [List.take_add_one, hm]; rfl
      refine ⟨_, rfl, _, _, rfl, rfl, .inl ⟨by show -(2 ^ 64 : Int) < 2; decide, by show (2 : Int) < 2 ^ 64; decide⟩, _, rfl, fun tt ntt => ?_⟩
      have ntd : tt ≠ d := fun z => by rw [z, hS.2.1] at ntt; cases ntt
      have nth : tt ≠ h := fun z => by rw [z, hS.1] at ntt; cases ntt
      refine ⟨tt, rfl, ⟨_, SqT.of upd_same⟩, ?_⟩
      refine for_tup (K := K) (a := tt) (xs := (fourI (2 * m)).map V.int) (fun j σ H5 => ∃ v3 hs', σ = [some (.ref d), some (.ref h), some (.int m), v3] ∧ ST hs' H5 ∧ H5 tt = some (.tup ((fourI (2 * m)).map V.int)) ∧ hs'.Nodup ∧ hs'.length ≤ 4 * i + j ∧ ∀ x, x ∈ hs' ↔ x ∈ hs ∨ x ∈ (fourI (2 * m)).take j)
        ⟨v3, hs, rfl, ⟨by rw [upd_ne (Ne.symm nth)]; exact hS.1, by rw [upd_ne (Ne.symm ntd)]; exact hS.2.1, fun b o e hb => by rw [upd_ne (ne_of_none (hS.2.2 b o e hb) ntt)]; exact hS.2.2 b o e hb⟩, upd_same, hnd, by omega, fun x => by simp⟩ (fun j σ H5 _ ⟨_, _, _, _, h, _⟩ => SqT.of h) ?_ ?_
      · rintro j y σ H5 hj ⟨v3, hs', rfl, hS5, ht5, hnd5, hlen5, hmem5⟩
        obtain ⟨b, hb, rfl⟩ : ∃ b, (fourI (2 * m))[j]? = some b ∧ y = V.int b := by
          rw [List.getElem?_map] at hj
          cases e : (fourI (2 * m))[j]? with
          | none => rw [e] at hj; cases hj
          | some b => rw [e] at hj; exact ⟨b, rfl, (Option.some.inj hj).symm⟩
        have hj4 : j < 4 := (List.getElem?_eq_some_iff.mp hb).1
        obtain ⟨hs2, e2, n2, m2, l2⟩ := tru_add hnd5 b
        refine ⟨_, rfl, _, rfl, h, _, rfl, DPut.k (k := Sum.inl b) hS5.1 (lt_line (by rw [tru_len]; omega)), ?_⟩
        rw [e2]
        refine ⟨_, hs2, rfl, ⟨upd_same, by rw [upd_ne (Ne.symm nhd)]; exact hS5.2.1, fun c o e hc => by rw [upd_ne (ne_of_none e nh)]; exact hS5.2.2 c o e hc⟩, by rw [upd_ne nth]; exact ht5, n2, by omega, fun x => ?_⟩
        have et : (fourI (2 * m)).take (j + 1) = (fourI (2 * m)).take j ++ [b] := by rw [List.take_add_one, hb]; rfl
        rw [m2, hmem5, et, List.mem_append, List.mem_singleton, or_assoc]
      · rintro σ H5 ⟨v3, hs', rfl, hS5, ht5, hnd5, hlen5, hmem5⟩
        refine ⟨_, _, hs', rfl, hS5, hnd5, ?_, fun x => ?_⟩
        · have : ((fourI (2 * m)).map V.int).length = 4 := rfl
          omega
        · rw [hmem5, hmem, etake, List.flatMap_append, List.mem_append]
          have : (fourI (2 * m)).take ((fourI (2 * m)).map V.int).length = fourI (2 * m) := rfl
          rw [this]
          simp
    · rintro σ H2 ⟨v2, v3, hs, rfl, hS, hnd, hlen, hmem⟩
      rw [tru_len] at hlen hmem
      rw [List.take_length] at hmem
      have s2 : Same H (upd H2 d (.dK (tru ks))) := fun b o e => by
        by_cases hb : b = d
        · subst hb
          rw [hdic] at e
          cases e
          exact upd_same
        · rw [upd_ne hb]; exact hS.2.2 b o e hb
      refine ⟨hS.2.1, _, rfl, ?_⟩
      have hh : (upd H2 d (.dK (tru ks))) h = some (.dK (tru hs)) := by rw [upd_ne nhd]; exact hS.1
      exact k _ h hs s2 hh nh ⟨.inl hh, Rp.half_keys hks hnd hmem, hd.wi, by omega⟩
def spBorder : Sp := fun vs H Q _ => ∃ (h : Addr) (hs : List Int) (least : Int) (side : Nat), vs = [.ref h, .int least, .int (side : Int)] ∧ Rd H h (.dK (tru hs)) ∧ side ≤ 100000 ∧ ∀ H', Same H H' → (Bord hs least side → Q (.bl true) H') ∧ (¬ Bord hs least side → Q (.bl false) H')
theorem scBorder : FnScope ["halves", "least", "side", "last", "step", "half"] ["halves", "least", "side"] (defScope sBorder) := ⟨rfl, rfl, rfl, by decide +kernel, rfl, by decide +kernel, by decide +kernel⟩
def fourB (least : Int) (side : Nat) (s : Nat) : List Int := [least + (0 + (s : Int)), least + ((side : Int) - 1) * 256 + (0 + (s : Int)), least + (0 + (s : Int)) * 256, least + (0 + (s : Int)) * 256 + ((side : Int) - 1)]
theorem bord_four {hs : List Int} {least : Int} {side s : Nat} : bordAt hs least side s ↔ ∀ x ∈ fourB least side s, x ∈ hs := by
  unfold bordAt fourB
  simp only [List.mem_cons, List.not_mem_nil, or_false, forall_eq_or_imp, forall_eq, Int.zero_add]
theorem ok_border {f : Addr} {fd : FuncData} (F : Fun K "border_within" "border_within" sBorder f fd) (G : Glo mg) : FnOk P w K mg base CX0 1 f fd ["halves", "least", "side"] spBorder := by
  obtain ⟨tr, hrow⟩ := G.row
  refine F.ok scBorder (fun vs H Q E h => ?_) (fun cdv A outer s H vs Q E hr h => ?_)
  · obtain ⟨d, hs, least, side, rfl, _⟩ := h
    rfl
  · obtain ⟨d, hs, least, side, rfl, hd, hside, k⟩ := h
    have hu := hu_of hr
    refine ⟨_, pss_cons (ps_set (i := 3) scBorder.nd rfl (Or.inl rfl) (pe_op op_sub (pv 2) pe_int))
      (pss_cons (ps_for PassesOwn.never rfl (pi_range1 rfl G.rng (pa_cons (pv 2) pa_nil)) (pg_name (i := 4) scBorder.nd rfl (Or.inl rfl))
        (pss_one (ps_for PassesOwn.never rfl (pi_tup (pe_tup (pa_cons (pe_op op_add (pv 1) (pv 4)) (pa_cons (pe_op op_add (pe_op op_add (pv 1) (pe_op op_mul (pv 3) (pe_glob (v := .int 256) rfl hrow ⟨_, rfl⟩))) (pv 4)) (pa_cons (pe_op op_add (pv 1) (pe_op op_mul (pv 4) (pe_glob (v := .int 256) rfl hrow ⟨_, rfl⟩)))
            (pa_cons (pe_op op_add (pe_op op_add (pv 1) (pe_op op_mul (pv 4) (pe_glob (v := .int 256) rfl hrow ⟨_, rfl⟩))) (pv 3)) pa_nil)))))) (pg_name (i := 5) scBorder.nd rfl (Or.inl rfl))
          (pss_one (ps_if (pt_cmp (pc_dnotin hu (pv 5) (pv 0))) (pss_one (ps_ret pe_bl)) pss_nil)))))
      (pss_one (ps_ret pe_bl))), ?_⟩
    refine ⟨_, rfl, _, _, rfl, rfl, ?_⟩
    refine ⟨_, rfl, (side : Int), rfl, by omega, by omega, ?_⟩
    refine for_range (lo := 0) (n := (side : Int).toNat) (fun i σ H2 => ∃ v4 v5, σ = [some (.ref d), some (.int least), some (.int (side : Int)), some (.int ((side : Int) - 1)), v4, v5] ∧ Same H H2 ∧ ∀ s, s < i → bordAt hs least side s)
      ⟨none, none, rfl, Same.refl _, fun s h => by omega⟩ ?_ ?_
    · rintro i σ H2 hi ⟨v4, v5, rfl, s2, hdone⟩
      have hi' : i < side := by omega
      refine ⟨_, rfl, _, rfl, _, _, rfl, rfl, _, rfl, _, rfl, _, _, rfl, rfl, .inl ⟨by omega, by omega⟩, _, _, rfl, rfl, _, rfl, _, _, rfl, rfl, _, rfl, _, rfl, _, _, rfl, rfl, .inl ⟨by omega, by omega⟩, _, _, rfl, rfl, _, rfl, _, rfl, _, _, rfl, rfl, .inl ⟨by omega, by omega⟩, _, _, rfl, rfl, _, rfl, _, _, rfl, rfl, le_line (by show 4 ≤ _; decide), fun tt ntt => ?_⟩
      refine ⟨tt, rfl, ⟨_, SqT.of upd_same⟩, ?_⟩
      have s3 : Same H (upd H2 tt (.tup ((fourB least side i).map V.int))) := fun b o e => by rw [upd_ne (ne_of_none (s2 _ _ e) ntt)]; exact s2 _ _ e
      refine for_tup (K := K) (a := tt) (xs := (fourB least side i).map V.int) (fun j σ H5 => ∃ v5, σ = [some (.ref d), some (.int least), some (.int (side : Int)), some (.int ((side : Int) - 1)), some (.int (0 + (i : Nat))), v5] ∧ H5 = upd H2 tt (.tup ((fourB least side i).map V.int)) ∧ ∀ x ∈ (fourB least side i).take j, x ∈ hs)
        ⟨v5, rfl, rfl, by simp⟩ (fun j σ H5 _ ⟨_, _, h, _⟩ => by rw [h]; exact SqT.of upd_same) ?_ ?_
      · rintro j y σ H5 hj ⟨v5, rfl, rfl, hin⟩
        obtain ⟨b, hb, rfl⟩ : ∃ b, (fourB least side i)[j]? = some b ∧ y = V.int b := by
          rw [List.getElem?_map] at hj
          cases e : (fourB least side i)[j]? with
          | none => rw [e] at hj; cases hj
          | some b => rw [e] at hj; exact ⟨b, rfl, (Option.some.inj hj).symm⟩
        refine ⟨_, rfl, _, rfl, d, _, rfl, rd_get (rd_keep hd s3) b, _, rfl, ?_⟩
        rw [tru_some]
        by_cases h1 : b ∈ hs
        · refine ifF (by rw [decide_eq_true h1]; decide) ?_
          refine ⟨_, rfl, rfl, fun x hx => ?_⟩
          have et : (fourB least side i).take (j + 1) = (fourB least side i).take j ++ [b] := by rw [List.take_add_one, hb]; rfl
          rw [et, List.mem_append, List.mem_singleton] at hx
          rcases hx with hx | hx
          · exact hin x hx
          · rw [hx]; exact h1
        · refine ifT (by rw [decide_eq_false h1]; decide) ?_
          refine (k _ s3).2 fun hB => h1 ?_
          exact bord_four.mp (hB i hi') b (List.mem_of_getElem? hb)
      · rintro σ H5 ⟨v5, rfl, rfl, hin⟩
        refine ⟨_, _, rfl, s3, fun s hs' => ?_⟩
        by_cases e : s = i
        · subst e; exact bord_four.mpr hin
        · exact hdone s (by omega)
    · rintro σ H2 ⟨v4, v5, rfl, s2, hdone⟩
      exact (k _ s2).1 fun s hs' => hdone s (by omega)
def spRoom : Sp := fun vs H Q _ => ∃ (h : Addr) (hs : List Int) (l : Cells) (x y : Int) (n : Nat), vs = [.ref h, .int (y * 256 + x), .int (n : Int)] ∧ HalvesAt H h l hs ∧ 0 ≤ x ∧ x + n ≤ 128 ∧ SqR l x y n ∧ ∀ H' room, Same H H' → Rp.Room l x y n room → Q (.int (room : Nat)) H'
theorem scRoom : FnScope ["halves", "least", "side", "room"] ["halves", "least", "side"] (defScope sRoom) := ⟨rfl, rfl, rfl, by decide +kernel, rfl, by decide +kernel, by decide +kernel⟩
theorem ok_room {f fB : Addr} {fd fdB : FuncData} (F : Fun K "room_about" "room_about" sRoom f fd) (G : Glo mg) (cB : Cal P w K mg base 1 "border_within" ["halves", "least", "side"] spBorder fB fdB) : FnOk P w K mg base CX0 2 f fd ["halves", "least", "side"] spRoom := by
  obtain ⟨tr, hrow⟩ := G.row
  refine F.ok scRoom (fun vs H Q E h => ?_) (fun cdv A outer s H vs Q E hr h => ?_)
  · obtain ⟨d, hs, l, x, y, n, rfl, _⟩ := h
    rfl
  · obtain ⟨d, hs, l, x, y, n, rfl, hd, hx, hxn, hsq, k⟩ := h
    refine ⟨_, pss_cons (ps_set (i := 3) scRoom.nd rfl (Or.inl rfl) pe_int)
      (pss_cons (ps_while PassesOwn.never (pt_val (pe_call cB.ok hr rfl cB.at_ cB.kp cB.b .nil pass0 (pa_cons (pv 0) (pa_cons (pe_op op_sub (pv 1) (pe_op op_mul (pe_op op_add (pv 3) pe_int) (pe_op op_add (pe_glob (v := .int 256) rfl hrow ⟨_, rfl⟩) pe_int))) (pa_cons (pe_op op_add (pv 2) (pe_op op_mul pe_int (pe_op op_add (pv 3) pe_int))) pa_nil)))))
        (pss_one (ps_set (i := 3) scRoom.nd rfl (Or.inl rfl) (pe_op op_add (pv 3) pe_int))))
      (pss_one (ps_ret (pv 3)))), ?_⟩
    refine ⟨fun m σ H2 => ∃ r : Nat, σ = [some (.ref d), some (.int (y * 256 + x)), some (.int (n : Int)), some (.int (r : Int))] ∧ Same H H2 ∧ SqR l (x - r) (y - r) (n + 2 * r) ∧ (r : Int) ≤ x ∧ r ≤ 128 ∧ m = 200 - r,
      ⟨_, 0, rfl, Same.refl _, by simpa using hsq, by omega, by omega, rfl⟩, ?_⟩
    rintro m σ H2 ⟨r, rfl, s2, hr2, hrx, hr128, rfl⟩
    have hbd : 0 ≤ x - r ∧ x - r + (n + 2 * r : Nat) ≤ 128 := by
      rcases Nat.eq_zero_or_pos (n + 2 * r) with z | z
      · omega
      · have := Rp.SqR_bd hd.wi hr2 z
        omega
    have grow := Rp.SqR_grow hd.hk hd.wi hbd.1 hbd.2 hr2
    have eL : y * 256 + x - ((r : Int) + 1) * (256 + 1) = (y - r - 1) * 256 + (x - r - 1) := by omega
    have eS : (n : Int) + 2 * ((r : Int) + 1) = ((n + 2 * r + 2 : Nat) : Int) := by omega
    refine ⟨_, rfl, _, rfl, _, rfl, _, _, rfl, rfl, _, _, rfl, rfl, _, _, rfl, rfl, .inl ⟨by omega, by omega⟩, _, _, rfl, rfl, _, rfl, _, rfl, _, _, rfl, rfl, _, _, rfl, rfl, .inl ⟨by show -(2 ^ 64 : Int) < 2; decide, by show (2 : Int) < 2 ^ 64; decide⟩, _, _, rfl, rfl, ?_⟩
    refine ⟨d, hs, (y - r - 1) * 256 + (x - r - 1), n + 2 * r + 2, ?_, rd_keep hd.rd s2, by omega, fun H3 s3 => ⟨fun hB => ?_, fun hB => ?_⟩⟩
    · show [V.ref d, V.int (y * 256 + x - ((r : Int) + 1) * (256 + 1)), V.int ((n : Int) + 2 * ((r : Int) + 1))] = _
      rw [eL, eS]
    · have hnew := grow.mp hB
      have hb2 := Rp.SqR_bd hd.wi hnew (by omega)
      refine ⟨_, rfl, iteT ?_⟩
      refine ⟨fun σ' H' => ∃ m', m' < 200 - r ∧ ∃ r : Nat, σ' = [some (.ref d), some (.int (y * 256 + x)), some (.int (n : Int)), some (.int (r : Int))] ∧ Same H H' ∧ SqR l (x - r) (y - r) (n + 2 * r) ∧ (r : Int) ≤ x ∧ r ≤ 128 ∧ m' = 200 - r, fun _ _ h => h, ?_⟩
      refine ⟨_, rfl, _, _, rfl, rfl, 200 - (r + 1), by omega, r + 1, rfl, s2.trans s3, ?_, by omega, by omega, rfl⟩
      rw [show x - ((r + 1 : Nat) : Int) = x - r - 1 by omega, show y - ((r + 1 : Nat) : Int) = y - r - 1 by omega, show n + 2 * (r + 1) = n + 2 * r + 2 by omega]
      exact hnew
    · refine ⟨_, rfl, iteF ?_⟩
      refine ⟨_, rfl, k _ r (s2.trans s3) ⟨hr2, fun z => hB (grow.mpr ?_)⟩⟩
      rw [show x - ((r + 1 : Nat) : Int) = x - r - 1 by omega, show y - ((r + 1 : Nat) : Int) = y - r - 1 by omega, show n + 2 * (r + 1) = n + 2 * r + 2 by omega] at z
      exact z
def spHeightO : Sp := fun vs H Q _ => ∃ (h : Addr) (hs : List Int) (l : Cells) (X Y : Nat), vs = [.ref h, .int ((Y : Int) * 256 + X)] ∧ HalvesAt H h l hs ∧ X ≤ 128 ∧ ∀ H', Same H H' → Q (.int (hN l ((Y : Int) * 256 + X) : Nat)) H'
end
end Pf
namespace Pf
open PySem L2 Roof
open Rp (num nb KeysOf HalfK fourI SqR hN inZ)
section
variable {P : Program} {w : World} {K : PySem.W.Frag} {mg : Str → Option Value} {base : Heap}
theorem scHeightO : FnScope ["halves", "point"] ["halves", "point"] (defScope sHeightO) := ⟨rfl, rfl, rfl, by decide +kernel, rfl, by decide +kernel, by decide +kernel⟩
theorem ok_heightO {f fR : Addr} {fd fdR : FuncData} (F : Fun K "height_over" "height_over" sHeightO f fd) (cR : Cal P w K mg base 2 "room_about" ["halves", "least", "side"] spRoom fR fdR) : FnOk P w K mg base CX0 3 f fd ["halves", "point"] spHeightO := by
  refine F.ok scHeightO (fun vs H Q E h => ?_) (fun cdv A outer s H vs Q E hr h => ?_)
  · obtain ⟨d, hs, l, X, Y, rfl, _⟩ := h
    rfl
  · obtain ⟨d, hs, l, X, Y, rfl, hd, hX, k⟩ := h
    refine ⟨_, pss_one (ps_ret (pe_call cR.ok hr rfl cR.at_ cR.kp cR.b .nil pass0 (pa_cons (pv 0) (pa_cons (pv 1) (pa_cons pe_int pa_nil))))), ?_⟩
    refine ⟨_, rfl, _, rfl, d, hs, l, (X : Int), (Y : Int), 0, rfl, hd, by omega, by omega, fun a b a1 a2 => by omega, fun H' room s' hroom => ?_⟩
    rw [← Rp.height_num hd.wi hX hroom]
    exact k _ s'
end
end Pf
namespace L2
open PySem PySem.Spec PyProof.Rows
abbrev keyed (q : Value) : List (Str × Value) := [(Str.ofString "key", q)]
structure Own (X : Cx) (PN : List (Addr × Obj)) (b : Addr) : Prop where
  nl : b ≠ X.env.locals
  nf : b ∉ X.fs
  ab : X.s_0.heap.objs.size ≤ b
  nc : ∀ x c, X.env.cells.lookup x = some c → c ≠ b
  np : ∀ p ∈ X.pn ++ PN, p.1 ≠ b
theorem Inv.own {X : Cx} {PN : List (Addr × Obj)} {σ : St} {H : Hp} {s : Shared} {b : Addr} (I : Inv X PN σ H s) (hb : s.heap.objs.size ≤ b) : Own X PN b := by
  obtain ⟨h0, h1, h2, h3, h4, h5⟩ := I.fpOk (H' := fun _ => none) hb rfl
  refine ⟨h1, h2, Nat.le_trans I.sz hb, h4, h5⟩
section
variable {X : Cx} {PN : List (Addr × Obj)} {σ : St} {a it S q : Addr} {vs : List Value} {ns : List Int} {g : Int → Int} {Φ : Hp → Prop} {R : Result → Shared → Prop}
theorem maxK_loop (hh : X.A.handled = none) (hi : IntsAre vs ns) (hai : a ≠ it) (hSi : S ≠ it) (oI : Own X PN it) (oS : Own X PN S)
    (hl : ∀ s H pins, Inv X pins σ H s → Φ H → s.heap.IsList a vs.toArray)
    (turn : ∀ (pins : List (Addr × Obj)) (s : Shared) (H : Hp) (n : Int) (t : Tok), n ∈ ns → Inv X (PN ++ pins) σ H s → Φ H →
      wpAny (model X.prog X.w) X.A.in1 (call (.ref q) [.int n t]) (fun u s' => ∃ t' H', u = .int (g n) t' ∧ Inv X (PN ++ pins) σ H' s' ∧ Φ H') (fun _ _ => False) s)
    (hR : ∀ (s' : Shared) (H' : Hp) (i : Nat) (nb : Int) (t : Tok), Inv X PN σ H' s' → Φ H' → ns[i]? = some nb → (∀ (j : Nat) (n' : Int), ns[j]? = some n' → g n' ≤ g nb ∧ (j < i → g n' < g nb)) → R (.ok (.ret (.int nb t))) s') :
    ∀ (k j : Nat) (s : Shared) (H : Hp) (its : Array Value) (c : Nat), ns.length - j = k → j ≤ ns.length → 0 < ns.length → Inv X PN σ H s → Φ H → H it = none → H S = none → s.heap.IsListIter it a j →
    (j = 0 ∧ its = #[] ∨ ∃ (i : Nat) (nb : Int) (tb tv : Tok), its = #[.int nb tb, .int (g nb) tv] ∧ ns[i]? = some nb ∧ i < j ∧ ∀ (j' : Nat) (n' : Int), j' < j → ns[j']? = some n' → g n' ≤ g nb ∧ (j' < i → g n' < g nb)) →
    s.heap.get? S = some { cls := .type "list", dict := none, data := .seq its c, slots := #[] } →
    codeAny (model X.prog X.w) X.A (.builtin "max.loop" ⟨[.ref it, .ref q, .ref S], []⟩) R s := by
  have hname : (toString "max" ++ toString ".loop" : String) = "max.loop" := by decide
  have W := Walks.list (prog := X.prog) (w := X.w) (A := X.A.in1) hh it a hai vs.toArray
  have hsz : vs.toArray.size = ns.length := by rw [List.size_toArray, hi.length]
  intro k
  induction k with
  | zero =>
    intro j s H its c hk hj h0 I F nI nS hit hb hS
    have hin : j = ns.length := by omega
    refine codeAny_builtin PySem.F.entry_max_loop ?_
    rw [Around.under_plainId PySem.F.plain_max_loop _]
    show wpAny _ X.A.in1 (seqItems? (.ref S) >>= _) _ _ _
    refine wpAny_bind (wpAny_seqItems hS rfl ?_)
    show wpAny _ X.A.in1 (tryCatch (pyNext (.ref it)) _ >>= _) _ _ _
    refine wpAny_bind (wpAny_tryCatch (W.done _ _ _ ⟨by rw [hsz, ← hin]; exact hit, hl s H _ I F⟩ fun h' tk' hk' => ?_))
    have I1 : Inv X PN σ H { s with heap := h', toks := tk' } := I.turned (it := it) (fun b o hb e => hk' b o (by simpa using hb) e) nI oI.nl (.inr oI.ab) oI.nc oI.np
    have hS' := hk' S _ (by simpa using hSi) hS
    rcases hb with ⟨h00, _⟩ | ⟨i, nb, tb, tv, rfl, hnb, hij, hbest⟩
    · omega
    · show wpAny _ X.A.in1 (updateSeq S (fun _ => #[]) >>= _) _ _ _
      refine wpAny_bind ?_
      refine wpAny_updateSeq hS' rfl (wpAny_bind (wpAny_letGo (wpAny_pure ?_)))
      have s1 := Heap.SameBut.update h' S (Obj.mapSeq fun _ => (#[] : Array Value))
      refine hR _ H i nb tb (I1.turned (it := S) (t' := tk') (fun b o hb e => (s1.2 b hb).trans e) nS oS.nl (.inr oS.ab) oS.nc oS.np) F hnb fun j' n' e => ?_
      exact hbest j' n' (by rw [hin]; exact (List.getElem?_eq_some_iff.mp e).1) e
  | succ k ih =>
    intro j s H its c hk hj h0 I F nI nS hit hb hS
    have hlt : j < ns.length := by omega
    refine codeAny_builtin PySem.F.entry_max_loop ?_
    rw [Around.under_plainId PySem.F.plain_max_loop _]
    show wpAny _ X.A.in1 (seqItems? (.ref S) >>= _) _ _ _
    refine wpAny_bind (wpAny_seqItems hS rfl ?_)
    show wpAny _ X.A.in1 (tryCatch (pyNext (.ref it)) _ >>= _) _ _ _
    refine wpAny_bind (wpAny_tryCatch (W.item j _ _ _ (by rw [hsz]; exact hlt) ⟨hit, hl s H _ I F⟩ fun v h' tk' hP hst' hk' => ?_))
    have I1 : Inv X PN σ H { s with heap := h', toks := tk' } := I.turned (it := it) (fun b o hb e => hk' b o (by simpa using hb) e) nI oI.nl (.inr oI.ab) oI.nc oI.np
    have hS' := hk' S _ (by simpa using hSi) hS
    obtain ⟨n, hn⟩ : ∃ n, ns[j]? = some n := ⟨_, List.getElem?_eq_getElem hlt⟩
    obtain ⟨t, ht⟩ := hi.get j n hn
    have hv : v = .int n t := by
      have : vs[j]? = some v := by simpa using hP
      rw [ht] at this
      exact (Option.some.inj this).symm
    subst hv
    obtain ⟨oI', hoI', hoc, hod⟩ := id hst'.1
    have I2 : Inv X (PN ++ [(it, oI'), (S, { cls := .type "list", dict := none, data := .seq its c, slots := #[] })]) σ H { s with heap := h', toks := tk' } := I1.pins_of fun p hp => by
      rcases List.mem_append.mp hp with hp | hp
      · exact I1.pin p (List.mem_append_right _ hp)
      · rcases List.mem_cons.mp hp with rfl | hp
        · exact ⟨hoI', nI, oI.nl, oI.nf, fun v e => by rw [hod] at e; cases e⟩
        · rw [List.mem_singleton.mp hp]
          exact ⟨hS', nS, oS.nl, oS.nf, fun v e => by cases e⟩
    have after : ∀ (t2 : Tok) (s2 : Shared) (H2 : Hp), Inv X (PN ++ [(it, oI'), (S, { cls := .type "list", dict := none, data := .seq its c, slots := #[] })]) σ H2 s2 → Inv X PN σ H2 s2 ∧ H2 it = none ∧ H2 S = none ∧ s2.heap.IsListIter it a (j + 1) ∧ s2.heap.get? S = some { cls := .type "list", dict := none, data := .seq its c, slots := #[] } := by
      intro t2 s2 H2 J
      have p1 := J.pin (it, oI') (List.mem_append_right _ (List.mem_append_right _ (.head _)))
      have p2 := J.pin (S, _) (List.mem_append_right _ (List.mem_append_right _ (.tail _ (.head _))))
      exact ⟨J.unpinned, p1.2.1, p2.2.1, ⟨oI', p1.1, hoc, hod⟩, p2.1⟩
    show wpAny _ X.A.in1 (tryCatch (holding [.int n t] (call (.ref q) [.int n t])) _ >>= _) _ _ _
    refine wpAny_bind (wpAny_tryCatch (wpAny_holding (wpAny_mono (turn _ _ H n t (List.mem_of_getElem? hn) I2 F) (fun x s2 he => ?_) fun _ _ hF => hF.elim)))
    obtain ⟨t2, H2, rfl, J2, F2⟩ := he
    obtain ⟨I3, nI3, nS3, hit3, hS3⟩ := after t2 s2 H2 J2
    have upd3 : ∀ its' : Array Value, Inv X PN σ H2 { s2 with heap := s2.heap.update S (Obj.mapSeq fun _ => its') } := fun its' => by
      have s1 := Heap.SameBut.update s2.heap S (Obj.mapSeq fun _ => its')
      exact I3.turned (it := S) (t' := s2.toks) (fun b o hb e => (s1.2 b hb).trans e) nS3 oS.nl (.inr oS.ab) oS.nc oS.np
    have itk : ∀ its' : Array Value, (s2.heap.update S (Obj.mapSeq fun _ => its')).IsListIter it a (j + 1) := fun its' => by
      have s1 := Heap.SameBut.update s2.heap S (Obj.mapSeq fun _ => its')
      obtain ⟨o, e1, e2, e3⟩ := hit3
      exact ⟨o, (s1.2 it (Ne.symm hSi)).trans e1, e2, e3⟩
    rcases hb with ⟨h00, rfl⟩ | ⟨i, nb, tb, tv, rfl, hnb, hij, hbest⟩
    · subst h00
      show wpAny _ X.A.in1 (updateSeq S (fun _ => #[.int n t, .int (g n) t2]) >>= _) _ _ _
      refine wpAny_bind ?_
      refine wpAny_updateSeq hS3 rfl ?_
      rw [hname]
      refine wpAny_pure ⟨plainId_quiet PySem.F.plain_max_loop _, ih 1 _ H2 _ _ (by omega) hlt h0 (upd3 _) F2 nI3 nS3 (itk _) (.inr ⟨0, n, t, t2, rfl, hn, Nat.one_pos, fun j' n' hj' e => ?_⟩) (Heap.get?_update_self _ hS3 rfl)⟩
      have e0 : j' = 0 := by omega
      subst e0
      rw [hn] at e
      cases e
      exact ⟨Int.le_refl _, fun h => absurd h (Nat.lt_irrefl _)⟩
    · show wpAny _ X.A.in1 (tryCatch (holding [.int n t, .int (g n) t2] (richCompare .Gt (.int (g n) t2) (.int (g nb) tv) >>= _)) _ >>= _) _ _ _
      refine wpAny_bind (wpAny_tryCatch (wpAny_holding (wpAny_bind (CmpOf.ints_gt (prog := X.prog) (w := X.w) (A := X.A.in1) (P := fun i v => ∃ t, v = .int (g (ns.getD i 0)) t) (fun i => g (ns.getD i 0)) (fun i v h => h) j i _ _ _ _ _ ⟨t2, by rw [List.getD_eq_getElem?_getD, hn]; rfl⟩ ⟨tv, by rw [List.getD_eq_getElem?_getD, hnb]; rfl⟩ ?_))))
      refine wpAny_bind (wpAny_holding (wpAny_truthy_bool ?_))
      refine wpAny_bind (wpAny_letGo (wpAny_pure ?_))
      have ej : ns.getD j 0 = n := by rw [List.getD_eq_getElem?_getD, hn]; rfl
      have ei : ns.getD i 0 = nb := by rw [List.getD_eq_getElem?_getD, hnb]; rfl
      simp only [ej, ei]
      by_cases hb' : g n > g nb
      · simp only [hb', decide_true, if_true]
        refine wpAny_bind ?_
        refine wpAny_updateSeq hS3 rfl (wpAny_bind (wpAny_letGo ?_))
        rw [hname]
        refine wpAny_pure ⟨plainId_quiet PySem.F.plain_max_loop _, ih (j + 1) _ H2 _ _ (by omega) hlt h0 (upd3 _) F2 nI3 nS3 (itk _) (.inr ⟨j, n, t, t2, rfl, hn, Nat.lt_succ_self _, fun j' n' hj' e => ?_⟩) (Heap.get?_update_self _ hS3 rfl)⟩
        by_cases ejj : j' = j
        · subst ejj
          rw [hn] at e
          cases e
          exact ⟨Int.le_refl _, fun h => absurd h (Nat.lt_irrefl _)⟩
        · have := (hbest j' n' (by omega) e).1
          exact ⟨by omega, fun _ => by omega⟩
      · simp only [hb', decide_false, Bool.false_eq_true, if_false]
        refine wpAny_bind (wpAny_letGo ?_)
        rw [hname]
        refine wpAny_pure ⟨plainId_quiet PySem.F.plain_max_loop _, ih (j + 1) _ H2 _ _ (by omega) hlt h0 I3 F2 nI3 nS3 hit3 (.inr ⟨i, nb, tb, tv, rfl, hnb, by omega, fun j' n' hj' e => ?_⟩) hS3⟩
        by_cases ejj : j' = j
        · subst ejj
          rw [hn] at e
          cases e
          exact ⟨by omega, fun h => by omega⟩
        · exact hbest j' n' (by omega) e
theorem call_maxK {s : Shared} {H : Hp} {Q : Value → Shared → Prop} {E : Value → Shared → Prop} (hh : X.A.handled = none) (hi : IntsAre vs ns) (hne : 0 < ns.length) (I : Inv X PN σ H s) (F : Φ H)
    (hl : ∀ s H pins, Inv X pins σ H s → Φ H → s.heap.IsList a vs.toArray)
    (turn : ∀ (pins : List (Addr × Obj)) (s : Shared) (H : Hp) (n : Int) (t : Tok), n ∈ ns → Inv X (PN ++ pins) σ H s → Φ H →
      wpAny (model X.prog X.w) X.A.in1 (call (.ref q) [.int n t]) (fun u s' => ∃ t' H', u = .int (g n) t' ∧ Inv X (PN ++ pins) σ H' s' ∧ Φ H') (fun _ _ => False) s)
    (hR : ∀ (s' : Shared) (H' : Hp) (i : Nat) (nb : Int) (t : Tok), Inv X PN σ H' s' → Φ H' → ns[i]? = some nb → (∀ (j : Nat) (n' : Int), ns[j]? = some n' → g n' ≤ g nb ∧ (j < i → g n' < g nb)) → Q (.int nb t) s') :
    wpAny (model X.prog X.w) X.A (call (.builtin "max") [.ref a] (keyed (.ref q))) Q E s := by
  have hname : (toString "max" ++ toString ".loop" : String) = "max.loop" := by decide
  have hls := hl _ _ _ I F
  obtain ⟨ol, hol, _⟩ := id hls
  have hll : a < s.heap.objs.size := Heap.lt_size hol
  refine kmk_tree PySem.F.kind_max PySem.F.plain_max PySem.F.entry_max (kmk_max_key _ _) ?_
  show wpAny _ X.A.in1 (Builtin.Builtins.bindParams "max" ["key", "default"] 0 ⟨[], keyed (.ref q)⟩ >>= _) _ _ s
  refine wpAny_bind (wpAny_of_eq (show Builtin.Builtins.bindParams "max" ["key", "default"] 0 ⟨[], keyed (.ref q)⟩ = pure [some (.ref q), none] from rfl) ?_)
  refine wpAny_bind (wpAny_pure ?_)
  refine wpAny_bind (wpAny_pyIter_list hls ?_)
  refine wpAny_bind (wpAny_newList ?_ (Nat.zero_le _))
  rw [hname]
  have hS : (s.heap.push { cls := .type "list_iterator", data := .fields #[.ref a, .int 0 0] }).objs.size = s.heap.objs.size + 1 := size_push' ..
  have I2 : Inv X PN σ H { s with heap := (s.heap.push { cls := .type "list_iterator", data := .fields #[.ref a, .int 0 0] }).push (seqObj "list" #[] 0) } := I.kept (t' := s.toks) fun b u e => Heap.get?_push_of_some _ (Heap.get?_push_of_some _ e)
  refine wpAny_pure ⟨plainId_quiet PySem.F.plain_max_loop _, maxK_loop hh hi (Nat.ne_of_lt hll) (by rw [hS]; exact Nat.ne_of_gt (Nat.lt_succ_self _)) (I.own (Nat.le_refl _)) (I.own (by rw [hS]; exact Nat.le_succ _)) hl turn (fun s' H' i nb t J F' e1 e2 => hR s' H' i nb t J F' e1 e2)
    ns.length 0 _ H #[] 0 rfl (Nat.zero_le _) hne I2 F (I.hok.fresh (Nat.le_refl _)) (I.hok.fresh (by rw [hS]; exact Nat.le_succ _)) ⟨_, Heap.get?_push_of_some _ (Heap.get?_push_size _ rfl), rfl, rfl⟩ (.inl ⟨rfl, rfl⟩) (Heap.get?_push_size _ rfl)⟩
end
end L2
namespace L2
open PySem PySem.Spec PyProof.Rows PySem.W
structure Tb (base : Heap) (mg : Str → Option Value) (c P : Addr) : Prop where
  hd : CodeHd base c P
  bm : ∃ bm ob, mg "__builtins__" = some (.ref bm) ∧ bm ≠ builtinsNs ∧ base.get? bm = some ob ∧ ob.cls = .type "module" ∧ ob.dict = some builtinsNs ∧ ob.data = .plain
section
variable {X : Cx} {pins : List (Addr × Obj)} {σ : St} {H : Hp} {s : Shared} {c P c0 : Addr} {y : Str}
theorem lam_make {params : Arguments} {body : Expr} {lsc : Scope} {pos : Pos} {Q : Value → Shared → Prop} {E : Value → Shared → Prop} (T : Tb X.base X.mg c P) (hcode : X.env.code = .ref c) (I : Inv X pins σ H s) (hP : H P = some (.tbl #[]))
    (hdef : defaultsOf params X.env = ([], [])) (hcl : closureFor lsc X.env = pure [(y, c0)])
    (h : ∀ q c' ctv oc vs t ps s', Inv X pins σ (upd H P (.tbl ps)) s' → s.heap.objs.size ≤ c' → c' < q → s'.heap.get? q = some (kla_obj "<lambda>" (X.env.qual ++ "<lambda>") params body lsc [(y, c0)] ((X.mg "__name__").getD .none) c' ctv) →
      s'.heap.get? c' = some oc → oc.data = .fields vs → vs[1]? = some (.str (X.env.qual ++ "<lambda>") t) → Q (.ref q) s') :
    wpAny (model X.prog X.w) X.A (eval (.Lambda params body lsc pos) X.env) Q E s := by
  have hP1 : s.heap.get? P = some (tabObj #[]) := I.hok P _ hP
  have nG : H mainGlobals = none := by
    obtain ⟨o, es, ep, e, _⟩ := I.mod.glob
    exact (I.bs _ _ e).2
  have hgP : mainGlobals ≠ P := fun z => by rw [z, hP] at nG; cases nG
  obtain ⟨bm, ob, b1, b2, b3, b4, b5, b6⟩ := T.bm
  have hbP : bm ≠ P := fun z => by
    have := (I.bs _ _ b3).2
    rw [z, hP] at this; cases this
  have hbG : bm ≠ mainGlobals := fun z => by
    obtain ⟨o, es, ep, e, hd, _⟩ := I.mod.glob
    rw [z, e] at b3; cases b3; rw [hd] at b6; cases b6
  refine kla_eval hdef (kla_makeFunction (mg := X.mg) hcl I.ok.glob (I.mod.glob.keeps I.bk) hcode (T.hd.keeps I.bk) hP1 trivial rfl hgP ⟨bm, ob, b1, b2, hbG, hbP, I.bk _ _ b3, b4, b5, b6⟩ fun c' ctv h' tk hx hge hlt hrec htb => ?_)
  obtain ⟨c₂, oc, vs, t, e2, hoc, hd, hv⟩ := hrec
  cases e2
  have neP : ∀ b, H b = none → b ≠ P := fun b n z => by rw [z, hP] at n; cases n
  have keep : ∀ b o, b ≠ P → s.heap.get? b = some o → (h'.push (kla_obj "<lambda>" (X.env.qual ++ "<lambda>") params body lsc [(y, c0)] ((X.mg "__name__").getD .none) c' ctv)).get? b = some o := fun b o hb e => Heap.get?_push_of_some _ (hx b o hb e)
  refine h h'.objs.size c' ctv oc vs t _ _ (I.un (t' := tk) (H' := upd H P (.tbl (#[] ++ #[rawInt pos.line, rawInt pos.col, .ref c']))) ⟨fun b o e n _ _ => keep b o (neP b n) e, fun b o e n _ _ => ⟨o.slots, keep b o (neP b n) e⟩, fun b o e n _ => by rw [upd_ne (neP b n)]; exact n, fun b o e _ => ?_, fun b xs e => ?_, fun b o u e => ?_, fun b ps e => ?_⟩ fun b u e => ?_) hge hlt (Heap.get?_push_size _ rfl) (Heap.get?_push_of_some _ hoc) hd hv
  · by_cases hb : b = P
    · subst hb; exact ⟨_, Heap.get?_push_of_some _ htb⟩
    · exact ⟨o, keep b o hb e⟩
  · rw [upd_ne (fun z => by rw [z, hP] at e; cases e)]; exact e
  · rw [upd_ne (fun z => by rw [z, hP] at e; cases e)]; exact e
  · by_cases hb : b = P
    · subst hb
      rw [hP] at e; cases e
      exact ⟨_, upd_same⟩
    · exact ⟨#[], by rw [upd_ne hb, e]; simp⟩
  · by_cases hb : b = P
    · subst hb
      rw [upd_same] at e; cases e
      exact Heap.get?_push_of_some _ htb
    · rw [upd_ne hb] at e
      refine (I.hok b u e).stay (fun b' u' hb' e' => keep b' u' ?_ e') (fun b' e' => ?_) fun b' xs e' => ?_
      · rcases hb' with z | z
        · rw [z]; exact hb
        · intro z2; rw [z2, hP] at z; cases z
      · rw [upd_ne (fun z => by rw [z, hP] at e'; cases e')]; exact e'
      · rw [upd_ne (fun z => by rw [z, hP] at e'; cases e')]; exact e'
def lamCx (X : Cx) (s : Shared) (H : Hp) (N : List Str) (env : Env) : Cx := { X with A := X.A.in1.deeper env, N := N, s_0 := s, H_0 := H, env := env, outer := X.stack, stack := env :: X.stack, ex := [], fn := fun _ => false, calm := true, pn := [], xe := fun _ _ => False }
theorem lam_call {x : Str} {params : Arguments} {body : Expr} {lsc : Scope} {qual : Str} {pm ctv : Value} {c' q : Addr} {oc : Obj} {vs : Array Value} {t0 : Tok} {u : Value} {v d : V} {ud : Value} {te : TE} {Q : VK} (hr : Room 4 X.A) (I : Inv X pins σ H s)
    (hq : s.heap.get? q = some (kla_obj "<lambda>" qual params body lsc [(y, c0)] pm c' ctv)) (hoc : s.heap.get? c' = some oc) (hd : oc.data = .fields vs) (hv : vs[1]? = some (.str qual t0))
    (hc0 : X.env.cells.lookup y = some c0) (hcell : s.heap.IsCell c0 (some ud)) (rd : RelV d ud) (rv : RelV v u)
    (hlsc : lsc.kind = .function ∧ lsc.isCoroutine = false ∧ lsc.isGenerator = false) (hnc : ∀ z ∈ lsc.names, z.2 ≠ .cell) (hx : lsc.names.lookup x = some .local) (hy : lsc.names.lookup y = some .free) (hfree : ∀ z, lsc.names.lookup z = some .free → z = y)
    (hbind : ∀ u : Value, bindArgs (kla_fn "<lambda>" qual params body lsc [(y, c0)] pm (.ref c') ctv) ⟨[u], []⟩ = pure [(x, u)])
    (hb : ∀ s' : Shared, PE (lamCx X s H [x, y] (envX qual lsc s.heap.objs.size q (.ref c') [(y, c0)])) body te) (hte : te [some v, some d] H Q) :
    wpAny (model X.prog X.w) X.A.in1 (call (.ref q) [u]) (EP X pins σ Q) (fun _ _ => False) s := by
  have hr1 : Room 3 X.A.in1 := hr.in1
  refine wpAny_call (kla_callFunE (body := body) hr1.depth hq rfl hlsc.2.1 hlsc.2.2 rfl ⟨c', oc, vs, t0, rfl, hoc, hd, hv⟩ ?_)
  rw [hbind]
  refine wpAny_pure (wpAny_newFunctionEnv hnc (fun z hz => by rw [List.mem_singleton.mp hz]; exact hx) (fun h₁ hns hsb => ⟨I.nolimit.fresh _ hsb, ?_⟩) hlsc.1)
  show codeAny _ _ (.expr body (envX qual lsc s.heap.objs.size q (.ref c') [(y, c0)])) _ _
  have hk₁ : ∀ b o, s.heap.get? b = some o → h₁.get? b = some o := fun b o e => hsb.extBut b o (Nat.ne_of_lt (Heap.lt_size e)) (Heap.get?_push_of_some _ e)
  have one : ∀ z c, List.lookup z [(y, c0)] = some c → z = y ∧ c = c0 := fun z c e => by
    simp only [List.lookup_cons, List.lookup_nil] at e
    split at e
    · rename_i hz
      exact ⟨beq_iff_eq.mp hz, (Option.some.inj e).symm⟩
    · cases e
  have self : List.lookup y [(y, c0)] = some c0 := by simp
  have J : Inv (lamCx X s H [x, y] (envX qual lsc s.heap.objs.size q (.ref c') [(y, c0)])) [] [some v, some d] H { s with heap := h₁, toks := s.toks + [(x, u)].length } := by
    refine ⟨⟨I.ok.mod, hlsc.1, rfl, rfl, Nat.le_refl _, fun z1 z2 c e1 e2 => (one z1 c e1).1.trans (one z2 c e2).1.symm, fun z hz => ?_, fun z c e _ => (by cases e), fun _ => hr1.hd, Around.frames_deeper I.ok.frames, .inr ⟨rfl, rfl⟩, fun b z => absurd (show b ∈ ([] : List Addr) from z) (by simp), I.bs, Nat.le_trans I.ok.bsz I.sz, fun b o _ => (by show b ∉ ([] : List Addr); simp), fun b z => absurd (show b ∈ ([] : List Addr) from z) (by simp), I.stack, I.stkFree⟩,
      rfl, I.bare, Un.kept hk₁, ⟨_, hns, fun i z w h1 h2 h3 => ?_⟩, fun z c e => ?_, I.hok.fresh (Nat.le_refl _), fun z c e => ?_, fun p hp => absurd (show p ∈ ([] : List (Addr × Obj)) from hp) (by simp), I.hok.kept hk₁, rfl⟩
    · have hz' : lsc.names.lookup z = some .cell ∨ lsc.names.lookup z = some .free := hz
      rcases hz' with hz | hz
      · exact absurd rfl (hnc _ (PySem.mem_of_lookup hz))
      · rw [hfree z hz]; exact ⟨c0, self⟩
    · match i, h1, h2 with
      | 0, h1, h2 =>
        have e1 : x = z := Option.some.inj h1
        have e2 : v = w := Option.some.inj (Option.some.inj h2)
        subst e1 e2
        exact ⟨u, rv, .inl ⟨hx, by simp⟩⟩
      | 1, h1, h2 =>
        have e1 : y = z := Option.some.inj h1
        have e2 : d = w := Option.some.inj (Option.some.inj h2)
        subst e1 e2
        obtain ⟨o, ho, hdo⟩ := hcell
        exact ⟨ud, rd, .inr ⟨.inr hy, c0, self, o, hk₁ _ _ ho, hdo⟩⟩
      | n + 2, h1, h2 => exact absurd h1 (by show ¬ (([x, y] : List Str)[n + 2]? = some z); simp)
    · obtain ⟨_, rfl⟩ := one z c e
      obtain ⟨o, ho, hdo⟩ := hcell
      exact ⟨_, o, hk₁ _ _ ho, hdo⟩
    · obtain ⟨_, rfl⟩ := one z c e
      exact I.freeC y c hc0
  refine kla_codeExpr (wpAny_mono (hb s [] _ _ H Q J hte) (fun w s' hs => ?_) fun _ _ z => z.elim)
  obtain ⟨v', H', J', rv', q'⟩ := hs
  exact I.after ⟨v', H', J'.os, J'.bare, J'.base, J'.hok, rv', q'⟩
end
end L2
namespace Pf
open PySem L2 Roof PySem.W PyProof.Rows
open Rp (num nb KeysOf HalfK hN)
abbrev lamS : Scope := { kind := .function, names := [("point", .local), ("halves", .free), ("height_over", .globalImplicit)], isGenerator := false, isCoroutine := false }
abbrev lamA (ap : Pos) : Arguments := { posonlyargs := [], args := [⟨"point", none, ap⟩], vararg := none, kwonlyargs := [], kw_defaults := [], kwarg := none, defaults := [] }
abbrev lamB (p1 p2 p3 p4 : Pos) : Expr := .Call (.Name "height_over" p1) [.Name "halves" p2, .Name "point" p3] [] p4
def tMaxLam (te : TE) (P : Addr) : TE := fun σ H Q => tCons te tNil σ H fun vs H1 => ∃ (a d : Addr) (ns hs : List Int) (l : Cells), vs = [.ref a] ∧ H1 a = some (.lst (ns.map V.int)) ∧ 0 < ns.length ∧ H1 P = some (.tbl #[]) ∧ σ[0]? = some (some (.ref d)) ∧ HalvesAt H1 d l hs ∧ a ≠ d ∧ (∀ n ∈ ns, n ∈ hs) ∧
  ∀ (i : Nat) (m : Int) (H' : Hp), ns[i]? = some m → (∀ (j : Nat) (n : Int), ns[j]? = some n → ((hN l n : Nat) : Int) ≤ ((hN l m : Nat) : Int) ∧ (j < i → ((hN l n : Nat) : Int) < ((hN l m : Nat) : Int))) → (∀ b o, b ≠ P → b ≠ a → H1 b = some o → H' b = some o) → Q (.int m) H'
theorem pe_maxLam {X : Cx} {c P fO : Addr} {fdO : FuncData} {p pos kp lpos ap p1 p2 p3 p4 : Pos} {e : Expr} {te : TE} (T : Tb X.base X.mg c P) (hcode : X.env.code = .ref c) (hr : Room 5 X.A) (hc : X.calm = true) (hg : Gl X "max") (hm : X.mg "max" = none)
    (cO : Cal X.prog X.w X.K X.mg X.base 3 "height_over" ["halves", "point"] spHeightO fO fdO) (ha : PE X e te) (hNm : X.N[0]? = some ("halves" : Str)) (hk : X.env.kindOf "halves" = some .cell)
    (he : starEach [e] X.env = [(false, eval e X.env)] := by rfl) :
    PE X (.Call (.Name "max" p) [e] [⟨some (Str.ofString "key"), .Lambda (lamA ap) (lamB p1 p2 p3 p4) lamS lpos, kp⟩] pos) (tMaxLam te P) := by
  intro pins s σ H Q I h
  have he2 : backTo pos (starEach [e] X.env) = (false, eval e X.env) :: backTo pos (starEach [] X.env) := by rw [he]; rfl
  obtain ⟨c0, hc0⟩ := I.ok.has "halves" (.inl hk)
  refine wpAny_Call_Name_kw (ld_blt I hg hm PyProof.Rows.boot_max ?_)
  refine PyProof.Rows.callWith_kw (thn (pa_cons ha pa_nil he pos pins s σ H _ I h) fun us s1 ⟨vs, H1, I1, r1, q1⟩ => ?_) he2 (by rw [he2]; rfl)
  obtain ⟨a, d, ns, hs, l, rfl, hla, hne, hP, hσ, hat, had, hsub, k⟩ := q1
  rw [Vals.ref1 r1]
  have hcl : closureFor lamS X.env = pure [(("halves" : Str), c0)] := by
    rw [closure_ok (fun y hy e => ?_)]
    · show pure [(("halves" : Str), (X.env.cells.lookup ("halves" : Str)).getD 0)] = _
      rw [hc0]; rfl
    · simp only [List.mem_cons, List.not_mem_nil, or_false] at hy
      rcases hy with rfl | rfl | rfl
      · cases e
      · exact ⟨c0, hc0⟩
      · cases e
  refine PyProof.Rows.kws_cons (lam_make (y := "halves") (c0 := c0) T hcode I1 hP rfl hcl fun q c' ctv oc vsc t ps s2 I2 hge hlt hq hoc hd hv => PyProof.Rows.kws_nil ?_)
  show wpAny _ X.A (call (.builtin "max") [.ref a] (keyed (.ref q))) _ _ s2
  have naP : a ≠ P := fun z => by rw [z, hP] at hla; cases hla
  have hla2 : (upd H1 P (.tbl ps)) a = some (.lst (ns.map V.int)) := by rw [upd_ne naP]; exact hla
  obtain ⟨od, I3⟩ := I2.lock hla2 trivial
  obtain ⟨hoa, _, its, nn, rv, hoa2⟩ := I3.hok a _ upd_same
  have hod : od = { cls := .type "list", data := .seq its.toArray nn } := Option.some.inj (hoa.symm.trans hoa2)
  have fr : ∀ b, s1.heap.objs.size ≤ b → (upd (upd H1 P (.tbl ps)) a (.frz od (.lst (ns.map V.int)))) b = none := fun b hb => by
    have hn := I1.hok.fresh hb
    rw [upd_ne (fun z => by rw [z, hla] at hn; cases hn), upd_ne (fun z => by rw [z, hP] at hn; cases hn)]
    exact hn
  have hgq : s1.heap.objs.size ≤ q := Nat.le_of_lt (Nat.lt_of_le_of_lt hge hlt)
  have I4 : Inv X (pins ++ [(q, kla_obj "<lambda>" (X.env.qual ++ "<lambda>") (lamA ap) (lamB p1 p2 p3 p4) lamS [("halves", c0)] ((X.mg "__name__").getD .none) c' ctv), (c', oc)]) σ (upd (upd H1 P (.tbl ps)) a (.frz od (.lst (ns.map V.int)))) s2 := I3.pins_of fun p hp => by
    rcases List.mem_append.mp hp with hp | hp
    · exact I3.pin p (List.mem_append_right _ hp)
    · rcases List.mem_cons.mp hp with rfl | hp
      · exact ⟨hq, fr _ hgq, Nat.ne_of_gt (Nat.lt_of_lt_of_le I1.lt hgq), I1.nofs hgq, fun v e => by cases e⟩
      · rw [List.mem_singleton.mp hp]
        exact ⟨hoc, fr _ hge, Nat.ne_of_gt (Nat.lt_of_lt_of_le I1.lt hge), I1.nofs hge, fun v e => by rw [hd] at e; cases e⟩
  refine call_maxK (g := fun n => ((hN l n : Nat) : Int)) (Φ := fun H' => H' a = some (.frz od (.lst (ns.map V.int))) ∧ ∀ b o, b ≠ P → b ≠ a → H1 b = some o → H' b = some o) (I.ok.hd hc) rv.ints hne I4 ⟨upd_same, fun b o h1 h2 e => by rw [upd_ne h2, upd_ne h1]; exact e⟩ (fun s3 H3 pn J F => ?_) (fun pn s3 H3 n tn hn J F => ?_) fun s3 H3 i nb tn J F e1 e2 => ?_
  · obtain ⟨g1, _⟩ := J.hok a _ F.1
    rw [hod] at g1
    exact ⟨_, g1, rfl, nn, rfl⟩
  · obtain ⟨X1, Y1, hX, hY, rfl, _⟩ := Rp.half_room hat.wi hat.hk (hsub n hn)
    have ndP : d ≠ P := fun z => by
      rcases hat.rd with r | ⟨o, r⟩
      · rw [z, hP] at r; cases r
      · rw [z, hP] at r; cases r
    have hat3 : HalvesAt H3 d l hs := ⟨by
      rcases hat.rd with r | ⟨o, r⟩
      · exact .inl (F.2 _ _ ndP (Ne.symm had) r)
      · exact .inr ⟨o, F.2 _ _ ndP (Ne.symm had) r⟩, hat.hk, hat.wi, hat.le⟩
    obtain ⟨mm, hns, hlk⟩ := J.loc
    obtain ⟨ud, rd, lk⟩ := hlk 0 "halves" (.ref d) hNm hσ (.inr (.inl hk))
    have hcell : s3.heap.IsCell c0 (some ud) := by
      rcases lk with ⟨k1, _⟩ | ⟨_, c1, k2, k3⟩
      · rw [hk] at k1; cases k1
      · rw [hc0] at k2; cases k2; exact k3
    have pq := J.pin (q, _) (List.mem_append_right _ (List.mem_append_left _ (List.mem_append_right _ (.head _))))
    have pc := J.pin (c', _) (List.mem_append_right _ (List.mem_append_left _ (List.mem_append_right _ (.tail _ (.head _)))))
    have hr3 : Room 3 (X.A.in1.deeper (envX (X.env.qual ++ "<lambda>") lamS s3.heap.objs.size q (.ref c') [("halves", c0)])) := hr.in1.deeper _
    refine wpAny_mono (lam_call (x := "point") (y := "halves") (v := .int ((Y1 : Int) * 256 + X1)) (d := .ref d) (Q := fun v H' => v = .int ((hN l ((Y1 : Int) * 256 + X1) : Nat) : Int) ∧ Same H3 H') (hr.mono (by decide)) J pq.1 pc.1 hd hv hc0 hcell rd ⟨tn, rfl⟩ ⟨rfl, rfl, rfl⟩ (by decide +kernel) rfl rfl (fun z hz => ?_) (fun u => rfl)
      (fun s' => pe_call cO.ok hr3 rfl cO.at_ cO.kp cO.b .nil pass0 (pa_cons (pv 1) (pa_cons (pv 0) pa_nil))) ?_) (fun u s4 hu => ?_) fun _ _ z => z
    · simp only [List.lookup_cons, List.lookup_nil] at hz
      split at hz
      · cases hz
      · split at hz
        · rename_i z1; exact beq_iff_eq.mp z1
        · split at hz
          · cases hz
          · cases hz
    · exact ⟨_, rfl, _, rfl, d, hs, l, X1, Y1, rfl, hat3, by omega, fun H' s' => ⟨rfl, s'⟩⟩
    · obtain ⟨v', H', J', rv', rfl, sm⟩ := hu
      obtain ⟨t', rfl⟩ := rv'
      exact ⟨t', H', rfl, J', sm _ _ F.1, fun b o h1 h2 e => sm _ _ (F.2 b o h1 h2 e)⟩
  · exact ⟨.int nb, H3, J.unpinned, ⟨tn, rfl⟩, k i nb H3 e1 e2 F.2⟩
section
variable {P : Program} {w : World} {K : PySem.W.Frag} {mg : Str → Option Value} {base : Heap}
def spHighP (T : Addr) : Sp := fun vs H Q _ => ∃ (h : Addr) (hs : List Int) (l : Cells), vs = [.ref h] ∧ HalvesAt H h l hs ∧ hs ≠ [] ∧ H T = some (.tbl #[]) ∧
  ∀ H' m, (∀ b o, b ≠ T → H b = some o → H' b = some o) → m ∈ hs → (∀ n ∈ hs, hN l n ≤ hN l m) → (∀ n ∈ hs, n < m → hN l n < hN l m) → Q (.int m) H'
theorem scHighP : FnScope ["halves"] ["halves"] (defScope sHighP) := ⟨rfl, rfl, rfl, by decide +kernel, rfl, by decide +kernel, by decide +kernel⟩
theorem ok_highP {f fO c T : Addr} {fdO : FuncData} {oc : Value} {od an : Option Addr} {osl : Array (Option Value)} {kV doc pm ct : Value} (lk : K.lookup f = some ⟨oc, od, .func (PySem.W.fnOf "highest_point" "highest_point" (defArgs sHighP) (defBody sHighP) (defScope sHighP) .none kV doc pm an (.ref c) ct), osl⟩)
    (hcd : PySem.W.codeIn K (.ref c) "highest_point" = true) (G : Glo mg) (B : Tb base mg c T) (cO : Cal P w K mg base 3 "height_over" ["halves", "point"] spHeightO fO fdO) :
    FnOk P w K mg base CX0 6 f (PySem.W.fnOf "highest_point" "highest_point" (defArgs sHighP) (defBody sHighP) (defScope sHighP) .none kV doc pm an (.ref c) ct) ["halves"] (spHighP T) := by
  refine fn_of lk hcd scHighP (fun vs H Q E h => ?_) fun A outer s H vs Q E hr h => ?_
  · obtain ⟨d, hs, l, rfl, _⟩ := h
    rfl
  · obtain ⟨d, hs, l, rfl, hat, hne, hT, k⟩ := h
    refine ⟨_, PSs.nox (pss_one (ps_ret (pe_maxLam (c := c) (P := T) B rfl hr rfl (by rfl) G.mx cO (pe_callB (cr_sortedD rfl) (by rfl) G.srt PyProof.Rows.boot_sorted (pa_cons (pv 0) pa_nil)) rfl rfl))), ?_⟩
    refine ⟨_, rfl, d, hs, rfl, ⟨_, hat.rd, tru_keys _⟩, fun ns a hperm hpw na => ?_⟩
    have nad : a ≠ d := fun z => by
      rcases hat.rd with r | ⟨o, r⟩
      · rw [z, r] at na; cases na
      · rw [z, r] at na; cases na
    have naT : a ≠ T := fun z => by rw [z, hT] at na; cases na
    have hlen : ns.length = hs.length := hperm.length_eq
    have hpos : 0 < hs.length := List.length_pos_iff.mpr hne
    have hat1 : HalvesAt (upd H a (.lst (ns.map V.int))) d l hs := hat.keep fun b o e => by rw [upd_ne (ne_of_none e na)]; exact e
    refine ⟨a, d, ns, hs, l, rfl, upd_same, by omega, by rw [upd_ne (Ne.symm naT)]; exact hT, rfl, hat1, nad, fun n hn => hperm.mem_iff.mp hn, fun i m H' hi hb hk => ?_⟩
    refine k H' m (fun b o h1 e => hk b o h1 (ne_of_none e na) (by rw [upd_ne (ne_of_none e na)]; exact e)) (hperm.mem_iff.mp (List.mem_of_getElem? hi)) (fun n hn => ?_) fun n hn hlt => ?_
    · obtain ⟨j, hj⟩ := List.getElem?_of_mem (hperm.mem_iff.mpr hn)
      have := (hb j n hj).1
      omega
    · obtain ⟨j, hj⟩ := List.getElem?_of_mem (hperm.mem_iff.mpr hn)
      have hji : j < i := by
        rcases Nat.lt_or_ge j i with z | z
        · exact z
        · exfalso
          obtain ⟨hj1, hj2⟩ := List.getElem?_eq_some_iff.mp hj
          obtain ⟨hi1, hi2⟩ := List.getElem?_eq_some_iff.mp hi
          rcases Nat.lt_or_ge i j with z2 | z2
          · have := List.pairwise_iff_getElem.mp hpw i j hi1 hj1 z2
            omega
          · have : i = j := by omega
            subst this
            omega
      have := (hb j n hj).2 hji
      omega
end
end Pf
namespace L2
open PySem PySem.Spec PyProof.Rows PySem.W
theorem spec_callT {c T : Addr} {P : Program} {w : World} {K : PySem.W.Frag} {mg mb : Str → Option Value} {CX : CXT} {k : Nat} {fa : Addr} {fd : FuncData} {ps : List Str} {sp : Sp} {s₁ : Shared} {us : List Value} {vs : List V} {R : VK}
    (S : List ArgL) (hS : ∀ x ∈ S, x.At s₁.heap)
    (KX : K.In s₁.heap) (hns : s₁.heap.Ns mainGlobals mg) (hb : s₁.heap.Ns builtinsNs mb) (hbb : ∀ x : Str, x ≠ "__name__" → mb x = bootBuiltins x) (hlim : s₁.heap.NoLimit) (hg : s₁.gens = #[])
    (hr : Room k callerA) (hT : s₁.heap.TableAt c T #[]) (hC : s₁.heap.IsCode c T #[]) (hKT : K.lookup T = none) (hTs : T ≠ cStatics) (hbm : ∃ bm ob, mg "__builtins__" = some (.ref bm) ∧ bm ≠ builtinsNs ∧ s₁.heap.get? bm = some ob ∧ ob.cls = .type "module" ∧ ob.dict = some builtinsNs ∧ ob.data = .plain)
    (F : ∀ base : Heap, K.In base → base.Ns mainGlobals mg → Tb base mg c T → FnOk P w K mg base CX k fa fd ps sp) (hbind : ∀ s : Shared, BindsTo s fd ⟨us, []⟩ (ps.zip us)) (rv : Vals vs us)
    (hsp : ∀ H : Hp, H T = some (.tbl #[]) → (∀ x ∈ S, SqL K H x.a (x.ns.map V.int)) → sp vs H R fun _ _ _ => False)
    (hCX : ∀ H e s', CX [] H s₁ (fun _ _ _ => False) e s' → False) :
    codeAny (model P w) callerA (.call (.ref fa) ⟨us, []⟩) (fun r s' => (∃ u v H', r = .ok (.ret u) ∧ RelV v u ∧ HOk P w H' s'.heap ∧ R v H') ∧ OldK s₁.heap s'.heap ∧ s'.os = s₁.os ∧ AllBare s'.gens) s₁ := by
  classical
  let H0 : Hp := fun b => match S.find? (fun x => decide (x.a = b)) with
    | some x => if K.lookup b = none then some (.frz x.obj (.lst (x.ns.map V.int))) else none
    | none => none
  let H : Hp := fun b => if b = T then some (.tbl #[]) else H0 b
  have nTa : ∀ x ∈ S, x.a ≠ T := fun x hx z => by
    have := (hS x hx).ob
    rw [z, hT.2] at this
    cases this
  have HT : H T = some (.tbl #[]) := if_pos rfl
  have Hsome : ∀ b u, H b = some u → (b = T ∧ u = .tbl #[]) ∨ ∃ x ∈ S, x.a = b ∧ K.lookup b = none ∧ u = .frz x.obj (.lst (x.ns.map V.int)) := by
    intro b u e
    by_cases hb : b = T
    · left
      have e' := (if_pos hb).symm.trans e
      exact ⟨hb, (Option.some.inj e').symm⟩
    · right
      have e' : H0 b = some u := (if_neg hb).symm.trans e
      simp only [H0] at e'
      split at e'
      · rename_i x hx
        split at e'
        · rename_i hk
          have h1 := List.mem_of_find?_eq_some hx
          have h2 := List.find?_some hx
          cases e'
          exact ⟨x, h1, of_decide_eq_true h2, hk, rfl⟩
        · cases e'
      · cases e'
  have same : ∀ x ∈ S, ∀ y ∈ S, x.a = y.a → x.obj = y.obj ∧ x.ns = y.ns := by
    intro x hx y hy e
    have h1 := (hS x hx).ob
    have h2 := (hS y hy).ob
    rw [e, h2] at h1
    have h3 : y.obj = x.obj := Option.some.inj h1
    refine ⟨h3.symm, ?_⟩
    have h4 : x.vs = y.vs := by
      have := congrArg Obj.data h3
      injection this with h5 _
      have := congrArg Array.toList h5
      simpa using this.symm
    have h5 := (hS x hx).ia
    have h6 := (hS y hy).ia
    rw [h4] at h5
    have h7 : (vals_ints h5).length = (vals_ints h5).length := rfl
    have h8 := Vals.inj (vals_ints h5) (vals_ints h6)
    have inj : ∀ a b : List Int, a.map V.int = b.map V.int → a = b := by
      intro a
      induction a with
      | nil => intro b h; cases b with
        | nil => rfl
        | cons _ _ => simp at h
      | cons x a ih => intro b h; cases b with
        | nil => simp at h
        | cons y b =>
          simp only [List.map_cons, List.cons.injEq] at h
          rw [V.int.inj h.1, ih b h.2]
    exact inj _ _ h8
  have hSq : ∀ x ∈ S, SqL K H x.a (x.ns.map V.int) := by
    intro x hx
    cases hk : K.lookup x.a with
    | some o =>
      have e := KX x.a o hk
      rw [(hS x hx).ob] at e
      cases e
      exact .inr ⟨_, x.vs.toArray, _, hk, rfl, rfl, rfl, by rw [List.size_toArray, (hS x hx).ia.length]; exact (hS x hx).len, by simpa using vals_ints (hS x hx).ia⟩
    | none =>
      refine .inl (.inr ⟨x.obj, ?_⟩)
      show (if x.a = T then _ else H0 x.a) = _
      rw [if_neg (nTa x hx)]
      simp only [H0]
      cases hf : S.find? (fun y => decide (y.a = x.a)) with
      | none =>
        have := List.find?_eq_none.mp hf x hx
        simp at this
      | some y =>
        have h1 := List.mem_of_find?_eq_some hf
        have h2 : y.a = x.a := of_decide_eq_true (List.find?_some (p := fun y : ArgL => decide (y.a = x.a)) hf)
        obtain ⟨h3, h4⟩ := same y h1 x hx h2
        simp only [hk, if_true, h3, h4]
  have hok : HOk P w H s₁.heap := fun b u e => by
    rcases Hsome b u e with ⟨rfl, rfl⟩ | ⟨x, hx, rfl, _, rfl⟩
    · exact hT.2
    exact ⟨(hS x hx).ob, by rw [List.length_map]; exact (hS x hx).len, x.vs, _, vals_ints (hS x hx).ia, (hS x hx).ob⟩
  have base_of : ∀ {b : Addr} {o : Obj}, s₁.heap.get? b = some o → H b = none → (hidT s₁.heap H).get? b = some o := fun e n => hidT_get e n
  have noA : ∀ {b : Addr} {o : Obj} {es : Array DictEntry} {ep : Nat}, s₁.heap.get? b = some o → o.data = .dict es ep → H b = none := fun {b o es ep} e d => by
    cases q : H b with
    | none => rfl
    | some u =>
      rcases Hsome b u q with ⟨rfl, rfl⟩ | ⟨x, hx, rfl, _, rfl⟩
      · rw [hT.2] at e; cases e; cases d
      rw [(hS x hx).ob] at e; cases e
      have d' : Data.seq x.vs.toArray _ = Data.dict es ep := d
      cases d'
  have nsK : ∀ {b : Addr} {m : Str → Option Value}, s₁.heap.Ns b m → (hidT s₁.heap H).Ns b m := fun {b m} ⟨o, es, ep, e, d, r⟩ => ⟨o, es, ep, base_of e (noA e d), d, r⟩
  have hKb : K.In (hidT s₁.heap H) := fun b o e => base_of (KX b o e) (by
    cases q : H b with
    | none => rfl
    | some u =>
      rcases Hsome b u q with ⟨rfl, rfl⟩ | ⟨x, hx, rfl, hk, rfl⟩
      · rw [hKT] at e; cases e
      rw [hk] at e; cases e)
  have hM : Mod K mg (hidT s₁.heap H) := ⟨hKb, nsK hns, ⟨mb, nsK hb, hbb⟩, let ⟨mc, h1, h2⟩ := hlim; ⟨mc, nsK h1, h2⟩⟩
  have e0 : Env0 P w K mg (hidT s₁.heap H) callerA [] s₁ H := ⟨rfl, hM, fun b o e => of_hidT e, Nat.le_of_eq (hidT_size _ _), trivial, fun b hb => absurd (show b ∈ ([] : List Addr) from hb) (by simp), hok, .of_eq hg⟩
  have hTb : Tb (hidT s₁.heap H) mg c T := by
    refine ⟨?_, ?_⟩
    · obtain ⟨o, vs, file, tf, flags, tg, inF, text, tt, e1, e2, e3, rest⟩ := CodeHd.of hC hT
      refine ⟨o, vs, file, tf, flags, tg, inF, text, tt, base_of e1 ?_, e2, e3, rest⟩
      cases q : H c with
      | none => rfl
      | some u =>
        rcases Hsome c u q with ⟨rfl, rfl⟩ | ⟨x, hx, rfl, hk, rfl⟩
        · exact absurd rfl rest.2.2.2.2.2.2
        · rw [(hS x hx).ob] at e1; cases e1; exact absurd (Value.type.inj e2) (by decide)
    · obtain ⟨bm, ob, b1, b2, b3, b4, b5, b6⟩ := hbm
      refine ⟨bm, ob, b1, b2, base_of b3 ?_, b4, b5, b6⟩
      cases q : H bm with
      | none => rfl
      | some u =>
        rcases Hsome bm u q with ⟨rfl, rfl⟩ | ⟨x, hx, rfl, hk, rfl⟩
        · rw [hT.2] at b3; cases b3; cases b4
        · rw [(hS x hx).ob] at b3; cases b3; exact absurd (Value.type.inj b4) (by decide)
  refine codeAny_mono ((F _ hKb (nsK hns) hTb).run callerA [] s₁ H ⟨us, []⟩ us vs _ _ hr e0 (hbind s₁) rv (hsp H HT hSq)) fun r s' h => ?_
  cases r with
  | error e => exact (hCX H e s' h).elim
  | ok fl =>
    cases fl with
    | next => exact False.elim h
    | brk => exact False.elim h
    | cont => exact False.elim h
    | ret u =>
      obtain ⟨v, H', os, bare, un, hok', r', q⟩ := h
      refine ⟨⟨u, v, H', rfl, r', hok', q⟩, ⟨fun b o e => ?_, fun b o e => un.there b o e (by simp)⟩, os, bare⟩
      cases q : H b with
      | none => exact .inl (un.keep b o e q (by intro z; exact absurd (show b ∈ ([] : List Addr) from z) (by simp)) (by simp))
      | some u =>
        rcases Hsome b u q with ⟨rfl, rfl⟩ | ⟨x, hx, rfl, hk, rfl⟩
        · obtain ⟨more, z2⟩ := un.tbls b _ q
          have e2 : s'.heap.get? b = some { cls := .none, data := .fields (#[] ++ more) } := hok' b _ z2
          have e3 : o = { cls := .none, data := .fields #[] } := Option.some.inj (e.symm.trans hT.2)
          subst e3
          exact .inr (.inl ⟨hT.isCodeTable, rfl, #[], more, rfl, e2⟩)
        · have z2 := un.frzs _ _ _ q
          obtain ⟨e1, _⟩ := hok _ _ q
          obtain ⟨e2, _⟩ := hok' _ _ z2
          rw [e] at e1; cases e1
          exact .inl e2
theorem walkST {r : OpenSpec} {k : Nat} {q : Program} {loose : List Str} {XP : (Str → Option Value) → Heap → Prop} {YP : World → Heap → Prop} {d : DefRec} {K : Params → PySem.W.Frag} {sp : PySem.W.Frag → Addr → Sp} {ps : List Str} {f : List ArgW → List Int} {ok : List ArgW → Prop} {nm : Str}
    (hpre : ∀ args, r.pre args = true → ∃ as : List ArgW, args = as.map ArgW.data ∧ as.length = ps.length ∧ (∀ a ∈ as, a.len ≤ sizeLine) ∧ ok as ∧ r.post args (.list ((f as).map .int)) = true)
    (hr : Room k callerA)
    (hY : ∀ (w : World) (h : Heap), YP w h → (K w.params).In h)
    (hrec : (recsOf q).any (fun e => e.name == nm) = true)
    (F : ∀ (w : World) (mg : Str → Option Value) (fa : Addr) (h : Heap), (K w.params).In h → h.Ns mainGlobals mg → mg d.name = some (.ref fa) →
      ∃ (fd fdN : FuncData) (fN c T : Addr) (oc occ : Value) (od odc : Option Addr) (sl slc : Array (Option Value)) (vsc : Array Value), (mg nm = some (.ref fN) ∧ (K w.params).lookup fN = some ⟨oc, od, .func fdN, sl⟩ ∧ fdN.code = .ref c ∧ (K w.params).lookup c = some ⟨occ, odc, .fields vsc, slc⟩ ∧ vsc[11]? = some (.ref T) ∧ (K w.params).lookup T = none) ∧
        (∀ (s : Shared) (us : List Value), us.length = ps.length → BindsTo s fd ⟨us, []⟩ (ps.zip us)) ∧
        ∀ base : Heap, (K w.params).In base → base.Ns mainGlobals mg → Tb base mg c T → FnOk r.prog w (K w.params) mg base CX0 k fa fd ps (sp (K w.params) T))
    (hsp : ∀ (K : PySem.W.Frag) (T : Addr) (H : Hp) (as : List ArgW) (vs : List V), ok as → H T = some (.tbl #[]) → Paired (ArgWV K H) as vs → sp K T vs H (IsAns (f as)) fun _ _ _ => False) :
    WalkOS q loose XP YP r d [] (fun f vs => PySem.call f vs) := by
  intro w s₀ s₁ mg mb G Y fa o pm cd doc dV kV ho hd hcd hD hmg hg args vals as hpre' hlay hrd hwl hlo
  obtain ⟨as', rfl, hl1, hl2, hok, hpost⟩ := hpre args hpre'
  have KX := hY w _ Y
  obtain ⟨fd, fdN, fN, c, T, oc, occ, od, odc, sl, slc, vsc, ⟨m1, m2, m3, m4, m5, m6⟩, hb, hF⟩ := F w mg fa _ KX G.T.g hmg
  obtain ⟨dn, hdn, en⟩ := List.any_eq_true.mp hrec
  have en' : dn.name = nm := beq_iff_eq.mp en
  obtain ⟨a', o', fd', c', T', t1, t2, t3, t4, t5, t6⟩ := G.T.tab dn hdn
  rw [en', m1] at t1
  cases t1
  rw [KX _ _ m2] at t2
  cases t2
  cases t3
  rw [m3] at t4
  cases t4
  have eT : T' = T := by
    obtain ⟨⟨o2, vs2, g1, g2, g3, g4⟩, _⟩ := t6
    rw [KX _ _ m4] at g1
    cases g1
    cases g3
    rw [m5] at g4
    cases g4
    rfl
  subst eT
  have hTs : T' ≠ cStatics := fun z => by
    obtain ⟨_, ⟨oc2, _, _, e1, e2, _⟩, _⟩ := G.T.nodigits
    rw [← z, t6.2] at e1; cases e1; cases e2
  obtain ⟨S, vs, h0, h1, h2, h3⟩ := args_split as' _ hwl hl2
  have hlen : vals.length = ps.length := h0.trans hl1
  refine enter_call (codeAny_mono (spec_callT (vs := vs) (R := IsAns (f as')) S h1 KX G.T.g G.T.b G.T.builtins G.T.nolimit hg hr t6 t5 m6 hTs G.T.bmain hF (fun s => hb s _ hlen) h2
    (fun H hO hS => hsp _ _ H as' vs hok hO (h3 _ H hS)) fun H e s' h => h) fun r' s' hq => ?_)
  obtain ⟨⟨u, v, H', rfl, rv, hok', ha⟩, g2, g3, g4⟩ := hq
  obtain ⟨as'', hrds⟩ := ans_reads (R := []) (cl := classAt s₀.heap) hok' rv ha
  exact ⟨.inl ⟨u, _, as'', rfl, fun _ => rfl, hrds, hpost, fun h => absurd h Bool.false_ne_true⟩, g2, g3, g4⟩
end L2
namespace Pf
open PySem L2 Roof
open Rp (num KeysOf HalfK hN)
section
variable {P : Program} {w : World} {K : PySem.W.Frag} {mg : Str → Option Value} {base : Heap}
theorem half_ne6 {l : Cells} (h : l ≠ []) {hs : List Int} (hk : HalfK hs l) : hs ≠ [] := by
  intro z
  obtain ⟨c, hc⟩ := List.exists_mem_of_ne_nil l h
  have : (2 * (c.2 : Int)) * 256 + 2 * (c.1 : Int) ∈ hs := (hk.mem _).mpr ⟨2 * (c.1 : Int), 2 * (c.2 : Int), ⟨by omega, by omega, by rw [show (2 * (c.1 : Int) / 2).toNat = c.1 by omega, show (2 * (c.2 : Int) / 2).toNat = c.2 by omega]; exact hc⟩, rfl⟩
  rw [z] at this; cases this
def spHighest (K : PySem.W.Frag) (T : Addr) : Sp := fun vs H Q _ => ∃ (a : Addr) (ns : List Int), vs = [.ref a] ∧ H T = some (.tbl #[]) ∧ TextAt K H a ns ∧ ∀ v H', IsAns (RoofA.answer (.highest (bytesOf ns))) v H' → Q v H'
theorem scHighest : FnScope ["t", "house", "halves", "point"] ["t"] (defScope sHighest) := ⟨rfl, rfl, rfl, by decide +kernel, rfl, by decide +kernel, by decide +kernel⟩
theorem ok_highest {f fT fH fP fO fE fN T : Addr} {fd fdT fdH fdP fdO fdE fdN : FuncData} (F : Fun K "highest" "highest" sHighest f fd) (cT : Cal P w K mg base 6 "house_of_text" ["t"] (spHouseT K) fT fdT) (cH : Cal P w K mg base 2 "half_cells" ["house"] spHalf fH fdH)
    (cP : Cal P w K mg base 6 "highest_point" ["halves"] (spHighP T) fP fdP) (cO : Cal P w K mg base 3 "height_over" ["halves", "point"] spHeightO fO fdO) (cE : Cal P w K mg base 1 "eastward" ["spot"] spEast fE fdE) (cN : Cal P w K mg base 1 "northward" ["spot"] spNorth fN fdN) :
    FnOk P w K mg base CX0 7 f fd ["t"] (spHighest K T) := by
  refine F.ok scHighest (fun vs H Q E h => ?_) (fun cdv A outer s H vs Q E hr h => ?_)
  · obtain ⟨a, ns, rfl, _⟩ := h
    rfl
  · obtain ⟨a, ns, rfl, hTb, hT, k⟩ := h
    have hr1 : Room 1 _ := hr.mono (by decide)
    have hr2 : Room 2 _ := hr.mono (by decide)
    have hr3 : Room 3 _ := hr.mono (by decide)
    refine ⟨_, pss_cons (ps_set (i := 1) scHighest.nd rfl (Or.inl rfl) (pe_call cT.ok hr rfl cT.at_ cT.kp cT.b .nil pass0 (pa_cons (pv 0) pa_nil)))
      (pss_cons (ps_if (pt_not (pt_truth (pv 1) (fun _ => rfl))) (pss_one (ps_ret (pe_lst (pa_cons (pe_un un_neg pe_int) pa_nil)))) pss_nil)
      (pss_cons (ps_set (i := 2) scHighest.nd rfl (Or.inl rfl) (pe_call cH.ok hr2 rfl cH.at_ cH.kp cH.b .nil pass0 (pa_cons (pv 1) pa_nil)))
      (pss_cons (ps_set (i := 3) scHighest.nd rfl (Or.inl rfl) (pe_call cP.ok hr rfl cP.at_ cP.kp cP.b .nil pass0 (pa_cons (pv 2) pa_nil)))
      (pss_one (ps_ret (pe_lst (pa_cons (pe_call cO.ok hr3 rfl cO.at_ cO.kp cO.b .nil pass0 (pa_cons (pv 2) (pa_cons (pv 3) pa_nil))) (pa_cons (pe_call cE.ok hr1 rfl cE.at_ cE.kp cE.b .nil pass0 (pa_cons (pv 3) pa_nil)) (pa_cons (pe_call cN.ok hr1 rfl cN.at_ cN.kp cN.b .nil pass0 (pa_cons (pv 3) pa_nil)) pa_nil))))))))), ?_⟩
    refine ⟨_, rfl, a, ns, rfl, hT, fun H1 d s1 n1 o1 => ?_⟩
    refine ⟨_, rfl, _, o1.truth, ?_⟩
    cases e1 : houseOf (bytesOf ns) with
    | none =>
      refine ifT (by decide) ?_
      exact ret_neg k 1 (by simp [RoofA.answer, RoofA.ofHouse, e1, RoofA.NOHOUSE]) _ _
    | some l =>
      refine ifF (by simp) ?_
      rw [e1] at o1
      refine ⟨_, rfl, d, l, rfl, o1.1, (Rp.house_low o1.2).2.2.2, fun H2 h hs s2 hh nh hat => ?_⟩
      have hT2 : H2 T = some (.tbl #[]) := s2 _ _ (s1 _ _ hTb)
      refine ⟨_, rfl, h, hs, l, rfl, hat, half_ne6 (house_ne o1.2) hat.hk, hT2, fun H3 m s3 hm hb1 hb2 => ?_⟩
      have hhT : h ≠ T := fun z => by rw [z, hT2] at hh; cases hh
      have hat3 : HalvesAt H3 h l hs := ⟨.inl (s3 _ _ hhT hh), hat.hk, hat.wi, hat.le⟩
      obtain ⟨X1, Y1, hX, hY, em, _⟩ := Rp.half_room hat.wi hat.hk hm
      refine ⟨_, rfl, _, rfl, h, hs, l, X1, Y1, by rw [em]; rfl, hat3, by omega, fun H4 s4 => ?_⟩
      refine ⟨_, rfl, m, rfl, _, rfl, m, rfl, le_line (by show 3 ≤ _; decide), fun q nq => k _ _ ⟨q, rfl, ?_⟩⟩
      have hh' := Rp.highest_eq hat.wi hat.hk hm hb1 hb2
      rw [upd_same]
      simp only [RoofA.answer, RoofA.ofHouse, e1, RoofA.told, RoofA.gridFor]
      rw [hh', ← em]
      have e1 : m % 256 = (((m % 256).toNat : Nat) : Int) := by omega
      have e2 : m / 256 = (((m / 256).toNat : Nat) : Int) := by omega
      simp only [List.map_cons, List.map_nil]
      rw [← e1, ← e2]
end
end Pf
namespace Pf
open PySem L2 Roof PySem.W
theorem long_iff {l : List Int} {n : Nat} {lo hi : Int} : RoofANeutral.long l n lo hi = true ↔ l.length ≤ n ∧ ∀ z ∈ l, lo ≤ z ∧ z ≤ hi := by
  unfold RoofANeutral.long
  rw [Bool.and_eq_true, decide_eq_true_iff, List.all_eq_true]
  refine and_congr Iff.rfl (forall_congr' fun z => imp_congr Iff.rfl ?_)
  rw [Bool.and_eq_true, decide_eq_true_iff, decide_eq_true_iff]
theorem asked_one {c : RoofANeutral.Call} (h : RoofANeutral.asked [c] = true) : RoofANeutral.asked1 c = true := by
  unfold RoofANeutral.asked at h
  simp only [Bool.and_eq_true, List.all_cons, List.all_nil, Bool.and_true] at h
  exact h.2
def TextOk (ns : List Int) : Prop := ns.length ≤ 4096 ∧ ∀ x ∈ ns, 0 ≤ x ∧ x ≤ 255
theorem TextOk.line {ns : List Int} (h : TextOk ns) : ns.length ≤ sizeLine := by rw [sizeLine_eq]; have := h.1; omega
end Pf
namespace Pf
open PySem L2 Roof PySem.W
def okHighest (as : List ArgW) : Prop := ∃ (t : List Int), as = [.l t] ∧ TextOk t
def fHighest : List ArgW → List Int
  | [.l t] => RoofA.answer (.highest (bytesOf t))
  | _ => []
theorem pre_highest : ∀ args, PySem.Challenge.rw_roofplans_s10_highest.pre args = true → ∃ as : List ArgW, args = as.map ArgW.data ∧ as.length = (["t"] : List Str).length ∧ (∀ a ∈ as, a.len ≤ sizeLine) ∧ okHighest as ∧ PySem.Challenge.rw_roofplans_s10_highest.post args (.list ((fHighest as).map .int)) = true := by
  intro args h
  have said : PySem.Challenge.rw_roofplans_s10_highest.wellSaid = true := by decide +kernel
  obtain ⟨⟨t, u_⟩, hw, hask, rfl⟩ := (OpenSpec.pre_iff said args).mp h
  have hq := asked_one (show RoofANeutral.asked [[[10], t]] = true from hask)
  have h_t : TextOk t := long_iff.mp hq
  refine ⟨[.l t], rfl, rfl, fun a ha' => ?_, ⟨t, rfl, h_t⟩, (OpenSpec.post_iff said hw _ []).mpr ?_⟩
  · simp only [List.mem_cons, List.not_mem_nil, or_false] at ha'
    rcases ha' with rfl
    · exact h_t.line
  · rfl
theorem sp_highest : ∀ (K : PySem.W.Frag) (T : Addr) (H : Hp) (as : List ArgW) (vs : List V), okHighest as → H T = some (.tbl #[]) → Paired (ArgWV K H) as vs → spHighest K T vs H (IsAns (fHighest as)) fun _ _ _ => False := by
  rintro K T H as vs ⟨t, rfl, h_t⟩ hT hp
  cases hp with
  | cons r_t hp =>
    cases hp
    obtain ⟨a_t, rfl, s_t⟩ := r_t
    exact ⟨a_t, t, rfl, hT, ⟨s_t, h_t⟩, fun v H' h => h⟩
end Pf
namespace Pf
open PySem L2 Roof
set_option maxHeartbeats 0 in
theorem all_mk {l : PySem.W.OpenSpec} {w : World} {K : PySem.W.Frag} {h : Heap} {mg : Str → Option Value} {fa : Addr} (X : K.In h) (N : h.Ns mainGlobals mg) (hfa : mg "highest" = some (.ref fa))
    {od_place an_place : Option Addr} {sl_place : Array (Option Value)} {oc_place kV_place dc_place pm_place cd_place ct_place : Value} {f_place : Addr}
    {od_eastward an_eastward : Option Addr} {sl_eastward : Array (Option Value)} {oc_eastward kV_eastward dc_eastward pm_eastward cd_eastward ct_eastward : Value} {f_eastward : Addr}
    {od_northward an_northward : Option Addr} {sl_northward : Array (Option Value)} {oc_northward kV_northward dc_northward pm_northward cd_northward ct_northward : Value} {f_northward : Addr}
    {od_beside an_beside : Option Addr} {sl_beside : Array (Option Value)} {oc_beside kV_beside dc_beside pm_beside cd_beside ct_beside : Value} {f_beside : Addr}
    {od_read_text an_read_text : Option Addr} {sl_read_text : Array (Option Value)} {oc_read_text kV_read_text dc_read_text pm_read_text cd_read_text ct_read_text : Value} {f_read_text : Addr}
    {od_wall_steps an_wall_steps : Option Addr} {sl_wall_steps : Array (Option Value)} {oc_wall_steps kV_wall_steps dc_wall_steps pm_wall_steps cd_wall_steps ct_wall_steps : Value} {f_wall_steps : Addr}
    {od_points_of_walk an_points_of_walk : Option Addr} {sl_points_of_walk : Array (Option Value)} {oc_points_of_walk kV_points_of_walk dc_points_of_walk pm_points_of_walk cd_points_of_walk ct_points_of_walk : Value} {f_points_of_walk : Addr}
    {od_corners_of_walk an_corners_of_walk : Option Addr} {sl_corners_of_walk : Array (Option Value)} {oc_corners_of_walk kV_corners_of_walk dc_corners_of_walk pm_corners_of_walk cd_corners_of_walk ct_corners_of_walk : Value} {f_corners_of_walk : Addr}
    {od_walk_rows an_walk_rows : Option Addr} {sl_walk_rows : Array (Option Value)} {oc_walk_rows kV_walk_rows dc_walk_rows pm_walk_rows cd_walk_rows ct_walk_rows : Value} {f_walk_rows : Addr}
    {od_meet_in_point_alone an_meet_in_point_alone : Option Addr} {sl_meet_in_point_alone : Array (Option Value)} {oc_meet_in_point_alone kV_meet_in_point_alone dc_meet_in_point_alone pm_meet_in_point_alone cd_meet_in_point_alone ct_meet_in_point_alone : Value} {f_meet_in_point_alone : Addr}
    {od_reached_from an_reached_from : Option Addr} {sl_reached_from : Array (Option Value)} {oc_reached_from kV_reached_from dc_reached_from pm_reached_from cd_reached_from ct_reached_from : Value} {f_reached_from : Addr}
    {od_is_house an_is_house : Option Addr} {sl_is_house : Array (Option Value)} {oc_is_house kV_is_house dc_is_house pm_is_house cd_is_house ct_is_house : Value} {f_is_house : Addr}
    {od_at_right_angles an_at_right_angles : Option Addr} {sl_at_right_angles : Array (Option Value)} {oc_at_right_angles kV_at_right_angles dc_at_right_angles pm_at_right_angles cd_at_right_angles ct_at_right_angles : Value} {f_at_right_angles : Addr}
    {od_odd_uprights an_odd_uprights : Option Addr} {sl_odd_uprights : Array (Option Value)} {oc_odd_uprights kV_odd_uprights dc_odd_uprights pm_odd_uprights cd_odd_uprights ct_odd_uprights : Value} {f_odd_uprights : Addr}
    {od_cells_within an_cells_within : Option Addr} {sl_cells_within : Array (Option Value)} {oc_cells_within kV_cells_within dc_cells_within pm_cells_within cd_cells_within ct_cells_within : Value} {f_cells_within : Addr}
    {od_house_of_lines an_house_of_lines : Option Addr} {sl_house_of_lines : Array (Option Value)} {oc_house_of_lines kV_house_of_lines dc_house_of_lines pm_house_of_lines cd_house_of_lines ct_house_of_lines : Value} {f_house_of_lines : Addr}
    {od_house_of_text an_house_of_text : Option Addr} {sl_house_of_text : Array (Option Value)} {oc_house_of_text kV_house_of_text dc_house_of_text pm_house_of_text cd_house_of_text ct_house_of_text : Value} {f_house_of_text : Addr}
    {od_four_from an_four_from : Option Addr} {sl_four_from : Array (Option Value)} {oc_four_from kV_four_from dc_four_from pm_four_from cd_four_from ct_four_from : Value} {f_four_from : Addr}
    {od_half_cells an_half_cells : Option Addr} {sl_half_cells : Array (Option Value)} {oc_half_cells kV_half_cells dc_half_cells pm_half_cells cd_half_cells ct_half_cells : Value} {f_half_cells : Addr}
    {od_border_within an_border_within : Option Addr} {sl_border_within : Array (Option Value)} {oc_border_within kV_border_within dc_border_within pm_border_within cd_border_within ct_border_within : Value} {f_border_within : Addr}
    {od_room_about an_room_about : Option Addr} {sl_room_about : Array (Option Value)} {oc_room_about kV_room_about dc_room_about pm_room_about cd_room_about ct_room_about : Value} {f_room_about : Addr}
    {od_height_over an_height_over : Option Addr} {sl_height_over : Array (Option Value)} {oc_height_over kV_height_over dc_height_over pm_height_over cd_height_over ct_height_over : Value} {f_height_over : Addr}
    {cc T0 : Addr} {occ : Value} {odc : Option Addr} {slc : Array (Option Value)} {vsc : Array Value}
    {od_highest_point an_highest_point : Option Addr} {sl_highest_point : Array (Option Value)} {oc_highest_point kV_highest_point dc_highest_point pm_highest_point ct_highest_point : Value} {f_highest_point : Addr}
    {od_highest an_highest : Option Addr} {sl_highest : Array (Option Value)} {oc_highest kV_highest dc_highest pm_highest cd_highest ct_highest : Value} {f_highest : Addr}
    {C : Addr}
    {od_init an_init : Option Addr} {sl_init : Array (Option Value)} {oc_init kV_init dc_init pm_init cd_init ct_init : Value} {f_init : Addr}
    {od_dig an_dig : Option Addr} {sl_dig : Array (Option Value)} {oc_dig kV_dig dc_dig pm_dig cd_dig ct_dig : Value} {f_dig : Addr}
    {od_com an_com : Option Addr} {sl_com : Array (Option Value)} {oc_com kV_com dc_com pm_com cd_com ct_com : Value} {f_com : Addr}
    {od_end an_end : Option Addr} {sl_end : Array (Option Value)} {oc_end kV_end dc_end pm_end cd_end ct_end : Value} {f_end : Addr}
    {od_bl an_bl : Option Addr} {sl_bl : Array (Option Value)} {oc_bl kV_bl dc_bl pm_bl cd_bl ct_bl : Value} {f_bl : Addr}
    {od_fe an_fe : Option Addr} {sl_fe : Array (Option Value)} {oc_fe kV_fe dc_fe pm_fe cd_fe ct_fe : Value} {f_fe : Addr}
    {od_take an_take : Option Addr} {sl_take : Array (Option Value)} {oc_take kV_take dc_take pm_take cd_take ct_take : Value} {f_take : Addr}
    {t_ROW : Tok}
    {t_LINE_FEED : Tok}
    {t_BLANK : Tok}
    {t_COMMA : Tok}
    {t_DIGIT_0 : Tok}
    {t_DIGIT_9 : Tok}
    {t_GREATEST : Tok}
    {t_LEAST_CORNERS : Tok}
    {t_MOST_CELLS : Tok}
    (a_place : PySem.W.nsIn K mainGlobals "place" = some (some (.ref f_place)))
    (l_place : K.lookup f_place = some ⟨oc_place, od_place, .func (PySem.W.fnOf "place" "place" (defArgs sPlace) (defBody sPlace) (defScope sPlace) .none kV_place dc_place pm_place an_place cd_place ct_place), sl_place⟩)
    (h_place : PySem.W.codeIn K cd_place "place" = true)
    (k_place : PySem.W.keepIn K (.ref f_place) = true)
    (a_eastward : PySem.W.nsIn K mainGlobals "eastward" = some (some (.ref f_eastward)))
    (l_eastward : K.lookup f_eastward = some ⟨oc_eastward, od_eastward, .func (PySem.W.fnOf "eastward" "eastward" (defArgs sEast) (defBody sEast) (defScope sEast) .none kV_eastward dc_eastward pm_eastward an_eastward cd_eastward ct_eastward), sl_eastward⟩)
    (h_eastward : PySem.W.codeIn K cd_eastward "eastward" = true)
    (k_eastward : PySem.W.keepIn K (.ref f_eastward) = true)
    (a_northward : PySem.W.nsIn K mainGlobals "northward" = some (some (.ref f_northward)))
    (l_northward : K.lookup f_northward = some ⟨oc_northward, od_northward, .func (PySem.W.fnOf "northward" "northward" (defArgs sNorth) (defBody sNorth) (defScope sNorth) .none kV_northward dc_northward pm_northward an_northward cd_northward ct_northward), sl_northward⟩)
    (h_northward : PySem.W.codeIn K cd_northward "northward" = true)
    (k_northward : PySem.W.keepIn K (.ref f_northward) = true)
    (a_beside : PySem.W.nsIn K mainGlobals "beside" = some (some (.ref f_beside)))
    (l_beside : K.lookup f_beside = some ⟨oc_beside, od_beside, .func (PySem.W.fnOf "beside" "beside" (defArgs sBeside) (defBody sBeside) (defScope sBeside) .none kV_beside dc_beside pm_beside an_beside cd_beside ct_beside), sl_beside⟩)
    (h_beside : PySem.W.codeIn K cd_beside "beside" = true)
    (k_beside : PySem.W.keepIn K (.ref f_beside) = true)
    (a_read_text : PySem.W.nsIn K mainGlobals "read_text" = some (some (.ref f_read_text)))
    (l_read_text : K.lookup f_read_text = some ⟨oc_read_text, od_read_text, .func (PySem.W.fnOf "read_text" "read_text" (defArgs sRead) (defBody sRead) (defScope sRead) .none kV_read_text dc_read_text pm_read_text an_read_text cd_read_text ct_read_text), sl_read_text⟩)
    (h_read_text : PySem.W.codeIn K cd_read_text "read_text" = true)
    (k_read_text : PySem.W.keepIn K (.ref f_read_text) = true)
    (a_wall_steps : PySem.W.nsIn K mainGlobals "wall_steps" = some (some (.ref f_wall_steps)))
    (l_wall_steps : K.lookup f_wall_steps = some ⟨oc_wall_steps, od_wall_steps, .func (PySem.W.fnOf "wall_steps" "wall_steps" (defArgs sSteps) (defBody sSteps) (defScope sSteps) .none kV_wall_steps dc_wall_steps pm_wall_steps an_wall_steps cd_wall_steps ct_wall_steps), sl_wall_steps⟩)
    (h_wall_steps : PySem.W.codeIn K cd_wall_steps "wall_steps" = true)
    (k_wall_steps : PySem.W.keepIn K (.ref f_wall_steps) = true)
    (a_points_of_walk : PySem.W.nsIn K mainGlobals "points_of_walk" = some (some (.ref f_points_of_walk)))
    (l_points_of_walk : K.lookup f_points_of_walk = some ⟨oc_points_of_walk, od_points_of_walk, .func (PySem.W.fnOf "points_of_walk" "points_of_walk" (defArgs sPoints) (defBody sPoints) (defScope sPoints) .none kV_points_of_walk dc_points_of_walk pm_points_of_walk an_points_of_walk cd_points_of_walk ct_points_of_walk), sl_points_of_walk⟩)
    (h_points_of_walk : PySem.W.codeIn K cd_points_of_walk "points_of_walk" = true)
    (k_points_of_walk : PySem.W.keepIn K (.ref f_points_of_walk) = true)
    (a_corners_of_walk : PySem.W.nsIn K mainGlobals "corners_of_walk" = some (some (.ref f_corners_of_walk)))
    (l_corners_of_walk : K.lookup f_corners_of_walk = some ⟨oc_corners_of_walk, od_corners_of_walk, .func (PySem.W.fnOf "corners_of_walk" "corners_of_walk" (defArgs sCorners) (defBody sCorners) (defScope sCorners) .none kV_corners_of_walk dc_corners_of_walk pm_corners_of_walk an_corners_of_walk cd_corners_of_walk ct_corners_of_walk), sl_corners_of_walk⟩)
    (h_corners_of_walk : PySem.W.codeIn K cd_corners_of_walk "corners_of_walk" = true)
    (k_corners_of_walk : PySem.W.keepIn K (.ref f_corners_of_walk) = true)
    (a_walk_rows : PySem.W.nsIn K mainGlobals "walk_rows" = some (some (.ref f_walk_rows)))
    (l_walk_rows : K.lookup f_walk_rows = some ⟨oc_walk_rows, od_walk_rows, .func (PySem.W.fnOf "walk_rows" "walk_rows" (defArgs sRows) (defBody sRows) (defScope sRows) .none kV_walk_rows dc_walk_rows pm_walk_rows an_walk_rows cd_walk_rows ct_walk_rows), sl_walk_rows⟩)
    (h_walk_rows : PySem.W.codeIn K cd_walk_rows "walk_rows" = true)
    (k_walk_rows : PySem.W.keepIn K (.ref f_walk_rows) = true)
    (a_meet_in_point_alone : PySem.W.nsIn K mainGlobals "meet_in_point_alone" = some (some (.ref f_meet_in_point_alone)))
    (l_meet_in_point_alone : K.lookup f_meet_in_point_alone = some ⟨oc_meet_in_point_alone, od_meet_in_point_alone, .func (PySem.W.fnOf "meet_in_point_alone" "meet_in_point_alone" (defArgs sMeet) (defBody sMeet) (defScope sMeet) .none kV_meet_in_point_alone dc_meet_in_point_alone pm_meet_in_point_alone an_meet_in_point_alone cd_meet_in_point_alone ct_meet_in_point_alone), sl_meet_in_point_alone⟩)
    (h_meet_in_point_alone : PySem.W.codeIn K cd_meet_in_point_alone "meet_in_point_alone" = true)
    (k_meet_in_point_alone : PySem.W.keepIn K (.ref f_meet_in_point_alone) = true)
    (a_reached_from : PySem.W.nsIn K mainGlobals "reached_from" = some (some (.ref f_reached_from)))
    (l_reached_from : K.lookup f_reached_from = some ⟨oc_reached_from, od_reached_from, .func (PySem.W.fnOf "reached_from" "reached_from" (defArgs sReached) (defBody sReached) (defScope sReached) .none kV_reached_from dc_reached_from pm_reached_from an_reached_from cd_reached_from ct_reached_from), sl_reached_from⟩)
    (h_reached_from : PySem.W.codeIn K cd_reached_from "reached_from" = true)
    (k_reached_from : PySem.W.keepIn K (.ref f_reached_from) = true)
    (a_is_house : PySem.W.nsIn K mainGlobals "is_house" = some (some (.ref f_is_house)))
    (l_is_house : K.lookup f_is_house = some ⟨oc_is_house, od_is_house, .func (PySem.W.fnOf "is_house" "is_house" (defArgs sIsHouse) (defBody sIsHouse) (defScope sIsHouse) .none kV_is_house dc_is_house pm_is_house an_is_house cd_is_house ct_is_house), sl_is_house⟩)
    (h_is_house : PySem.W.codeIn K cd_is_house "is_house" = true)
    (k_is_house : PySem.W.keepIn K (.ref f_is_house) = true)
    (a_at_right_angles : PySem.W.nsIn K mainGlobals "at_right_angles" = some (some (.ref f_at_right_angles)))
    (l_at_right_angles : K.lookup f_at_right_angles = some ⟨oc_at_right_angles, od_at_right_angles, .func (PySem.W.fnOf "at_right_angles" "at_right_angles" (defArgs sRight) (defBody sRight) (defScope sRight) .none kV_at_right_angles dc_at_right_angles pm_at_right_angles an_at_right_angles cd_at_right_angles ct_at_right_angles), sl_at_right_angles⟩)
    (h_at_right_angles : PySem.W.codeIn K cd_at_right_angles "at_right_angles" = true)
    (k_at_right_angles : PySem.W.keepIn K (.ref f_at_right_angles) = true)
    (a_odd_uprights : PySem.W.nsIn K mainGlobals "odd_uprights" = some (some (.ref f_odd_uprights)))
    (l_odd_uprights : K.lookup f_odd_uprights = some ⟨oc_odd_uprights, od_odd_uprights, .func (PySem.W.fnOf "odd_uprights" "odd_uprights" (defArgs sOdd) (defBody sOdd) (defScope sOdd) .none kV_odd_uprights dc_odd_uprights pm_odd_uprights an_odd_uprights cd_odd_uprights ct_odd_uprights), sl_odd_uprights⟩)
    (h_odd_uprights : PySem.W.codeIn K cd_odd_uprights "odd_uprights" = true)
    (k_odd_uprights : PySem.W.keepIn K (.ref f_odd_uprights) = true)
    (a_cells_within : PySem.W.nsIn K mainGlobals "cells_within" = some (some (.ref f_cells_within)))
    (l_cells_within : K.lookup f_cells_within = some ⟨oc_cells_within, od_cells_within, .func (PySem.W.fnOf "cells_within" "cells_within" (defArgs sWithin) (defBody sWithin) (defScope sWithin) .none kV_cells_within dc_cells_within pm_cells_within an_cells_within cd_cells_within ct_cells_within), sl_cells_within⟩)
    (h_cells_within : PySem.W.codeIn K cd_cells_within "cells_within" = true)
    (k_cells_within : PySem.W.keepIn K (.ref f_cells_within) = true)
    (a_house_of_lines : PySem.W.nsIn K mainGlobals "house_of_lines" = some (some (.ref f_house_of_lines)))
    (l_house_of_lines : K.lookup f_house_of_lines = some ⟨oc_house_of_lines, od_house_of_lines, .func (PySem.W.fnOf "house_of_lines" "house_of_lines" (defArgs sHouseL) (defBody sHouseL) (defScope sHouseL) .none kV_house_of_lines dc_house_of_lines pm_house_of_lines an_house_of_lines cd_house_of_lines ct_house_of_lines), sl_house_of_lines⟩)
    (h_house_of_lines : PySem.W.codeIn K cd_house_of_lines "house_of_lines" = true)
    (k_house_of_lines : PySem.W.keepIn K (.ref f_house_of_lines) = true)
    (a_house_of_text : PySem.W.nsIn K mainGlobals "house_of_text" = some (some (.ref f_house_of_text)))
    (l_house_of_text : K.lookup f_house_of_text = some ⟨oc_house_of_text, od_house_of_text, .func (PySem.W.fnOf "house_of_text" "house_of_text" (defArgs sHouseT) (defBody sHouseT) (defScope sHouseT) .none kV_house_of_text dc_house_of_text pm_house_of_text an_house_of_text cd_house_of_text ct_house_of_text), sl_house_of_text⟩)
    (h_house_of_text : PySem.W.codeIn K cd_house_of_text "house_of_text" = true)
    (k_house_of_text : PySem.W.keepIn K (.ref f_house_of_text) = true)
    (a_four_from : PySem.W.nsIn K mainGlobals "four_from" = some (some (.ref f_four_from)))
    (l_four_from : K.lookup f_four_from = some ⟨oc_four_from, od_four_from, .func (PySem.W.fnOf "four_from" "four_from" (defArgs sFour) (defBody sFour) (defScope sFour) .none kV_four_from dc_four_from pm_four_from an_four_from cd_four_from ct_four_from), sl_four_from⟩)
    (h_four_from : PySem.W.codeIn K cd_four_from "four_from" = true)
    (k_four_from : PySem.W.keepIn K (.ref f_four_from) = true)
    (a_half_cells : PySem.W.nsIn K mainGlobals "half_cells" = some (some (.ref f_half_cells)))
    (l_half_cells : K.lookup f_half_cells = some ⟨oc_half_cells, od_half_cells, .func (PySem.W.fnOf "half_cells" "half_cells" (defArgs sHalf) (defBody sHalf) (defScope sHalf) .none kV_half_cells dc_half_cells pm_half_cells an_half_cells cd_half_cells ct_half_cells), sl_half_cells⟩)
    (h_half_cells : PySem.W.codeIn K cd_half_cells "half_cells" = true)
    (k_half_cells : PySem.W.keepIn K (.ref f_half_cells) = true)
    (a_border_within : PySem.W.nsIn K mainGlobals "border_within" = some (some (.ref f_border_within)))
    (l_border_within : K.lookup f_border_within = some ⟨oc_border_within, od_border_within, .func (PySem.W.fnOf "border_within" "border_within" (defArgs sBorder) (defBody sBorder) (defScope sBorder) .none kV_border_within dc_border_within pm_border_within an_border_within cd_border_within ct_border_within), sl_border_within⟩)
    (h_border_within : PySem.W.codeIn K cd_border_within "border_within" = true)
    (k_border_within : PySem.W.keepIn K (.ref f_border_within) = true)
    (a_room_about : PySem.W.nsIn K mainGlobals "room_about" = some (some (.ref f_room_about)))
    (l_room_about : K.lookup f_room_about = some ⟨oc_room_about, od_room_about, .func (PySem.W.fnOf "room_about" "room_about" (defArgs sRoom) (defBody sRoom) (defScope sRoom) .none kV_room_about dc_room_about pm_room_about an_room_about cd_room_about ct_room_about), sl_room_about⟩)
    (h_room_about : PySem.W.codeIn K cd_room_about "room_about" = true)
    (k_room_about : PySem.W.keepIn K (.ref f_room_about) = true)
    (a_height_over : PySem.W.nsIn K mainGlobals "height_over" = some (some (.ref f_height_over)))
    (l_height_over : K.lookup f_height_over = some ⟨oc_height_over, od_height_over, .func (PySem.W.fnOf "height_over" "height_over" (defArgs sHeightO) (defBody sHeightO) (defScope sHeightO) .none kV_height_over dc_height_over pm_height_over an_height_over cd_height_over ct_height_over), sl_height_over⟩)
    (h_height_over : PySem.W.codeIn K cd_height_over "height_over" = true)
    (k_height_over : PySem.W.keepIn K (.ref f_height_over) = true)
    (a_highest_point : PySem.W.nsIn K mainGlobals "highest_point" = some (some (.ref f_highest_point)))
    (l_highest_point : K.lookup f_highest_point = some ⟨oc_highest_point, od_highest_point, .func (PySem.W.fnOf "highest_point" "highest_point" (defArgs sHighP) (defBody sHighP) (defScope sHighP) .none kV_highest_point dc_highest_point pm_highest_point an_highest_point (.ref cc) ct_highest_point), sl_highest_point⟩)
    (h_highest_point : PySem.W.codeIn K (.ref cc) "highest_point" = true)
    (k_highest_point : PySem.W.keepIn K (.ref f_highest_point) = true)
    (a_highest : PySem.W.nsIn K mainGlobals "highest" = some (some (.ref f_highest)))
    (l_highest : K.lookup f_highest = some ⟨oc_highest, od_highest, .func (PySem.W.fnOf "highest" "highest" (defArgs sHighest) (defBody sHighest) (defScope sHighest) .none kV_highest dc_highest pm_highest an_highest cd_highest ct_highest), sl_highest⟩)
    (h_highest : PySem.W.codeIn K cd_highest "highest" = true)
    (k_highest : PySem.W.keepIn K (.ref f_highest) = true)
    (a_C : PySem.W.nsIn K mainGlobals "Reader" = some (some (.ref C)))
    (a_init : PySem.W.findIn K (.ref C) "__init__" = some (some (.ref f_init)))
    (l_init : K.lookup f_init = some ⟨oc_init, od_init, .func (PySem.W.fnOf "__init__" "Reader.__init__" (defArgs sInit) (defBody sInit) (defScope sInit) .none kV_init dc_init pm_init an_init cd_init ct_init), sl_init⟩)
    (h_init : PySem.W.codeIn K cd_init "Reader.__init__" = true)
    (k_init : PySem.W.keepIn K (.ref f_init) = true)
    (i_init : PySem.W.isFn K (.ref f_init) = true)
    (a_dig : PySem.W.findIn K (.ref C) "take_digit" = some (some (.ref f_dig)))
    (l_dig : K.lookup f_dig = some ⟨oc_dig, od_dig, .func (PySem.W.fnOf "take_digit" "Reader.take_digit" (defArgs sDigit) (defBody sDigit) (defScope sDigit) .none kV_dig dc_dig pm_dig an_dig cd_dig ct_dig), sl_dig⟩)
    (h_dig : PySem.W.codeIn K cd_dig "Reader.take_digit" = true)
    (k_dig : PySem.W.keepIn K (.ref f_dig) = true)
    (i_dig : PySem.W.isFn K (.ref f_dig) = true)
    (a_com : PySem.W.findIn K (.ref C) "take_comma" = some (some (.ref f_com)))
    (l_com : K.lookup f_com = some ⟨oc_com, od_com, .func (PySem.W.fnOf "take_comma" "Reader.take_comma" (defArgs sComma) (defBody sComma) (defScope sComma) .none kV_com dc_com pm_com an_com cd_com ct_com), sl_com⟩)
    (h_com : PySem.W.codeIn K cd_com "Reader.take_comma" = true)
    (k_com : PySem.W.keepIn K (.ref f_com) = true)
    (i_com : PySem.W.isFn K (.ref f_com) = true)
    (a_end : PySem.W.findIn K (.ref C) "end_corner" = some (some (.ref f_end)))
    (l_end : K.lookup f_end = some ⟨oc_end, od_end, .func (PySem.W.fnOf "end_corner" "Reader.end_corner" (defArgs sEnd) (defBody sEnd) (defScope sEnd) .none kV_end dc_end pm_end an_end cd_end ct_end), sl_end⟩)
    (h_end : PySem.W.codeIn K cd_end "Reader.end_corner" = true)
    (k_end : PySem.W.keepIn K (.ref f_end) = true)
    (i_end : PySem.W.isFn K (.ref f_end) = true)
    (a_bl : PySem.W.findIn K (.ref C) "take_blank" = some (some (.ref f_bl)))
    (l_bl : K.lookup f_bl = some ⟨oc_bl, od_bl, .func (PySem.W.fnOf "take_blank" "Reader.take_blank" (defArgs sBlank) (defBody sBlank) (defScope sBlank) .none kV_bl dc_bl pm_bl an_bl cd_bl ct_bl), sl_bl⟩)
    (h_bl : PySem.W.codeIn K cd_bl "Reader.take_blank" = true)
    (k_bl : PySem.W.keepIn K (.ref f_bl) = true)
    (i_bl : PySem.W.isFn K (.ref f_bl) = true)
    (a_fe : PySem.W.findIn K (.ref C) "take_line_feed" = some (some (.ref f_fe)))
    (l_fe : K.lookup f_fe = some ⟨oc_fe, od_fe, .func (PySem.W.fnOf "take_line_feed" "Reader.take_line_feed" (defArgs sFeed) (defBody sFeed) (defScope sFeed) .none kV_fe dc_fe pm_fe an_fe cd_fe ct_fe), sl_fe⟩)
    (h_fe : PySem.W.codeIn K cd_fe "Reader.take_line_feed" = true)
    (k_fe : PySem.W.keepIn K (.ref f_fe) = true)
    (i_fe : PySem.W.isFn K (.ref f_fe) = true)
    (a_take : PySem.W.findIn K (.ref C) "take" = some (some (.ref f_take)))
    (l_take : K.lookup f_take = some ⟨oc_take, od_take, .func (PySem.W.fnOf "take" "Reader.take" (defArgs sTake) (defBody sTake) (defScope sTake) .none kV_take dc_take pm_take an_take cd_take ct_take), sl_take⟩)
    (h_take : PySem.W.codeIn K cd_take "Reader.take" = true)
    (k_take : PySem.W.keepIn K (.ref f_take) = true)
    (i_take : PySem.W.isFn K (.ref f_take) = true)
    (pgC : PySem.W.plainGet K C Str.empty = true)
    (hdC : PySem.W.hasDictIn K C = true)
    (poC : PySem.W.plainOver K C = true)
    (saC : PySem.W.findIn K (.ref C) "__setattr__" = some (some (.builtin "object.__setattr__")))
    (mkC : PySem.W.makesIn K C = true)
    (kcC : PySem.W.keepIn K (.ref C) = true)
    (n_lines : PySem.W.findIn K (.ref C) "lines" = some none)
    (n_corners : PySem.W.findIn K (.ref C) "corners" = some none)
    (n_x : PySem.W.findIn K (.ref C) "x" = some none)
    (n_number : PySem.W.findIn K (.ref C) "number" = some none)
    (n_wrong : PySem.W.findIn K (.ref C) "wrong" = some none)
    (a_ROW : PySem.W.nsIn K mainGlobals "ROW" = some (some (.int 256 t_ROW)))
    (a_LINE_FEED : PySem.W.nsIn K mainGlobals "LINE_FEED" = some (some (.int 10 t_LINE_FEED)))
    (a_BLANK : PySem.W.nsIn K mainGlobals "BLANK" = some (some (.int 32 t_BLANK)))
    (a_COMMA : PySem.W.nsIn K mainGlobals "COMMA" = some (some (.int 44 t_COMMA)))
    (a_DIGIT_0 : PySem.W.nsIn K mainGlobals "DIGIT_0" = some (some (.int 48 t_DIGIT_0)))
    (a_DIGIT_9 : PySem.W.nsIn K mainGlobals "DIGIT_9" = some (some (.int 57 t_DIGIT_9)))
    (a_GREATEST : PySem.W.nsIn K mainGlobals "GREATEST" = some (some (.int 64 t_GREATEST)))
    (a_LEAST_CORNERS : PySem.W.nsIn K mainGlobals "LEAST_CORNERS" = some (some (.int 4 t_LEAST_CORNERS)))
    (a_MOST_CELLS : PySem.W.nsIn K mainGlobals "MOST_CELLS" = some (some (.int 256 t_MOST_CELLS)))
    (l_cc : K.lookup cc = some ⟨occ, odc, .fields vsc, slc⟩)
    (v_cc : vsc[11]? = some (.ref T0))
    (n_T : K.lookup T0 = none)
    (a_len : PySem.W.nsIn K mainGlobals "len" = some none)
    (a_enumerate : PySem.W.nsIn K mainGlobals "enumerate" = some none)
    (a_range : PySem.W.nsIn K mainGlobals "range" = some none)
    (a_sorted : PySem.W.nsIn K mainGlobals "sorted" = some none)
    (a_min : PySem.W.nsIn K mainGlobals "min" = some none)
    (a_max : PySem.W.nsIn K mainGlobals "max" = some none)
    (a_sum : PySem.W.nsIn K mainGlobals "sum" = some none)
    (a_all : PySem.W.nsIn K mainGlobals "all" = some none)
    (a_any : PySem.W.nsIn K mainGlobals "any" = some none)
    (a_dict : PySem.W.nsIn K mainGlobals "dict" = some none)
    : ∃ (fd fdN : FuncData) (fN c T : Addr) (oc occ : Value) (od odc : Option Addr) (sl slc : Array (Option Value)) (vsc : Array Value), (mg "highest_point" = some (.ref fN) ∧ K.lookup fN = some ⟨oc, od, .func fdN, sl⟩ ∧ fdN.code = .ref c ∧ K.lookup c = some ⟨occ, odc, .fields vsc, slc⟩ ∧ vsc[11]? = some (.ref T) ∧ K.lookup T = none) ∧ (∀ (s : Shared) (us : List Value), us.length = (["t"] : List Str).length → BindsTo s fd ⟨us, []⟩ ((["t"] : List Str).zip us)) ∧ ∀ base : Heap, K.In base → base.Ns mainGlobals mg → Tb base mg c T → FnOk l.prog w K mg base CX0 7 fa fd (["t"] : List Str) (spHighest K T) := by
  have e := hfa.symm.trans (PySem.W.mg_of X N a_highest)
  cases e
  have G : Glo mg := ⟨⟨_, PySem.W.mg_of X N a_ROW⟩, ⟨_, PySem.W.mg_of X N a_LINE_FEED⟩, ⟨_, PySem.W.mg_of X N a_BLANK⟩, ⟨_, PySem.W.mg_of X N a_COMMA⟩, ⟨_, PySem.W.mg_of X N a_DIGIT_0⟩, ⟨_, PySem.W.mg_of X N a_MOST_CELLS⟩, PySem.W.mg_none_of X N a_len, PySem.W.mg_none_of X N a_enumerate, PySem.W.mg_none_of X N a_range, PySem.W.mg_none_of X N a_sorted, PySem.W.mg_none_of X N a_min, PySem.W.mg_none_of X N a_max, PySem.W.mg_none_of X N a_sum, PySem.W.mg_none_of X N a_all, PySem.W.mg_none_of X N a_any, PySem.W.mg_none_of X N a_dict⟩
  have GR : GRd mg := ⟨⟨_, PySem.W.mg_of X N a_DIGIT_9⟩, ⟨_, PySem.W.mg_of X N a_GREATEST⟩, ⟨_, PySem.W.mg_of X N a_LEAST_CORNERS⟩⟩
  have T : Rdr K mg C := ⟨⟨pgC, hdC, poC, saC⟩, n_lines, n_corners, n_x, n_number, n_wrong, PySem.W.mg_of X N a_C⟩
  have F_place := fun_mk (st := sPlace) l_place h_place k_place
  have F_eastward := fun_mk (st := sEast) l_eastward h_eastward k_eastward
  have F_northward := fun_mk (st := sNorth) l_northward h_northward k_northward
  have F_beside := fun_mk (st := sBeside) l_beside h_beside k_beside
  have F_read_text := fun_mk (st := sRead) l_read_text h_read_text k_read_text
  have F_wall_steps := fun_mk (st := sSteps) l_wall_steps h_wall_steps k_wall_steps
  have F_points_of_walk := fun_mk (st := sPoints) l_points_of_walk h_points_of_walk k_points_of_walk
  have F_corners_of_walk := fun_mk (st := sCorners) l_corners_of_walk h_corners_of_walk k_corners_of_walk
  have F_walk_rows := fun_mk (st := sRows) l_walk_rows h_walk_rows k_walk_rows
  have F_meet_in_point_alone := fun_mk (st := sMeet) l_meet_in_point_alone h_meet_in_point_alone k_meet_in_point_alone
  have F_reached_from := fun_mk (st := sReached) l_reached_from h_reached_from k_reached_from
  have F_is_house := fun_mk (st := sIsHouse) l_is_house h_is_house k_is_house
  have F_at_right_angles := fun_mk (st := sRight) l_at_right_angles h_at_right_angles k_at_right_angles
  have F_odd_uprights := fun_mk (st := sOdd) l_odd_uprights h_odd_uprights k_odd_uprights
  have F_cells_within := fun_mk (st := sWithin) l_cells_within h_cells_within k_cells_within
  have F_house_of_lines := fun_mk (st := sHouseL) l_house_of_lines h_house_of_lines k_house_of_lines
  have F_house_of_text := fun_mk (st := sHouseT) l_house_of_text h_house_of_text k_house_of_text
  have F_four_from := fun_mk (st := sFour) l_four_from h_four_from k_four_from
  have F_half_cells := fun_mk (st := sHalf) l_half_cells h_half_cells k_half_cells
  have F_border_within := fun_mk (st := sBorder) l_border_within h_border_within k_border_within
  have F_room_about := fun_mk (st := sRoom) l_room_about h_room_about k_room_about
  have F_height_over := fun_mk (st := sHeightO) l_height_over h_height_over k_height_over
  have F_highest_point := fun_mk (st := sHighP) l_highest_point h_highest_point k_highest_point
  have F_highest := fun_mk (st := sHighest) l_highest h_highest k_highest
  have F_init := fun_mk (st := sInit) l_init h_init k_init
  have F_dig := fun_mk (st := sDigit) l_dig h_dig k_dig
  have F_com := fun_mk (st := sComma) l_com h_com k_com
  have F_end := fun_mk (st := sEnd) l_end h_end k_end
  have F_bl := fun_mk (st := sBlank) l_bl h_bl k_bl
  have F_fe := fun_mk (st := sFeed) l_fe h_fe k_fe
  have F_take := fun_mk (st := sTake) l_take h_take k_take
  have b_place := F_place.binds (ps := (["x", "y"] : List Str)) fun _ _ _ _ _ _ us hl => match us, hl with | [_, _], _ => rfl
  have b_eastward := F_eastward.binds (ps := (["spot"] : List Str)) fun _ _ _ _ _ _ us hl => match us, hl with | [_], _ => rfl
  have b_northward := F_northward.binds (ps := (["spot"] : List Str)) fun _ _ _ _ _ _ us hl => match us, hl with | [_], _ => rfl
  have b_beside := F_beside.binds (ps := (["spot"] : List Str)) fun _ _ _ _ _ _ us hl => match us, hl with | [_], _ => rfl
  have b_read_text := F_read_text.binds (ps := (["t"] : List Str)) fun _ _ _ _ _ _ us hl => match us, hl with | [_], _ => rfl
  have b_wall_steps := F_wall_steps.binds (ps := (["house"] : List Str)) fun _ _ _ _ _ _ us hl => match us, hl with | [_], _ => rfl
  have b_points_of_walk := F_points_of_walk.binds (ps := (["steps", "first"] : List Str)) fun _ _ _ _ _ _ us hl => match us, hl with | [_, _], _ => rfl
  have b_corners_of_walk := F_corners_of_walk.binds (ps := (["steps", "points"] : List Str)) fun _ _ _ _ _ _ us hl => match us, hl with | [_, _], _ => rfl
  have b_walk_rows := F_walk_rows.binds (ps := (["house"] : List Str)) fun _ _ _ _ _ _ us hl => match us, hl with | [_], _ => rfl
  have b_meet_in_point_alone := F_meet_in_point_alone.binds (ps := (["house"] : List Str)) fun _ _ _ _ _ _ us hl => match us, hl with | [_], _ => rfl
  have b_reached_from := F_reached_from.binds (ps := (["spots", "first"] : List Str)) fun _ _ _ _ _ _ us hl => match us, hl with | [_, _], _ => rfl
  have b_is_house := F_is_house.binds (ps := (["house"] : List Str)) fun _ _ _ _ _ _ us hl => match us, hl with | [_], _ => rfl
  have b_at_right_angles := F_at_right_angles.binds (ps := (["lines"] : List Str)) fun _ _ _ _ _ _ us hl => match us, hl with | [_], _ => rfl
  have b_odd_uprights := F_odd_uprights.binds (ps := (["lines"] : List Str)) fun _ _ _ _ _ _ us hl => match us, hl with | [_], _ => rfl
  have b_cells_within := F_cells_within.binds (ps := (["lines"] : List Str)) fun _ _ _ _ _ _ us hl => match us, hl with | [_], _ => rfl
  have b_house_of_lines := F_house_of_lines.binds (ps := (["lines"] : List Str)) fun _ _ _ _ _ _ us hl => match us, hl with | [_], _ => rfl
  have b_house_of_text := F_house_of_text.binds (ps := (["t"] : List Str)) fun _ _ _ _ _ _ us hl => match us, hl with | [_], _ => rfl
  have b_four_from := F_four_from.binds (ps := (["spot"] : List Str)) fun _ _ _ _ _ _ us hl => match us, hl with | [_], _ => rfl
  have b_half_cells := F_half_cells.binds (ps := (["house"] : List Str)) fun _ _ _ _ _ _ us hl => match us, hl with | [_], _ => rfl
  have b_border_within := F_border_within.binds (ps := (["halves", "least", "side"] : List Str)) fun _ _ _ _ _ _ us hl => match us, hl with | [_, _, _], _ => rfl
  have b_room_about := F_room_about.binds (ps := (["halves", "least", "side"] : List Str)) fun _ _ _ _ _ _ us hl => match us, hl with | [_, _, _], _ => rfl
  have b_height_over := F_height_over.binds (ps := (["halves", "point"] : List Str)) fun _ _ _ _ _ _ us hl => match us, hl with | [_, _], _ => rfl
  have b_highest_point := F_highest_point.binds (ps := (["halves"] : List Str)) fun _ _ _ _ _ _ us hl => match us, hl with | [_], _ => rfl
  have b_init := F_init.binds (ps := (["self"] : List Str)) fun _ _ _ _ _ _ us hl => match us, hl with | [_], _ => rfl
  have b_dig := F_dig.binds (ps := (["self", "digit"] : List Str)) fun _ _ _ _ _ _ us hl => match us, hl with | [_, _], _ => rfl
  have b_com := F_com.binds (ps := (["self"] : List Str)) fun _ _ _ _ _ _ us hl => match us, hl with | [_], _ => rfl
  have b_end := F_end.binds (ps := (["self"] : List Str)) fun _ _ _ _ _ _ us hl => match us, hl with | [_], _ => rfl
  have b_bl := F_bl.binds (ps := (["self"] : List Str)) fun _ _ _ _ _ _ us hl => match us, hl with | [_], _ => rfl
  have b_fe := F_fe.binds (ps := (["self"] : List Str)) fun _ _ _ _ _ _ us hl => match us, hl with | [_], _ => rfl
  have b_take := F_take.binds (ps := (["self", "byte"] : List Str)) fun _ _ _ _ _ _ us hl => match us, hl with | [_, _], _ => rfl
  refine ⟨(PySem.W.fnOf "highest" "highest" (defArgs sHighest) (defBody sHighest) (defScope sHighest) .none kV_highest dc_highest pm_highest an_highest cd_highest ct_highest), _, _, _, _, _, _, _, _, _, _, _, ⟨PySem.W.mg_of X N a_highest_point, l_highest_point, rfl, l_cc, v_cc, n_T⟩, fun s us hl => match us, hl with | [_], _ => .of_eq rfl, fun base _ _ B => ?_⟩
  have c_place : Cal l.prog w K mg base 1 "place" (["x", "y"] : List Str) spPlace f_place _ := ⟨PySem.W.mg_of X N a_place, k_place, b_place, ok_place F_place G⟩
  have c_eastward : Cal l.prog w K mg base 1 "eastward" (["spot"] : List Str) spEast f_eastward _ := ⟨PySem.W.mg_of X N a_eastward, k_eastward, b_eastward, ok_east F_eastward G⟩
  have c_northward : Cal l.prog w K mg base 1 "northward" (["spot"] : List Str) spNorth f_northward _ := ⟨PySem.W.mg_of X N a_northward, k_northward, b_northward, ok_north F_northward G⟩
  have c_beside : Cal l.prog w K mg base 1 "beside" (["spot"] : List Str) spBeside f_beside _ := ⟨PySem.W.mg_of X N a_beside, k_beside, b_beside, ok_beside F_beside G⟩
  have M : Mk K C f_init := ⟨mkC, a_init, i_init, kcC⟩
  have o_init : FnOk l.prog w K mg base CX0 1 f_init _ ["self"] (spInit C) := ok_init F_init T
  have m_dig : Met l.prog w K mg base C 1 "take_digit" (["self", "digit"] : List Str) (spDigit C) f_dig _ := ⟨⟨a_dig, i_dig, k_dig⟩, b_dig, ok_digit F_dig GR T⟩
  have m_com : Met l.prog w K mg base C 1 "take_comma" (["self"] : List Str) (spComma C) f_com _ := ⟨⟨a_com, i_com, k_com⟩, b_com, ok_comma F_com G T⟩
  have m_end : Met l.prog w K mg base C 2 "end_corner" (["self"] : List Str) (spEnd C) f_end _ := ⟨⟨a_end, i_end, k_end⟩, b_end, ok_end F_end G T c_place⟩
  have m_bl : Met l.prog w K mg base C 3 "take_blank" (["self"] : List Str) (spBlank C) f_bl _ := ⟨⟨a_bl, i_bl, k_bl⟩, b_bl, ok_blank F_bl G T m_end⟩
  have m_fe : Met l.prog w K mg base C 3 "take_line_feed" (["self"] : List Str) (spFeed C) f_fe _ := ⟨⟨a_fe, i_fe, k_fe⟩, b_fe, ok_feed F_fe G GR T m_end⟩
  have m_take : Met l.prog w K mg base C 4 "take" (["self", "byte"] : List Str) (spTake C) f_take _ := ⟨⟨a_take, i_take, k_take⟩, b_take, ok_take F_take G GR T m_dig m_com m_bl m_fe⟩
  have c_read_text : Cal l.prog w K mg base 5 "read_text" (["t"] : List Str) (spRead K C) f_read_text _ := ⟨PySem.W.mg_of X N a_read_text, k_read_text, b_read_text, ok_read F_read_text G T M b_init o_init m_take⟩
  have c_wall_steps : Cal l.prog w K mg base 1 "wall_steps" (["house"] : List Str) spSteps f_wall_steps _ := ⟨PySem.W.mg_of X N a_wall_steps, k_wall_steps, b_wall_steps, ok_steps F_wall_steps G⟩
  have c_points_of_walk : Cal l.prog w K mg base 1 "points_of_walk" (["steps", "first"] : List Str) spPoints f_points_of_walk _ := ⟨PySem.W.mg_of X N a_points_of_walk, k_points_of_walk, b_points_of_walk, ok_points F_points_of_walk G⟩
  have c_corners_of_walk : Cal l.prog w K mg base 1 "corners_of_walk" (["steps", "points"] : List Str) spCorners f_corners_of_walk _ := ⟨PySem.W.mg_of X N a_corners_of_walk, k_corners_of_walk, b_corners_of_walk, ok_corners F_corners_of_walk G⟩
  have c_walk_rows : Cal l.prog w K mg base 2 "walk_rows" (["house"] : List Str) spRows f_walk_rows _ := ⟨PySem.W.mg_of X N a_walk_rows, k_walk_rows, b_walk_rows, ok_rows F_walk_rows G c_wall_steps c_points_of_walk c_corners_of_walk⟩
  have c_meet_in_point_alone : Cal l.prog w K mg base 1 "meet_in_point_alone" (["house"] : List Str) spMeet f_meet_in_point_alone _ := ⟨PySem.W.mg_of X N a_meet_in_point_alone, k_meet_in_point_alone, b_meet_in_point_alone, ok_meet F_meet_in_point_alone G⟩
  have c_reached_from : Cal l.prog w K mg base 2 "reached_from" (["spots", "first"] : List Str) spReached f_reached_from _ := ⟨PySem.W.mg_of X N a_reached_from, k_reached_from, b_reached_from, ok_reached F_reached_from c_beside⟩
  have c_is_house : Cal l.prog w K mg base 3 "is_house" (["house"] : List Str) spIsHouse f_is_house _ := ⟨PySem.W.mg_of X N a_is_house, k_is_house, b_is_house, ok_isHouse F_is_house G c_meet_in_point_alone c_reached_from⟩
  have c_at_right_angles : Cal l.prog w K mg base 2 "at_right_angles" (["lines"] : List Str) spRight f_at_right_angles _ := ⟨PySem.W.mg_of X N a_at_right_angles, k_at_right_angles, b_at_right_angles, ok_right F_at_right_angles G c_eastward c_northward⟩
  have c_odd_uprights : Cal l.prog w K mg base 2 "odd_uprights" (["lines"] : List Str) spOdd f_odd_uprights _ := ⟨PySem.W.mg_of X N a_odd_uprights, k_odd_uprights, b_odd_uprights, ok_odd F_odd_uprights G c_eastward⟩
  have c_cells_within : Cal l.prog w K mg base 3 "cells_within" (["lines"] : List Str) spWithin f_cells_within _ := ⟨PySem.W.mg_of X N a_cells_within, k_cells_within, b_cells_within, ok_within F_cells_within G c_odd_uprights⟩
  have c_house_of_lines : Cal l.prog w K mg base 4 "house_of_lines" (["lines"] : List Str) spHouseL f_house_of_lines _ := ⟨PySem.W.mg_of X N a_house_of_lines, k_house_of_lines, b_house_of_lines, ok_houseL F_house_of_lines c_at_right_angles c_cells_within c_is_house c_walk_rows⟩
  have c_house_of_text : Cal l.prog w K mg base 6 "house_of_text" (["t"] : List Str) (spHouseT K) f_house_of_text _ := ⟨PySem.W.mg_of X N a_house_of_text, k_house_of_text, b_house_of_text, ok_houseT F_house_of_text T c_read_text c_house_of_lines⟩
  have c_four_from : Cal l.prog w K mg base 1 "four_from" (["spot"] : List Str) spFour f_four_from _ := ⟨PySem.W.mg_of X N a_four_from, k_four_from, b_four_from, ok_four F_four_from G⟩
  have c_half_cells : Cal l.prog w K mg base 2 "half_cells" (["house"] : List Str) spHalf f_half_cells _ := ⟨PySem.W.mg_of X N a_half_cells, k_half_cells, b_half_cells, ok_half F_half_cells c_four_from⟩
  have c_border_within : Cal l.prog w K mg base 1 "border_within" (["halves", "least", "side"] : List Str) spBorder f_border_within _ := ⟨PySem.W.mg_of X N a_border_within, k_border_within, b_border_within, ok_border F_border_within G⟩
  have c_room_about : Cal l.prog w K mg base 2 "room_about" (["halves", "least", "side"] : List Str) spRoom f_room_about _ := ⟨PySem.W.mg_of X N a_room_about, k_room_about, b_room_about, ok_room F_room_about G c_border_within⟩
  have c_height_over : Cal l.prog w K mg base 3 "height_over" (["halves", "point"] : List Str) spHeightO f_height_over _ := ⟨PySem.W.mg_of X N a_height_over, k_height_over, b_height_over, ok_heightO F_height_over c_room_about⟩
  have c_highest_point : Cal l.prog w K mg base 6 "highest_point" (["halves"] : List Str) (spHighP T0) f_highest_point _ := ⟨PySem.W.mg_of X N a_highest_point, k_highest_point, b_highest_point, ok_highP l_highest_point h_highest_point G B c_height_over⟩
  exact ok_highest F_highest c_house_of_text c_half_cells c_highest_point c_height_over c_eastward c_northward
end Pf
open PySem PySem.W PyProof.Rows
set_option maxRecDepth 100000 in
set_option maxHeartbeats 0 in
theorem PySem.Challenge.cw_roofplans_s10_highest_holds : PySem.Challenge.rw_roofplans_s10_highest.Holds := by
  w_on; k_headS
  (case hw => exact ⟨[.list []], by decide +kernel, by decide +kernel⟩)
  k_fillS
  refine L2.walkST (r := PySem.Challenge.rw_roofplans_s10_highest) (k := 7) (ps := (["t"] : List Str)) (sp := Pf.spHighest) (nm := "highest_point") Pf.pre_highest ⟨rfl, by decide, by decide⟩ (fun w h Y => PySem.W.kIn_of Y) (by decide +kernel) ?F Pf.sp_highest
  case F =>
    intro w mg fa h KX G hmg
    refine' Pf.all_mk KX G hmg ?a_place ?l_place ?h_place ?k_place ?a_eastward ?l_eastward ?h_eastward ?k_eastward ?a_northward ?l_northward ?h_northward ?k_northward ?a_beside ?l_beside ?h_beside ?k_beside ?a_read_text ?l_read_text ?h_read_text ?k_read_text ?a_wall_steps ?l_wall_steps ?h_wall_steps ?k_wall_steps ?a_points_of_walk ?l_points_of_walk ?h_points_of_walk ?k_points_of_walk ?a_corners_of_walk ?l_corners_of_walk ?h_corners_of_walk ?k_corners_of_walk ?a_walk_rows ?l_walk_rows ?h_walk_rows ?k_walk_rows ?a_meet_in_point_alone ?l_meet_in_point_alone ?h_meet_in_point_alone ?k_meet_in_point_alone ?a_reached_from ?l_reached_from ?h_reached_from ?k_reached_from ?a_is_house ?l_is_house ?h_is_house ?k_is_house ?a_at_right_angles ?l_at_right_angles ?h_at_right_angles ?k_at_right_angles ?a_odd_uprights ?l_odd_uprights ?h_odd_uprights ?k_odd_uprights ?a_cells_within ?l_cells_within ?h_cells_within ?k_cells_within ?a_house_of_lines ?l_house_of_lines ?h_house_of_lines ?k_house_of_lines ?a_house_of_text ?l_house_of_text ?h_house_of_text ?k_house_of_text ?a_four_from ?l_four_from ?h_four_from ?k_four_from ?a_half_cells ?l_half_cells ?h_half_cells ?k_half_cells ?a_border_within ?l_border_within ?h_border_within ?k_border_within ?a_room_about ?l_room_about ?h_room_about ?k_room_about ?a_height_over ?l_height_over ?h_height_over ?k_height_over ?a_highest_point ?l_highest_point ?h_highest_point ?k_highest_point ?a_highest ?l_highest ?h_highest ?k_highest ?a_C ?a_init ?l_init ?h_init ?k_init ?i_init ?a_dig ?l_dig ?h_dig ?k_dig ?i_dig ?a_com ?l_com ?h_com ?k_com ?i_com ?a_end ?l_end ?h_end ?k_end ?i_end ?a_bl ?l_bl ?h_bl ?k_bl ?i_bl ?a_fe ?l_fe ?h_fe ?k_fe ?i_fe ?a_take ?l_take ?h_take ?k_take ?i_take ?pgC ?hdC ?poC ?saC ?mkC ?kcC ?n_lines ?n_corners ?n_x ?n_number ?n_wrong ?a_ROW ?a_LINE_FEED ?a_BLANK ?a_COMMA ?a_DIGIT_0 ?a_DIGIT_9 ?a_GREATEST ?a_LEAST_CORNERS ?a_MOST_CELLS ?l_cc ?v_cc ?n_T ?a_len ?a_enumerate ?a_range ?a_sorted ?a_min ?a_max ?a_sum ?a_all ?a_any ?a_dict
    (case a_place => k_is)
    (case l_place => k_is)
    (case h_place => k_is)
    (case k_place => k_is)
    (case a_eastward => k_is)
    (case l_eastward => k_is)
    (case h_eastward => k_is)
    (case k_eastward => k_is)
    (case a_northward => k_is)
    (case l_northward => k_is)
    (case h_northward => k_is)
    (case k_northward => k_is)
    (case a_beside => k_is)
    (case l_beside => k_is)
    (case h_beside => k_is)
    (case k_beside => k_is)
    (case a_read_text => k_is)
    (case l_read_text => k_is)
    (case h_read_text => k_is)
    (case k_read_text => k_is)
    (case a_wall_steps => k_is)
    (case l_wall_steps => k_is)
    (case h_wall_steps => k_is)
    (case k_wall_steps => k_is)
    (case a_points_of_walk => k_is)
    (case l_points_of_walk => k_is)
    (case h_points_of_walk => k_is)
    (case k_points_of_walk => k_is)
    (case a_corners_of_walk => k_is)
    (case l_corners_of_walk => k_is)
    (case h_corners_of_walk => k_is)
    (case k_corners_of_walk => k_is)
    (case a_walk_rows => k_is)
    (case l_walk_rows => k_is)
    (case h_walk_rows => k_is)
    (case k_walk_rows => k_is)
    (case a_meet_in_point_alone => k_is)
    (case l_meet_in_point_alone => k_is)
    (case h_meet_in_point_alone => k_is)
    (case k_meet_in_point_alone => k_is)
    (case a_reached_from => k_is)
    (case l_reached_from => k_is)
    (case h_reached_from => k_is)
    (case k_reached_from => k_is)
    (case a_is_house => k_is)
    (case l_is_house => k_is)
    (case h_is_house => k_is)
    (case k_is_house => k_is)
    (case a_at_right_angles => k_is)
    (case l_at_right_angles => k_is)
    (case h_at_right_angles => k_is)
    (case k_at_right_angles => k_is)
    (case a_odd_uprights => k_is)
    (case l_odd_uprights => k_is)
    (case h_odd_uprights => k_is)
    (case k_odd_uprights => k_is)
    (case a_cells_within => k_is)
    (case l_cells_within => k_is)
    (case h_cells_within => k_is)
    (case k_cells_within => k_is)
    (case a_house_of_lines => k_is)
    (case l_house_of_lines => k_is)
    (case h_house_of_lines => k_is)
    (case k_house_of_lines => k_is)
    (case a_house_of_text => k_is)
    (case l_house_of_text => k_is)
    (case h_house_of_text => k_is)
    (case k_house_of_text => k_is)
    (case a_four_from => k_is)
    (case l_four_from => k_is)
    (case h_four_from => k_is)
    (case k_four_from => k_is)
    (case a_half_cells => k_is)
    (case l_half_cells => k_is)
    (case h_half_cells => k_is)
    (case k_half_cells => k_is)
    (case a_border_within => k_is)
    (case l_border_within => k_is)
    (case h_border_within => k_is)
    (case k_border_within => k_is)
    (case a_room_about => k_is)
    (case l_room_about => k_is)
    (case h_room_about => k_is)
    (case k_room_about => k_is)
    (case a_height_over => k_is)
    (case l_height_over => k_is)
    (case h_height_over => k_is)
    (case k_height_over => k_is)
    (case a_highest_point => k_is)
    (case l_highest_point => k_is)
    (case h_highest_point => k_is)
    (case k_highest_point => k_is)
    (case a_highest => k_is)
    (case l_highest => k_is)
    (case h_highest => k_is)
    (case k_highest => k_is)
    (case a_C => k_is)
    (case a_init => k_is)
    (case l_init => k_is)
    (case h_init => k_is)
    (case k_init => k_is)
    (case i_init => k_is)
    (case a_dig => k_is)
    (case l_dig => k_is)
    (case h_dig => k_is)
    (case k_dig => k_is)
    (case i_dig => k_is)
    (case a_com => k_is)
    (case l_com => k_is)
    (case h_com => k_is)
    (case k_com => k_is)
    (case i_com => k_is)
    (case a_end => k_is)
    (case l_end => k_is)
    (case h_end => k_is)
    (case k_end => k_is)
    (case i_end => k_is)
    (case a_bl => k_is)
    (case l_bl => k_is)
    (case h_bl => k_is)
    (case k_bl => k_is)
    (case i_bl => k_is)
    (case a_fe => k_is)
    (case l_fe => k_is)
    (case h_fe => k_is)
    (case k_fe => k_is)
    (case i_fe => k_is)
    (case a_take => k_is)
    (case l_take => k_is)
    (case h_take => k_is)
    (case k_take => k_is)
    (case i_take => k_is)
    (case pgC => k_is)
    (case hdC => k_is)
    (case poC => k_is)
    (case saC => k_is)
    (case mkC => k_is)
    (case kcC => k_is)
    (case n_lines => k_is)
    (case n_corners => k_is)
    (case n_x => k_is)
    (case n_number => k_is)
    (case n_wrong => k_is)
    (case a_ROW => k_is)
    (case a_LINE_FEED => k_is)
    (case a_BLANK => k_is)
    (case a_COMMA => k_is)
    (case a_DIGIT_0 => k_is)
    (case a_DIGIT_9 => k_is)
    (case a_GREATEST => k_is)
    (case a_LEAST_CORNERS => k_is)
    (case a_MOST_CELLS => k_is)
    (case l_cc => k_is)
    (case v_cc => first | exact rfl | kernel_rfl)
    (case n_T => first | exact rfl | kernel_rfl)
    (case a_len => k_is)
    (case a_enumerate => k_is)
    (case a_range => k_is)
    (case a_sorted => k_is)
    (case a_min => k_is)
    (case a_max => k_is)
    (case a_sum => k_is)
    (case a_all => k_is)
    (case a_any => k_is)
    (case a_dict => k_is)
#print axioms PySem.Challenge.cw_roofplans_s10_highest_holds
